import PyProof.Rows.All
import Wide.All
import OpenK.AllK
import Wide.FinOn
import Lean
import PyProof.EqAt
import PyProof.EqKinds
import PyProof.TupleCall
import PyProof.StationsW
import PyProof.ExcAttrAll.ValueError
import PySem.Challenge.RW_lugtrain_k40_whole_rows_that_leave_all_a

set_option Elab.async false
set_option linter.all false
set_option maxRecDepth 100000
/-! THE HAND LAYER, for ints, bools, texts, own classes, LISTS and tuples (index, slices, in, append, pop ..), calls, loops. Paste it whole ahead of your own text; what your proof does not reach may be deleted. -/
namespace L2
open PySem PySem.Spec PyProof.Rows

/-- a key: an int or a str -/
abbrev Key := Sum Int Str
def keyIs : Key → Value → Bool
  | .inl k, v => Value.isInt k v
  | .inr x, v => Value.isStrOf x v
def keyH (w : World) : Key → Int
  | .inl k => hashInt k
  | .inr x => hashStr w x
theorem keyIs_shape : ∀ {k : Key} {v : Value}, keyIs k v = true → (∃ i t, k = Sum.inl i ∧ v = Value.int i t) ∨ (∃ x t, k = Sum.inr x ∧ v = Value.str x t)
  | .inl i, v, h => by
    obtain ⟨t, e⟩ := Value.isInt_shape (k := i) (v := v) h
    exact .inl ⟨i, t, rfl, e⟩
  | .inr x, v, h => by
    obtain ⟨t, e⟩ := Value.isStrOf_shape (x := x) (v := v) h
    exact .inr ⟨x, t, rfl, e⟩
theorem keyIs_int (i : Int) (t : Tok) : keyIs (.inl i) (.int i t) = true := by simp [keyIs, Value.isInt]
theorem keyIs_str (x : Str) (t : Tok) : keyIs (.inr x) (.str x t) = true := by simp [keyIs, Value.isStrOf]
theorem key_ll (a b : Int) : decide ((Sum.inl a : Key) = Sum.inl b) = (a == b) := by
  by_cases e : a = b
  · subst e; simp
  · have h : ¬ (Sum.inl a : Key) = Sum.inl b := fun q => e (Sum.inl.inj q)
    rw [decide_eq_false h]
    exact (beq_eq_false_iff_ne.mpr e).symm
theorem key_rr (a b : Str) : decide ((Sum.inr a : Key) = Sum.inr b) = decide (a = b) := by
  by_cases e : a = b
  · subst e; simp
  · have h : ¬ (Sum.inr a : Key) = Sum.inr b := fun q => e (Sum.inr.inj q)
    rw [decide_eq_false h, decide_eq_false e]
theorem key_lr (a : Int) (b : Str) : decide ((Sum.inl a : Key) = Sum.inr b) = false := decide_eq_false (fun q => nomatch q)
theorem key_rl (a : Str) (b : Int) : decide ((Sum.inr a : Key) = Sum.inl b) = false := decide_eq_false (fun q => nomatch q)

def mixKind (prog : Program) (w : World) : PySem.KeyKind prog w Key where
  is := keyIs
  hash := keyH w
  inj := fun v a b ha hb => by
    rcases keyIs_shape ha with ⟨i, t, rfl, rfl⟩ | ⟨x, t, rfl, rfl⟩
    · rcases keyIs_shape hb with ⟨j, u, rfl, e⟩ | ⟨y, u, rfl, e⟩
      · injection e with e1 _; rw [e1]
      · exact nomatch e
    · rcases keyIs_shape hb with ⟨j, u, rfl, e⟩ | ⟨y, u, rfl, e⟩
      · exact nomatch e
      · injection e with e1 _; rw [e1]
  byValue := fun k v h => by
    rcases keyIs_shape h with ⟨i, t, rfl, rfl⟩ | ⟨x, t, rfl, rfl⟩ <;> rfl
  pyHash := fun hv h => by
    rcases keyIs_shape hv with ⟨i, t, rfl, rfl⟩ | ⟨x, t, rfl, rfl⟩
    · exact wpAny_pyHash_int h
    · exact wpAny_pyHash_str h
  eqBool := fun hu hv h => by
    rcases keyIs_shape hu with ⟨i, t, rfl, rfl⟩ | ⟨x, t, rfl, rfl⟩
    · rcases keyIs_shape hv with ⟨j, u, rfl, rfl⟩ | ⟨y, u, rfl, rfl⟩
      · rw [key_ll] at h; exact wpAny_eqBool_int h
      · rw [key_lr] at h; exact SeqAt.EqAt.int_str i t y u _ _ _ _ h
    · rcases keyIs_shape hv with ⟨j, u, rfl, rfl⟩ | ⟨y, u, rfl, rfl⟩
      · rw [key_rl] at h; exact SeqAt.EqAt.str_int x t j u _ _ _ _ h
      · rw [key_rr] at h; exact wpAny_eqBool_str h
  «strs» := fun k x t v h => by
    rcases keyIs_shape h with ⟨i, u, rfl, e⟩ | ⟨y, u, rfl, e⟩
    · exact nomatch e
    · injection e with e1 _
      subst e1
      cases v <;> rfl

theorem mixKind_int (prog : Program) (w : World) (i : Int) (t : Tok) : (mixKind prog w).is (.inl i) (.int i t) = true := keyIs_int i t
theorem mixKind_str (prog : Program) (w : World) (x : Str) (t : Tok) : (mixKind prog w).is (.inr x) (.str x t) = true := keyIs_str x t
end L2

namespace L2
open PySem PySem.Spec PyProof.Rows

/-- a value, without the heap -/
inductive V where
  | non | bl (b : Bool) | int (i : Int) | str (x : Str) | byt (b : Array UInt8) | flt (b : UInt64) | ref (a : Addr) | ty (n : String)
  deriving DecidableEq

def RelV : V → Value → Prop
  | .non, u => u = Value.none
  | .bl b, u => u = Value.bool b
  | .int i, u => ∃ t, u = Value.int i t
  | .str x, u => ∃ t, u = Value.str x t
  | .byt b, u => ∃ t, u = Value.bytes b t
  | .flt b, u => ∃ t, u = Value.float b t
  | .ref a, u => u = Value.ref a
  | .ty n, u => u = Value.type n

abbrev Vals : List V → List Value → Prop := Paired RelV
theorem Vals.length {xs : List V} {us : List Value} (r : Vals xs us) : xs.length = us.length := Paired.length r
theorem Vals.get : ∀ {xs : List V} {us : List Value} {i : Nat} {x : V}, Vals xs us → xs[i]? = some x → ∃ u, us[i]? = some u ∧ RelV x u
  | _, _, _, _, .nil, e => by simp at e
  | _, _, 0, _, .cons r _, e => by simp at e; subst e; exact ⟨_, rfl, r⟩
  | _, _, i + 1, x, .cons _ t, e => by
    obtain ⟨u, h1, h2⟩ := Vals.get (i := i) (x := x) t (by simpa using e)
    exact ⟨u, by simpa using h1, h2⟩
theorem Vals.append : ∀ {xs ys : List V} {us ws : List Value}, Vals xs us → Vals ys ws → Vals (xs ++ ys) (us ++ ws)
  | _, _, _, _, .nil, s => s
  | _, _, _, _, .cons r t, s => .cons r (Vals.append t s)
theorem Vals.take : ∀ {xs : List V} {us : List Value} (n : Nat), Vals xs us → Vals (xs.take n) (us.take n)
  | _, _, 0, _ => .nil
  | _, _, _ + 1, .nil => .nil
  | _, _, n + 1, .cons r t => .cons r (Vals.take n t)
theorem Vals.drop : ∀ {xs : List V} {us : List Value} (n : Nat), Vals xs us → Vals (xs.drop n) (us.drop n)
  | _, _, 0, r => r
  | _, _, _ + 1, .nil => .nil
  | _, _, n + 1, .cons _ t => Vals.drop n t
def RelO : Option V → Option Value → Prop
  | some v, some u => RelV v u
  | none, none => True
  | _, _ => False
def KV {κ : Type} : List (κ × V) → List (κ × Value) → Prop := Paired fun (p : κ × V) (q : κ × Value) => p.1 = q.1 ∧ RelV p.2 q.2

/-- a key of a dict (00_mix): an int or a text -/
def kV : Key → V
  | .inl i => .int i
  | .inr x => .str x

/-- what stands at a tracked address -/
inductive HO where
  /-- a list -/
  | lst (xs : List V)
  /-- a tuple (never changes) -/
  | tup (xs : List V)
  /-- a dict whose keys are ints and texts; one whose keys are tuples of ints and texts (the empty one is both) -/
  | dK (kvs : List (Key × V)) | dT (kvs : List (List Key × V))
  /-- a set of ints: its members, its size -/
  | set (S : Int → Bool) (n : Nat)
  /-- an instance of the class at C, its dict at dx, its attributes -/
  | ins (C dx : Addr) (fs : List (Str × V))
  /-- the dict of the instance at x -/
  | own (x : Addr)
  /-- the dict of an exception -/
  | xd (fs : List (Str × V))
  /-- a bound method, f of x -/
  | met (f x : Addr)
  /-- a range object lo, lo + 1, .. below hi -/
  | rng (lo hi : Int)
  /-- a thing that is known to the object (the script; a dict while a loop walks it): read, never written while it is so -/
  | frz (o : Obj) (u : HO)
  /-- a code object's table -/
  | tbl (ps : Array Value)
  /-- any other thing, by what is true of its one object (a def of one's own: SetO a S n := HO.ext fun h => ..) -/
  | ext (φ : Heap → Prop)

abbrev Hp := Addr → Option HO
def upd (H : Hp) (a : Addr) (o : HO) : Hp := fun b => if b = a then some o else H b
theorem upd_same {H : Hp} {a : Addr} {o : HO} : upd H a o a = some o := by unfold upd; rw [if_pos rfl]
theorem upd_ne {H : Hp} {a b : Addr} {o : HO} (h : b ≠ a) : upd H a o b = H b := by unfold upd; rw [if_neg h]
theorem ne_of_none {H : Hp} {a b : Addr} {o : HO} (h : H a = some o) (h' : H b = none) : a ≠ b := by
  intro e; subst e; rw [h] at h'; cases h'

section
variable (P : Program) (w : World)
def ObjOk (H : Hp) (h : Heap) (a : Addr) : HO → Prop
  | .lst xs => xs.length ≤ sizeLine ∧ ∃ (its : List Value) (n : Nat), Vals xs its ∧ h.get? a = some { cls := .type "list", data := .seq its.toArray n }
  | .tup xs => xs.length ≤ sizeLine ∧ ∃ its : List Value, Vals xs its ∧ IsTup h a its.toArray
  | .dK kvs => kvs.length ≤ sizeLine ∧ (a == sysModules) = false ∧ ∃ vs, KV kvs vs ∧ h.DictOf (mixKind P w) a vs
  | .dT kvs => kvs.length ≤ sizeLine ∧ (a == sysModules) = false ∧ ∃ xs : List (List Key × Addr × Value),
      Paired (fun (p : List Key × V) (q : List Key × Addr × Value) => p.1 = q.1 ∧ H q.2.1 = some (.tup (p.1.map kV)) ∧ RelV p.2 q.2.2) kvs xs ∧
      ∃ o es ep, h.get? a = some o ∧ o.ExactDict ∧ o.data = .dict es ep ∧ es.toList = xs.map (entryOfKey (tupleKind (mixKind P w))) ∧ (xs.map (·.1)).Nodup
  | .set S n => h.SetOf (intKind P w) a S n
  | .ins C dx fs => H dx = some (.own a) ∧ fs.length ≤ 1000 ∧ dx ≠ a ∧ h.get? a = some (PySem.W.instObj C dx) ∧
      ∃ mA, h.Ns1 dx mA ∧ (∀ f, RelO (fs.lookup f) (mA f)) ∧ PySem.Within mA (fs.map (·.1))
  | .own _ => ∃ o, h.get? a = some o
  | .xd fs => ∃ mA, h.Ns1 a mA ∧ ∀ f, RelO (fs.lookup f) (mA f)
  | .rng lo hi => ∃ t u v, h.get? a = some { cls := .type "range", data := .fields #[.int lo t, .int hi u, .int 1 v] }
  | .frz o u => h.get? a = some o ∧ ObjOk H h a u
  | .tbl ps => h.get? a = some { cls := .none, data := .fields ps }
  | .met f x => h.get? a = some (PySem.W.methodObj (.ref f) (.ref x))
  | .ext φ => φ h ∧ (∃ o, h.get? a = some o) ∧ ∀ h1 h2 : Heap, φ h1 → (∀ o, h1.get? a = some o → h2.get? a = some o) → φ h2
/-- the abstract heap is held -/
def HOk (H : Hp) (h : Heap) : Prop := ∀ a o, H a = some o → ObjOk P w H h a o
end

section
variable {P : Program} {w : World} {H H' : Hp} {h h' : Heap} {a : Addr} {o : HO}
theorem ObjOk.lt (x : ObjOk P w H h a o) : a < h.objs.size := by
  cases o with
  | lst xs => obtain ⟨_, _, _, _, e⟩ := x; exact Heap.lt_size e
  | tup xs => obtain ⟨_, _, _, p⟩ := x; exact p.lt
  | dK kvs => obtain ⟨_, _, _, _, o, _, _, e, _⟩ := x; exact Heap.lt_size e
  | dT kvs => obtain ⟨_, _, _, _, o, _, _, e, _⟩ := x; exact Heap.lt_size e
  | set S n => obtain ⟨o, _, _, _, e, _⟩ := x; exact Heap.lt_size e
  | ins C dx fs => obtain ⟨_, _, _, e, _⟩ := x; exact Heap.lt_size e
  | own y => obtain ⟨_, e⟩ := x; exact Heap.lt_size e
  | xd fs => obtain ⟨_, ⟨_, _, _, e, _⟩, _⟩ := x; exact Heap.lt_size e
  | rng lo hi => obtain ⟨_, _, _, e⟩ := x; exact Heap.lt_size e
  | frz ob u => obtain ⟨e, _⟩ := x; exact Heap.lt_size e
  | tbl ps => exact Heap.lt_size (show h.get? a = some _ from x)
  | met f y => exact Heap.lt_size (show h.get? a = some _ from x)
  | ext φ => obtain ⟨_, ⟨_, e⟩, _⟩ := x; exact Heap.lt_size e
theorem Paired.mapP {α β : Type} {F G : α → β → Prop} : ∀ {l₁ : List α} {l₂ : List β}, Paired F l₁ l₂ → (∀ a b, F a b → G a b) → Paired G l₁ l₂
  | _, _, .nil, _ => .nil
  | _, _, .cons r t, f => .cons (f _ _ r) (Paired.mapP t f)
/-- what an object's description leans on: its own object, its own dict, the tuples -/
theorem ObjOk.stay (x : ObjOk P w H h a o) (k : ∀ b u, (b = a ∨ H b = some (.own a)) → h.get? b = some u → h'.get? b = some u)
    (ho : ∀ b, H b = some (.own a) → H' b = some (.own a)) (ht : ∀ b xs, H b = some (.tup xs) → H' b = some (.tup xs)) : ObjOk P w H' h' a o := by
  induction o with
  | lst xs => obtain ⟨z, its, n, r, e⟩ := x; exact ⟨z, its, n, r, k _ _ (.inl rfl) e⟩
  | tup xs => obtain ⟨z, its, r, ob, e, c⟩ := x; exact ⟨z, its, r, ob, k _ _ (.inl rfl) e, c⟩
  | dK kvs => obtain ⟨z, y, vs, r, ob, es, ep, e, c⟩ := x; exact ⟨z, y, vs, r, ob, es, ep, k _ _ (.inl rfl) e, c⟩
  | dT kvs =>
    obtain ⟨z, y, xs, r, ob, es, ep, e, c⟩ := x
    exact ⟨z, y, xs, Paired.mapP r fun p q z => ⟨z.1, ht _ _ z.2.1, z.2.2⟩, ob, es, ep, k _ _ (.inl rfl) e, c⟩
  | set S n => obtain ⟨ob, es, ep, t, e, c⟩ := x; exact ⟨ob, es, ep, t, k _ _ (.inl rfl) e, c⟩
  | ins C dx fs =>
    obtain ⟨d, z, ne, e, mA, ⟨od, es, ep, e2, c⟩, r⟩ := x
    exact ⟨ho _ d, z, ne, k _ _ (.inl rfl) e, mA, ⟨od, es, ep, k _ _ (.inr d) e2, c⟩, r⟩
  | own y => obtain ⟨ob, e⟩ := x; exact ⟨ob, k _ _ (.inl rfl) e⟩
  | xd fs => obtain ⟨mA, ⟨od, es, ep, e, c⟩, r⟩ := x; exact ⟨mA, ⟨od, es, ep, k _ _ (.inl rfl) e, c⟩, r⟩
  | rng lo hi => obtain ⟨t, u, v, e⟩ := x; exact ⟨t, u, v, k _ _ (.inl rfl) e⟩
  | frz ob u ih => obtain ⟨e, q⟩ := x; exact ⟨k _ _ (.inl rfl) e, ih q⟩
  | tbl ps =>
    have e : h.get? a = some { cls := .none, data := .fields ps } := x
    show h'.get? a = some { cls := .none, data := .fields ps }
    exact k a _ (.inl rfl) e
  | met f y =>
    have e : h.get? a = some (PySem.W.methodObj (.ref f) (.ref y)) := x
    show h'.get? a = some (PySem.W.methodObj (.ref f) (.ref y))
    exact k a _ (.inl rfl) e
  | ext φ => obtain ⟨p, ⟨o, e⟩, st⟩ := x; exact ⟨st _ _ p fun o q => k _ _ (.inl rfl) q, ⟨o, k _ _ (.inl rfl) e⟩, st⟩
theorem HOk.lt (x : HOk P w H h) (e : H a = some o) : a < h.objs.size := (x a o e).lt
theorem HOk.fresh (x : HOk P w H h) (e : h.objs.size ≤ a) : H a = none := by
  cases q : H a with
  | none => rfl
  | some u => exact absurd (Nat.lt_of_lt_of_le (x.lt q) e) (Nat.lt_irrefl _)
/-- every object of the heap is kept -/
theorem HOk.kept (x : HOk P w H h) (k : ∀ b u, h.get? b = some u → h'.get? b = some u) : HOk P w H h' := fun a o e =>
  (x a o e).stay (fun b u _ q => k b u q) (fun _ q => q) fun _ _ q => q
/-- a new object is laid and tracked -/
theorem HOk.laid (x : HOk P w H h) (k : ∀ b u, h.get? b = some u → h'.get? b = some u) (hp : h.objs.size ≤ a) (new : ObjOk P w (upd H a o) h' a o) : HOk P w (upd H a o) h' := fun b u e => by
  have hn := x.fresh hp
  by_cases hb : b = a
  · subst hb; rw [upd_same] at e; cases e; exact new
  · rw [upd_ne hb] at e
    exact (x b u e).stay (fun c v _ q => k c v q) (fun c q => by rw [upd_ne (ne_of_none q hn)]; exact q) fun c xs q => by rw [upd_ne (ne_of_none q hn)]; exact q
end

/-- what may be read as u: it is u, or a known u -/
def Rd (H : Hp) (a : Addr) (u : HO) : Prop := H a = some u ∨ ∃ o, H a = some (.frz o u)
theorem Rd.ok {P : Program} {w : World} {H : Hp} {h : Heap} {a : Addr} {u : HO} (r : Rd H a u) (x : HOk P w H h) : ObjOk P w H h a u := by
  rcases r with r | ⟨o, r⟩
  · exact x a u r
  · obtain ⟨_, q⟩ := x a _ r
    exact q
/-- what may be written -/
def Mut : Option HO → Prop
  | some (.lst _) => True
  | some (.dK _) => True
  | some (.dT _) => True
  | some (.set _ _) => True
  | some (.ins _ _ _) => True
  | some (.ext _) => True
  | _ => False
section
variable {P : Program} {w : World} {H : Hp} {h h' : Heap} {x e : Addr} {o' : HO}
/-- the object at e is changed: x itself, or the dict of the instance x -/
theorem HOk.write (ok : HOk P w H h) (mu : Mut (H x)) (he : e = x ∨ H e = some (.own x)) (k : ∀ b u, b ≠ e → h.get? b = some u → h'.get? b = some u) (heo : ∃ u, h'.get? e = some u)
    (new : ObjOk P w (upd H x o') h' x o') : HOk P w (upd H x o') h' := fun b u q => by
  have nown : ∀ c y, H c = some (.own y) → c ≠ x := fun c y r z => by subst z; rw [r] at mu; exact mu
  have ntup : ∀ c xs, H c = some (.tup xs) → c ≠ x := fun c xs r z => by subst z; rw [r] at mu; exact mu
  by_cases hb : b = x
  · subst hb; rw [upd_same] at q; cases q; exact new
  · rw [upd_ne hb] at q
    by_cases hbe : b = e
    · have q' : H b = some (.own x) := by
        rcases he with z | z
        · exact absurd (hbe.trans z) hb
        · rw [hbe]; exact z
      rw [q] at q'; cases q'
      obtain ⟨v, hv⟩ := heo
      exact ⟨v, by rw [hbe]; exact hv⟩
    · refine (ok b u q).stay (fun c v hc r => k c v ?_ r) (fun c r => by rw [upd_ne (nown c b r)]; exact r) fun c xs r => by rw [upd_ne (ntup c xs r)]; exact r
      rcases hc with rfl | hc
      · exact hbe
      · rintro rfl
        rcases he with z | z
        · exact nown c b hc z
        · rw [hc] at z; cases z; exact hb rfl
end

/-! ### kept unless tracked; of the frames at fs (the callers') the slots may change (an exception that passes writes there); of the records at ex (iterators) nothing is said -/
structure Un (fs ex : List Addr) (H H' : Hp) (h h' : Heap) : Prop where
  keep : ∀ b o, h.get? b = some o → H b = none → b ∉ fs → b ∉ ex → h'.get? b = some o
  slot : ∀ b o, h.get? b = some o → H b = none → b ∈ fs → b ∉ ex → ∃ sl, h'.get? b = some { o with slots := sl }
  free : ∀ b o, h.get? b = some o → H b = none → b ∉ ex → H' b = none
  there : ∀ b o, h.get? b = some o → b ∉ ex → ∃ o', h'.get? b = some o'
  tups : ∀ b xs, H b = some (.tup xs) → H' b = some (.tup xs)
  frzs : ∀ b o u, H b = some (.frz o u) → H' b = some (.frz o u)
  tbls : ∀ b ps, H b = some (.tbl ps) → ∃ more, H' b = some (.tbl (ps ++ more))
section
variable {fs fs' ex ex' : List Addr} {H H1 H2 : Hp} {h h1 h2 h' : Heap} {a x e : Addr} {o : HO}
theorem Un.any (u : Un fs ex H H1 h h1) {b : Addr} {ob : Obj} (q : h.get? b = some ob) (n : H b = none) (hx : b ∉ ex) : ∃ sl, h1.get? b = some { ob with slots := sl } := by
  by_cases hb : b ∈ fs
  · exact u.slot b ob q n hb hx
  · exact ⟨ob.slots, u.keep b ob q n hb hx⟩
theorem Un.kept (k : ∀ b u, h.get? b = some u → h'.get? b = some u) : Un fs ex H H h h' :=
  ⟨fun b ob q _ _ _ => k b ob q, fun b ob q _ _ _ => ⟨ob.slots, k b ob q⟩, fun _ _ _ n _ => n, fun b ob q _ => ⟨ob, k b ob q⟩, fun _ _ q => q, fun _ _ _ q => q, fun _ ps q => ⟨#[], by rw [q]; simp⟩⟩
theorem Un.refl : Un fs ex H H h h := Un.kept fun _ _ q => q
theorem Un.laid (k : ∀ b u, h.get? b = some u → h'.get? b = some u) (hp : h.objs.size ≤ a) (hn : H a = none) : Un fs ex H (upd H a o) h h' where
  keep := fun b u q _ _ _ => k b u q
  slot := fun b u q _ _ _ => ⟨u.slots, k b u q⟩
  free := fun b u q n _ => by rw [upd_ne (Nat.ne_of_lt (Nat.lt_of_lt_of_le (Heap.lt_size q) hp))]; exact n
  there := fun b u q _ => ⟨u, k b u q⟩
  tups := fun b xs q => by rw [upd_ne (ne_of_none q hn)]; exact q
  frzs := fun b u xs q => by rw [upd_ne (ne_of_none q hn)]; exact q
  tbls := fun b ps q => ⟨#[], by rw [upd_ne (ne_of_none q hn), q]; simp⟩
theorem Un.write (mu : Mut (H x)) (he : e = x ∨ H e = some (.own x)) (k : ∀ b u, b ≠ e → h.get? b = some u → h'.get? b = some u) (heo : ∃ u, h'.get? e = some u) : Un fs ex H (upd H x o) h h' := by
  have hx : ∀ b, H b = none → b ≠ x := fun b n z => by subst z; rw [n] at mu; exact mu
  have hb : ∀ b, H b = none → b ≠ e := fun b n z => by
    subst z
    rcases he with r | r
    · exact hx b n r
    · rw [n] at r; cases r
  have hm : ∀ b u, H b = some u → ¬ Mut (some u) → b ≠ x := fun b u q nm z => by subst z; rw [q] at mu; exact nm mu
  refine ⟨fun b u q n _ _ => k b u (hb b n) q, fun b u q n _ _ => ⟨u.slots, k b u (hb b n) q⟩, fun b u q n _ => by rw [upd_ne (hx b n)]; exact n, fun b u q _ => ?_,
    fun b xs q => by rw [upd_ne (hm b _ q fun z => z)]; exact q, fun b u xs q => by rw [upd_ne (hm b _ q fun z => z)]; exact q, fun b ps q => ⟨#[], by rw [upd_ne (hm b _ q fun z => z), q]; simp⟩⟩
  by_cases hbe : b = e
  · subst hbe; exact heo
  · exact ⟨u, k b u hbe q⟩
end

/-! ### the heap without what is tracked -/
def trk (h : Heap) (H : Hp) : List Addr := (List.range h.objs.size).filter fun a => (H a).isSome
def hidT (h : Heap) (H : Hp) : Heap := PySem.W.hideAll h (trk h H)
theorem hidT_size (h : Heap) (H : Hp) : (hidT h H).objs.size = h.objs.size := PySem.W.hideAll_size _ _
theorem hidT_get {h : Heap} {H : Hp} {b : Addr} {o : Obj} (e : h.get? b = some o) (n : H b = none) : (hidT h H).get? b = some o :=
  PySem.W.hideAll_get _ e fun hm => by
    have q : (H b).isSome = true := (List.mem_filter.mp hm).2
    rw [n] at q; simp at q
theorem of_hidT {h : Heap} {H : Hp} {b : Addr} {o : Obj} (e : (hidT h H).get? b = some o) : h.get? b = some o ∧ H b = none := by
  have e' : h.get? b = some o := PySem.W.of_hideAll (trk h H) e
  refine ⟨e', ?_⟩
  cases q : H b with
  | none => rfl
  | some x =>
    have hm : b ∈ trk h H := List.mem_filter.mpr ⟨List.mem_range.mpr (Heap.lt_size e'), by simp [q]⟩
    have z : (hidT h H).get? b = none := PySem.W.hideAll_none (trk h H) hm
    rw [z] at e; cases e

/-! ### OpenK's ledger, filled with every new object but one -/
def allNews (g h : Heap) (L : Addr) : List (Addr × Obj) := (List.range h.objs.size).filterMap fun a => if a = L ∨ (g.get? a).isSome = true then none else (h.get? a).map fun o => (a, o)
def rest (g h : Heap) (L d : Addr) : List (Addr × Obj) := (allNews g h L).filter fun p => decide (p.1 ≠ d)
end L2

namespace L2
open PySem PySem.Spec PyProof.Rows

/-- the module's facts, over the base: the heap at the law's entry without what is tracked there -/
structure Mod (K : PySem.W.Frag) (mg : Str → Option Value) (base : Heap) : Prop where
  kin : K.In base
  glob : base.Ns mainGlobals mg
  blt : ∃ mb, base.Ns builtinsNs mb ∧ ∀ x : Str, x ≠ "__name__" → mb x = bootBuiltins x
  nolimit : base.NoLimit

/-- the context: a def's body (or a comprehension's block) running. base: fixed through the whole law; s₀, H₀: the entry; outer: the frames whose slots others may change (a def's callers); stack: all frames that run;
   ex: iterators that were made ahead of the entry and are walked here (a comprehension's); fn: the names whose cells were made at the entry (a def: all; a comprehension's block: its own); calm: not within an except suite; pn: pins that every state bears; xe: what is wanted of an exception that leaves the code -/
structure Cx where
  prog : Program
  w : World
  K : PySem.W.Frag
  mg : Str → Option Value
  base : Heap
  A : Around
  N : List Str
  s₀ : Shared
  H₀ : Hp
  env : Env
  outer : List Env
  stack : List Env
  ex : List Addr
  fn : Str → Bool
  calm : Bool
  pn : List (Addr × Obj)
  xe : Value → Shared → Prop
/-- the callers' frames -/
def frs (l : List Env) : List Addr := l.filterMap (·.frame)
abbrev Cx.fs (X : Cx) : List Addr := frs X.outer

def Vis (sc : Scope) (x : Str) : Prop := sc.names.lookup x = some .local ∨ sc.names.lookup x = some .cell ∨ sc.names.lookup x = some .free
def Loc (sc : Scope) (x : Str) : Prop := sc.names.lookup x = some .local ∨ sc.names.lookup x = some .cell
def Look (env : Env) (h : Heap) (m : Str → Option Value) (x : Str) (u : Value) : Prop :=
  (env.kindOf x = some .local ∧ m x = some u) ∨ ((env.kindOf x = some .cell ∨ env.kindOf x = some .free) ∧ ∃ c, env.cells.lookup x = some c ∧ h.IsCell c (some u))

structure Cx.Ok (X : Cx) : Prop where
  mod : Mod X.K X.mg X.base
  kind : X.env.scope.kind = .function
  glob : X.env.globals = mainGlobals
  blt : X.env.builtins = builtinsNs
  above : X.s₀.heap.objs.size ≤ X.env.locals
  inj : ∀ x y c, X.env.cells.lookup x = some c → X.env.cells.lookup y = some c → x = y
  has : ∀ x, (X.env.kindOf x = some .cell ∨ X.env.kindOf x = some .free) → ∃ c, X.env.cells.lookup x = some c
  cab : ∀ x c, X.fn x = true → X.env.cells.lookup x = some c → X.s₀.heap.objs.size ≤ c
  hd : X.calm = true → X.A.handled = none
  frames : X.A.frames = some X.stack
  stk : X.stack = X.outer ∨ (X.stack = X.env :: X.outer ∧ X.env.frame = some X.env.locals)
  exf : ∀ b ∈ X.ex, b ≠ X.env.locals ∧ ∀ x c, X.env.cells.lookup x = some c → c ≠ b
  bs : ∀ b o, X.base.get? b = some o → X.s₀.heap.get? b = some o ∧ X.H₀ b = none
  bsz : X.base.objs.size ≤ X.s₀.heap.objs.size
  noex : ∀ b o, X.base.get? b = some o → b ∉ X.ex
  exfs : ∀ b ∈ X.ex, b ∉ X.fs
  funs : X.s₀.heap.FunFrames X.base X.outer
  frf : ∀ b ∈ X.fs, X.H₀ b = none

structure Inv (X : Cx) (pins : List (Addr × Obj)) (σ : List (Option V)) (H : Hp) (s : Shared) : Prop where
  ok : X.Ok
  os : s.os = X.s₀.os
  bare : AllBare s.gens
  base : Un X.fs X.ex X.H₀ H X.s₀.heap s.heap
  loc : ∃ m, s.heap.Ns X.env.locals m ∧ ∀ (i : Nat) (x : Str) (v : V), X.N[i]? = some x → σ[i]? = some (some v) → Vis X.env.scope x → ∃ u, RelV v u ∧ Look X.env s.heap m x u
  cell : ∀ x c, X.env.cells.lookup x = some c → ∃ v, s.heap.IsCell c v
  free : H X.env.locals = none
  freeC : ∀ x c, X.env.cells.lookup x = some c → H c = none
  pin : ∀ p ∈ X.pn ++ pins, s.heap.get? p.1 = some p.2 ∧ H p.1 = none ∧ p.1 ≠ X.env.locals ∧ p.1 ∉ X.fs ∧ ∀ v, p.2.data ≠ .cell v
  hok : HOk X.prog X.w H s.heap
  len : σ.length = X.N.length

section
variable {X : Cx} {pins : List (Addr × Obj)} {σ : List (Option V)} {H H' : Hp} {s : Shared} {h' : Heap}

theorem Cx.Ok.nofr (ok : X.Ok) {b : Addr} {o : Obj} (e : X.base.get? b = some o) : b ∉ X.fs := fun hb => by
  have := (ok.funs.mem hb).1
  rw [e] at this; cases this
theorem Inv.bs (I : Inv X pins σ H s) : ∀ b o, X.base.get? b = some o → s.heap.get? b = some o ∧ H b = none := fun b o e =>
  ⟨I.base.keep b o (I.ok.bs b o e).1 (I.ok.bs b o e).2 (I.ok.nofr e) (I.ok.noex b o e), I.base.free b o (I.ok.bs b o e).1 (I.ok.bs b o e).2 (I.ok.noex b o e)⟩
theorem Inv.bk (I : Inv X pins σ H s) : ∀ b o, X.base.get? b = some o → s.heap.get? b = some o := fun b o e => (I.bs b o e).1
theorem Inv.mod (I : Inv X pins σ H s) : Mod X.K X.mg X.base := I.ok.mod
theorem Inv.kIn (I : Inv X pins σ H s) : X.K.In s.heap := I.ok.mod.kin.keeps I.bk
/-- the frame over the base: for OpenK's rules (K.In X.base is I.mod.kin) -/
theorem Inv.fr (I : Inv X pins σ H s) : ∃ m, Fr X.base X.env.locals s.heap m :=
  let ⟨m, hn, _⟩ := I.loc
  ⟨m, hn, I.bk, Nat.le_trans I.ok.bsz I.ok.above⟩
theorem Inv.lt (I : Inv X pins σ H s) : X.env.locals < s.heap.objs.size := let ⟨_, hn, _⟩ := I.loc; hn.lt
theorem Inv.sz (I : Inv X pins σ H s) : X.s₀.heap.objs.size ≤ s.heap.objs.size := Nat.le_trans I.ok.above (Nat.le_of_lt I.lt)
theorem Inv.nofs (I : Inv X pins σ H s) {a : Addr} (h : s.heap.objs.size ≤ a) : a ∉ X.fs := fun hb => by
  obtain ⟨_, o, ho, _⟩ := I.ok.funs.mem hb
  exact absurd (Nat.lt_of_lt_of_le (Heap.lt_size ho) (Nat.le_trans I.sz h)) (Nat.lt_irrefl _)
theorem Inv.cne (I : Inv X pins σ H s) : ∀ x c, X.env.cells.lookup x = some c → c ≠ X.env.locals := fun x c e z => by
  obtain ⟨v, o, ho, hd⟩ := I.cell x c e
  obtain ⟨m, ⟨o', es, ep, ho', hd', _⟩, _⟩ := I.loc
  rw [z, ho'] at ho; cases ho; rw [hd'] at hd; cases hd
theorem Inv.funs (I : Inv X pins σ H s) : s.heap.FunFrames X.base X.outer := by
  have all : ∀ (l : List Env), (∀ b ∈ frs l, b ∈ X.fs) → X.s₀.heap.FunFrames X.base l → s.heap.FunFrames X.base l := by
    intro l
    induction l with
    | nil => intro _ _; trivial
    | cons env r ih =>
      intro hs hl
      obtain ⟨hk, ⟨L, o, hf, hn, ho, hd⟩, hr⟩ := hl
      have hL : L ∈ X.fs := hs L (by unfold frs; rw [List.filterMap_cons, hf]; exact List.mem_cons_self)
      obtain ⟨sl, e⟩ := I.base.slot L o ho (I.ok.frf L hL) hL fun z => I.ok.exfs L z hL
      exact ⟨hk, ⟨L, _, hf, hn, e, hd⟩, ih (fun b hb => hs b (by unfold frs; rw [List.filterMap_cons, hf]; exact List.mem_cons_of_mem _ hb)) hr⟩
  exact all X.outer (fun _ hb => hb) I.ok.funs

/-- the frames that run, for a call -/
theorem Inv.stack (I : Inv X pins σ H s) : s.heap.FunFrames X.base X.stack := by
  rcases I.ok.stk with e | ⟨e, hf⟩
  · rw [e]; exact I.funs
  · rw [e]
    obtain ⟨m, hn, _⟩ := I.loc
    refine .cons (by rw [I.ok.kind]; decide) hf hn ?_ I.funs
    exact Heap.get?_none_of_le (Nat.le_trans I.ok.bsz I.ok.above)
theorem Inv.stkSub (I : Inv X pins σ H s) : ∀ b ∈ frs X.stack, b ∈ X.env.locals :: X.fs := fun b hb => by
  rcases I.ok.stk with e | ⟨e, hf⟩
  · rw [e] at hb; exact List.mem_cons_of_mem _ hb
  · rw [e] at hb
    unfold frs at hb
    rw [List.filterMap_cons, hf] at hb
    exact hb
theorem Inv.stkFree (I : Inv X pins σ H s) : ∀ b ∈ frs X.stack, H b = none := fun b hb => by
  rcases List.mem_cons.mp (I.stkSub b hb) with e | hb
  · rw [e]; exact I.free
  · obtain ⟨_, o, ho, _⟩ := I.ok.funs.mem hb
    exact I.base.free b o ho (I.ok.frf b hb) fun z => I.ok.exfs b z hb

/-- THE STEP: the untracked objects but the frame and the records at ch are kept (the callers' frames up to slots), the frame's map is kept, the new abstract heap is held -/
theorem Inv.step {g' : Array GenState} {t' : Nat} {d' : Drawn} {ch : List Addr} (I : Inv X pins σ H s)
    (hch : ∀ b ∈ ch, (b ∈ X.ex ∨ X.s₀.heap.objs.size ≤ b) ∧ b ≠ X.env.locals ∧ (∀ x c, X.env.cells.lookup x = some c → c ≠ b) ∧ ∀ p ∈ X.pn ++ pins, p.1 ≠ b)
    (keep : ∀ b o, b ≠ X.env.locals → b ∉ X.fs → b ∉ ch → s.heap.get? b = some o → H b = none → h'.get? b = some o)
    (slot : ∀ b o, b ≠ X.env.locals → b ∈ X.fs → b ∉ ch → s.heap.get? b = some o → H b = none → ∃ sl, h'.get? b = some { o with slots := sl }) (free : ∀ b o, b ∉ ch → s.heap.get? b = some o → H b = none → H' b = none)
    (there : ∀ b o, b ∉ ch → s.heap.get? b = some o → ∃ o', h'.get? b = some o')
    (tups : ∀ b xs, H b = some (.tup xs) → H' b = some (.tup xs)) (frzs : ∀ b o u, H b = some (.frz o u) → H' b = some (.frz o u)) (tbls : ∀ b ps, H b = some (.tbl ps) → ∃ more, H' b = some (.tbl (ps ++ more)))
    (ns : ∀ m, s.heap.Ns X.env.locals m → h'.Ns X.env.locals m) (hok : HOk X.prog X.w H' h') (hg : AllBare g') :
    Inv X pins σ H' { s with heap := h', gens := g', drawn := d', toks := t' } := by
  have neL : ∀ b o, X.s₀.heap.get? b = some o → b ≠ X.env.locals := fun b o e => Nat.ne_of_lt (Nat.lt_of_lt_of_le (Heap.lt_size e) I.ok.above)
  have neC : ∀ b o, X.s₀.heap.get? b = some o → b ∉ X.ex → b ∉ ch := fun b o e hx hb => by
    rcases (hch b hb).1 with z | z
    · exact hx z
    · exact absurd (Nat.lt_of_lt_of_le (Heap.lt_size e) z) (Nat.lt_irrefl _)
  have cellK : ∀ x c, X.env.cells.lookup x = some c → ∀ v, s.heap.IsCell c v → h'.IsCell c v := fun x c e v ⟨o, ho, hd⟩ => by
    have nch : c ∉ ch := fun z => (hch c z).2.2.1 x c e rfl
    by_cases hc : c ∈ X.fs
    · obtain ⟨sl, q⟩ := slot c o (I.cne x c e) hc nch ho (I.freeC x c e)
      exact ⟨_, q, hd⟩
    · exact ⟨o, keep c o (I.cne x c e) hc nch ho (I.freeC x c e), hd⟩
  refine ⟨I.ok, I.os, hg, ⟨fun b o e n hb hx => ?_, fun b o e n hb hx => ?_, fun b o e n hx => ?_, fun b o e hx => ?_, fun b xs e => tups b xs (I.base.tups b xs e), fun b o xs e => frzs b o xs (I.base.frzs b o xs e), fun b ps e => ?_⟩, ?_, fun x c e => ?_, ?_, fun x c e => ?_, fun p hp => ?_, hok, I.len⟩
  · exact keep b o (neL b o e) hb (neC b o e hx) (I.base.keep b o e n hb hx) (I.base.free b o e n hx)
  · obtain ⟨sl, e1⟩ := I.base.slot b o e n hb hx
    obtain ⟨sl', e2⟩ := slot b _ (neL b o e) hb (neC b o e hx) e1 (I.base.free b o e n hx)
    exact ⟨sl', e2⟩
  · obtain ⟨o', e1⟩ := I.base.there b o e hx
    exact free b o' (neC b o e hx) e1 (I.base.free b o e n hx)
  · obtain ⟨o', e1⟩ := I.base.there b o e hx
    exact there b o' (neC b o e hx) e1
  · obtain ⟨m1, e1⟩ := I.base.tbls b ps e
    obtain ⟨m2, e2⟩ := tbls b _ e1
    exact ⟨m1 ++ m2, by rw [e2, Array.append_assoc]⟩
  · obtain ⟨m, hn, hl⟩ := I.loc
    refine ⟨m, ns m hn, fun i x v e1 e2 e3 => ?_⟩
    obtain ⟨u, r, l⟩ := hl i x v e1 e2 e3
    refine ⟨u, r, ?_⟩
    rcases l with l | ⟨k, c, e, z⟩
    · exact .inl l
    · exact .inr ⟨k, c, e, cellK x c e _ z⟩
  · obtain ⟨v, z⟩ := I.cell x c e
    exact ⟨v, cellK x c e v z⟩
  · obtain ⟨m, ⟨o, _, _, ho, _⟩, _⟩ := I.loc
    exact free _ o (fun z => (hch _ z).2.1 rfl) ho I.free
  · obtain ⟨v, o, ho, hd⟩ := I.cell x c e
    exact free c o (fun z => (hch c z).2.2.1 x c e rfl) ho (I.freeC x c e)
  · obtain ⟨e, n, ne, nf, d⟩ := I.pin p hp
    have nch : p.1 ∉ ch := fun z => (hch p.1 z).2.2.2 p hp rfl
    exact ⟨keep p.1 p.2 ne nf nch e n, free p.1 p.2 nch e n, ne, nf, d⟩
/-- .. where the frame's own object is kept too -/
theorem Inv.un {t' : Nat} (I : Inv X pins σ H s) (u : Un X.fs [] H H' s.heap h') (hok : HOk X.prog X.w H' h') : Inv X pins σ H' { s with heap := h', toks := t' } := by
  obtain ⟨m, ⟨o, es, ep, ho, r⟩, _⟩ := id I.loc
  obtain ⟨sl, hL⟩ := u.any ho I.free (by simp)
  exact I.step (g' := s.gens) (d' := s.drawn) (ch := []) (fun _ z => nomatch z) (fun b o _ hb _ e n => u.keep b o e n hb (by simp)) (fun b o _ hb _ e n => u.slot b o e n hb (by simp)) (fun b o _ e n => u.free b o e n (by simp)) (fun b o _ e => u.there b o e (by simp)) u.tups u.frzs u.tbls (fun m' hm => by
    obtain ⟨o', es', ep', ho', r'⟩ := hm
    rw [ho] at ho'; cases ho'
    exact ⟨_, es', ep', hL, r'⟩) hok I.bare
/-- behind a call (or a comprehension's block): the slots of this frame may have changed too, the records at ch may have turned -/
theorem Inv.call {g' : Array GenState} {t' : Nat} {d' : Drawn} {ch : List Addr} (I : Inv X pins σ H s) (u : Un (frs X.stack) ch H H' s.heap h') (hok : HOk X.prog X.w H' h') (hg : AllBare g')
    (hch : ∀ b ∈ ch, (b ∈ X.ex ∨ X.s₀.heap.objs.size ≤ b) ∧ b ≠ X.env.locals ∧ (∀ x c, X.env.cells.lookup x = some c → c ≠ b) ∧ ∀ p ∈ X.pn ++ pins, p.1 ≠ b) :
    Inv X pins σ H' { s with heap := h', gens := g', drawn := d', toks := t' } := by
  obtain ⟨m, ⟨o, es, ep, ho, r⟩, _⟩ := id I.loc
  obtain ⟨sl, hL⟩ := u.any ho I.free fun z => (hch _ z).2.1 rfl
  exact I.step (ch := ch) hch (fun b o hL hb hc e n => u.keep b o e n (fun z => (List.mem_cons.mp (I.stkSub b z)).elim hL hb) hc) (fun b o _ _ hc e n => u.any e n hc) (fun b o hc e n => u.free b o e n hc) (fun b o hc e => u.there b o e hc) u.tups u.frzs u.tbls (fun m' hm => by
    obtain ⟨o', es', ep', ho', r'⟩ := hm
    rw [ho] at ho'; cases ho'
    exact ⟨_, es', ep', hL, r'⟩) hok hg
/-- an untracked record of ours (an iterator) has turned -/
theorem Inv.turned {t' : Nat} {it : Addr} (I : Inv X pins σ H s) (k : ∀ b o, b ≠ it → s.heap.get? b = some o → h'.get? b = some o) (hn : H it = none) (hL : it ≠ X.env.locals)
    (h1 : it ∈ X.ex ∨ X.s₀.heap.objs.size ≤ it) (h2 : ∀ x c, X.env.cells.lookup x = some c → c ≠ it) (h3 : ∀ p ∈ X.pn ++ pins, p.1 ≠ it) : Inv X pins σ H { s with heap := h', toks := t' } := by
  have nit : ∀ b u, H b = some u → b ≠ it := fun b u e z => by rw [z, hn] at e; cases e
  refine I.step (g' := s.gens) (d' := s.drawn) (ch := [it]) (fun b hb => ?_) (fun b o _ _ hc e _ => k b o (fun z => hc (by simp [z])) e) (fun b o _ _ hc e _ => ⟨o.slots, k b o (fun z => hc (by simp [z])) e⟩) (fun _ _ _ _ n => n)
    (fun b o hc e => ⟨o, k b o (fun z => hc (by simp [z])) e⟩) (fun _ _ e => e) (fun _ _ _ e => e) (fun b ps e => ⟨#[], by rw [e]; simp⟩) (fun m hm => ?_) (fun b u e => ?_) I.bare
  · have e : b = it := by simpa using hb
    subst e
    exact ⟨h1, hL, h2, h3⟩
  · obtain ⟨o, es, ep, ho, r⟩ := hm
    exact ⟨o, es, ep, k _ o (Ne.symm hL) ho, r⟩
  · refine (I.hok b u e).stay (fun c v hc q => k c v ?_ q) (fun _ q => q) fun _ _ q => q
    rcases hc with z | z
    · rw [z]; exact nit b u e
    · exact nit c _ z
theorem Inv.tok (I : Inv X pins σ H s) (t : Nat) : Inv X pins σ H { s with toks := t } := I.un (h' := s.heap) (t' := t) Un.refl I.hok
/-- all objects kept -/
theorem Inv.kept {t' : Nat} (I : Inv X pins σ H s) (k : ∀ b u, s.heap.get? b = some u → h'.get? b = some u) : Inv X pins σ H { s with heap := h', toks := t' } := I.un (Un.kept k) (I.hok.kept k)
/-- a new object laid and tracked -/
theorem Inv.laid {a : Addr} {o : HO} {t' : Nat} (I : Inv X pins σ H s) (k : ∀ b u, s.heap.get? b = some u → h'.get? b = some u) (hp : s.heap.objs.size ≤ a) (new : ObjOk X.prog X.w (upd H a o) h' a o) :
    Inv X pins σ (upd H a o) { s with heap := h', toks := t' } := I.un (Un.laid k hp (I.hok.fresh hp)) (I.hok.laid k hp new)
/-- an object written -/
theorem Inv.write {x e : Addr} {o : HO} {t' : Nat} (I : Inv X pins σ H s) (mu : Mut (H x)) (he : e = x ∨ H e = some (.own x)) (k : ∀ b u, b ≠ e → s.heap.get? b = some u → h'.get? b = some u) (heo : ∃ u, h'.get? e = some u)
    (new : ObjOk X.prog X.w (upd H x o) h' x o) : Inv X pins σ (upd H x o) { s with heap := h', toks := t' } := I.un (Un.write mu he k heo) (I.hok.write mu he k heo new)
/-- forgetting slots, pins -/
theorem Inv.weak {σ' : List (Option V)} (I : Inv X pins σ H s) (hl : σ'.length = σ.length) (w : ∀ (i : Nat) v, σ'[i]? = some (some v) → σ[i]? = some (some v)) : Inv X pins σ' H s :=
  ⟨I.ok, I.os, I.bare, I.base, let ⟨m, hn, hl'⟩ := I.loc; ⟨m, hn, fun i x v e1 e2 e3 => hl' i x v e1 (w i v e2) e3⟩, I.cell, I.free, I.freeC, I.pin, I.hok, hl.trans I.len⟩
theorem Inv.pins_of {pins' : List (Addr × Obj)} (I : Inv X pins σ H s) (h : ∀ p ∈ pins', s.heap.get? p.1 = some p.2 ∧ H p.1 = none ∧ p.1 ≠ X.env.locals ∧ p.1 ∉ X.fs ∧ ∀ v, p.2.data ≠ .cell v) : Inv X pins' σ H s :=
  ⟨I.ok, I.os, I.bare, I.base, I.loc, I.cell, I.free, I.freeC, fun p hp => (List.mem_append.mp hp).elim (fun z => I.pin p (List.mem_append_left _ z)) (h p), I.hok, I.len⟩

theorem nodup_ix {N : List Str} (hN : N.Nodup) {i j : Nat} {x : Str} (a : N[i]? = some x) (b : N[j]? = some x) : i = j := by
  obtain ⟨h1, e1⟩ := List.getElem?_eq_some_iff.mp a
  obtain ⟨h2, e2⟩ := List.getElem?_eq_some_iff.mp b
  exact (List.getElem_inj hN).mp (e1.trans e2.symm)

/-- a name is stored; what changed -/
theorem store_ok2 {M : Model} {A : Around} {E : Value → Shared → Prop} {i : Nat} {x : Str} {v : V} {u : Value} {Q : Unit → Shared → Prop} (I : Inv X pins σ H s) (hN : X.N.Nodup) (hi : X.N[i]? = some x) (hx : Loc X.env.scope x) (r : RelV v u)
    (h : ∀ s', Inv X pins (σ.set i (some v)) H s' → (∃ a, Heap.SameBut a s.heap s'.heap ∧ (a = X.env.locals ∨ X.env.cells.lookup x = some a)) → Q () s') (hf : X.fn x = true ∨ X.env.scope.names.lookup x = some .local := by first | exact .inl rfl | exact .inr rfl | assumption) : wpAny M A (storeName X.env x u) Q E s := by
  obtain ⟨m, hn, hl⟩ := id I.loc
  have hcls : (X.env.scope.kind == .class || (X.env.scope.kind == .module && X.env.locals != X.env.globals)) = false := by rw [I.ok.kind]; rfl
  have hiσ : i < σ.length := by rw [I.len]; exact (List.getElem?_eq_some_iff.mp hi).1
  have cne := I.cne
  have tracked : ∀ {a : Addr} {h' : Heap}, (∃ o, s.heap.get? a = some o ∧ H a = none) → Heap.SameBut a s.heap h' → HOk X.prog X.w H h' := fun {a h'} ha hs b ob e => by
    obtain ⟨_, _, hfree⟩ := ha
    refine (I.hok b ob e).stay (fun c w' hc q => (hs.2 c ?_).trans q) (fun _ q => q) fun _ _ q => q
    rintro rfl
    rcases hc with rfl | hc
    · rw [hfree] at e; cases e
    · rw [hfree] at hc; cases hc
  rcases hx with hk | hk
  · refine wpAny_storeName_local hk hn (fun h' hn' hs => ?_) hcls
    obtain ⟨oL, _, _, hoL, _⟩ := id hn
    refine h _ ⟨I.ok, I.os, I.bare, ⟨fun b o e n hb hx => ?_, fun b o e n hb hx => ?_, I.base.free, fun b o e hx => ?_, I.base.tups, I.base.frzs, I.base.tbls⟩, ⟨_, hn', fun j y v' e1 e2 e3 => ?_⟩, fun y c e => ?_, I.free, I.freeC, fun p hp => ?_, tracked ⟨oL, hoL, I.free⟩ hs, by simpa using I.len⟩ ⟨_, hs, .inl rfl⟩
    · exact (hs.2 b (Nat.ne_of_lt (Nat.lt_of_lt_of_le (Heap.lt_size e) I.ok.above))).trans (I.base.keep b o e n hb hx)
    · obtain ⟨sl, e1⟩ := I.base.slot b o e n hb hx
      exact ⟨sl, (hs.2 b (Nat.ne_of_lt (Nat.lt_of_lt_of_le (Heap.lt_size e) I.ok.above))).trans e1⟩
    · obtain ⟨o', e1⟩ := I.base.there b o e hx
      exact ⟨o', (hs.2 b (Nat.ne_of_lt (Nat.lt_of_lt_of_le (Heap.lt_size e) I.ok.above))).trans e1⟩
    · by_cases hj : j = i
      · subst hj
        rw [hi] at e1; cases e1
        rw [List.getElem?_set_self hiσ] at e2
        cases e2
        exact ⟨u, r, .inl ⟨hk, by simp⟩⟩
      · rw [List.getElem?_set_ne (Ne.symm hj)] at e2
        obtain ⟨u', r', q⟩ := hl j y v' e1 e2 e3
        refine ⟨u', r', ?_⟩
        rcases q with ⟨k, e⟩ | ⟨k, c, e, z⟩
        · refine .inl ⟨k, ?_⟩
          have : y ≠ x := fun e => hj (nodup_ix hN e1 (e ▸ hi))
          simp [this, e]
        · exact .inr ⟨k, c, e, z.sameBut hs (cne y c e)⟩
    · obtain ⟨w', z⟩ := I.cell y c e
      exact ⟨w', z.sameBut hs (cne y c e)⟩
    · obtain ⟨e, n, ne, nf, d⟩ := I.pin p hp
      exact ⟨(hs.2 p.1 ne).trans e, n, ne, nf, d⟩
  · have hfn : X.fn x = true := by
      rcases hf with z | z
      · exact z
      · rw [z] at hk; cases hk
    obtain ⟨c, hc⟩ := I.ok.has x (.inl hk)
    obtain ⟨w', z⟩ := I.cell x c hc
    refine wpAny_storeName_cell I.ok.kind hk hc z (fun h' hc' hs => ?_)
    obtain ⟨oc, hoc, hocd⟩ := id z
    refine h { s with heap := h' } ⟨I.ok, I.os, I.bare, ⟨fun b o e n hb hx => ?_, fun b o e n hb hx => ?_, I.base.free, fun b o e hx => ?_, I.base.tups, I.base.frzs, I.base.tbls⟩, ⟨m, hn.sameBut hs (Ne.symm (cne x c hc)), fun j y v' e1 e2 e3 => ?_⟩, fun y c' e => ?_, I.free, I.freeC, fun p hp => ?_, tracked ⟨oc, hoc, I.freeC x c hc⟩ hs, by simpa using I.len⟩ ⟨c, hs, .inr hc⟩
    · exact (hs.2 b (Nat.ne_of_lt (Nat.lt_of_lt_of_le (Heap.lt_size e) (I.ok.cab x c hfn hc)))).trans (I.base.keep b o e n hb hx)
    · obtain ⟨sl, e1⟩ := I.base.slot b o e n hb hx
      exact ⟨sl, (hs.2 b (Nat.ne_of_lt (Nat.lt_of_lt_of_le (Heap.lt_size e) (I.ok.cab x c hfn hc)))).trans e1⟩
    · obtain ⟨o', e1⟩ := I.base.there b o e hx
      exact ⟨o', (hs.2 b (Nat.ne_of_lt (Nat.lt_of_lt_of_le (Heap.lt_size e) (I.ok.cab x c hfn hc)))).trans e1⟩
    · by_cases hj : j = i
      · subst hj
        rw [hi] at e1; cases e1
        rw [List.getElem?_set_self hiσ] at e2
        cases e2
        exact ⟨u, r, .inr ⟨.inl hk, c, hc, hc'⟩⟩
      · rw [List.getElem?_set_ne (Ne.symm hj)] at e2
        obtain ⟨u', r', q⟩ := hl j y v' e1 e2 e3
        refine ⟨u', r', ?_⟩
        rcases q with q | ⟨k, c', e, z'⟩
        · exact .inl q
        · refine .inr ⟨k, c', e, z'.sameBut hs ?_⟩
          rintro rfl
          exact hj (nodup_ix hN e1 (I.ok.inj _ _ _ e hc ▸ hi))
    · by_cases hcc : c' = c
      · subst hcc; exact ⟨_, hc'⟩
      · obtain ⟨w2, z2⟩ := I.cell y c' e
        exact ⟨w2, z2.sameBut hs hcc⟩
    · obtain ⟨e, n, ne, nf, d⟩ := I.pin p hp
      refine ⟨(hs.2 p.1 ?_).trans e, n, ne, nf, d⟩
      intro q
      rw [q, hoc] at e
      have q' : oc = p.2 := Option.some.inj e
      exact d w' (by rw [← q']; exact hocd)
theorem store_ok {M : Model} {A : Around} {E : Value → Shared → Prop} {i : Nat} {x : Str} {v : V} {u : Value} {Q : Unit → Shared → Prop} (I : Inv X pins σ H s) (hN : X.N.Nodup) (hi : X.N[i]? = some x) (hx : Loc X.env.scope x) (r : RelV v u)
    (h : ∀ s', Inv X pins (σ.set i (some v)) H s' → Q () s') (hf : X.fn x = true ∨ X.env.scope.names.lookup x = some .local := by first | exact .inl rfl | exact .inr rfl | assumption) : wpAny M A (storeName X.env x u) Q E s :=
  store_ok2 I hN hi hx r (fun s' I' _ => h s' I') hf
/-- behind a call or a block, the state as it is -/
theorem Inv.call' {s' : Shared} {ch : List Addr} (I : Inv X pins σ H s) (ho : s'.os = s.os) (u : Un (frs X.stack) ch H H' s.heap s'.heap) (hok : HOk X.prog X.w H' s'.heap) (hg : AllBare s'.gens)
    (hch : ∀ b ∈ ch, (b ∈ X.ex ∨ X.s₀.heap.objs.size ≤ b) ∧ b ≠ X.env.locals ∧ (∀ x c, X.env.cells.lookup x = some c → c ≠ b) ∧ ∀ p ∈ X.pn ++ pins, p.1 ≠ b) : Inv X pins σ H' s' := by
  obtain ⟨h', g', d', t', o'⟩ := s'
  have e : o' = s.os := ho
  subst e
  exact I.call (g' := g') (t' := t') (d' := d') u hok hg hch
end

/-! ### the judgements -/
/-- an exception: its class, its own dict's address (where it has one), the abstract heap behind it -/
abbrev XK := Value → Option Addr → Hp → Prop
abbrev St := List (Option V)
abbrev VK := V → Hp → Prop
/-- an expression's reading; a test's; an argument list's -/
abbrev TE := St → Hp → VK → Prop
abbrev TT := St → Hp → (Bool → Hp → Prop) → Prop
abbrev TA := St → Hp → (List V → Hp → Prop) → Prop
/-- what is wanted behind a statement -/
structure Ends where
  nx : St → Hp → Prop
  rt : VK
  bk : St → Hp → Prop := fun _ _ => False
  ct : St → Hp → Prop := fun _ _ => False
abbrev TS := Ends → St → Hp → Prop

def EP (X : Cx) (pins : List (Addr × Obj)) (σ : St) (Q : VK) (u : Value) (s' : Shared) : Prop := ∃ v H', Inv X pins σ H' s' ∧ RelV v u ∧ Q v H'
def TP (X : Cx) (pins : List (Addr × Obj)) (σ : St) (Q : Bool → Hp → Prop) (b : Bool) (s' : Shared) : Prop := ∃ H', Inv X pins σ H' s' ∧ Q b H'
def AP (X : Cx) (pins : List (Addr × Obj)) (σ : St) (Q : List V → Hp → Prop) (us : List Value) (s' : Shared) : Prop := ∃ vs H', Inv X pins σ H' s' ∧ Vals vs us ∧ Q vs H'
def SP (X : Cx) (pins : List (Addr × Obj)) (D : Ends) (f : Flow) (s' : Shared) : Prop :=
  match f with
  | .next => ∃ σ' H', Inv X pins σ' H' s' ∧ D.nx σ' H'
  | .brk => ∃ σ' H', Inv X pins σ' H' s' ∧ D.bk σ' H'
  | .cont => ∃ σ' H', Inv X pins σ' H' s' ∧ D.ct σ' H'
  | .ret u => ∃ v σ' H', Inv X pins σ' H' s' ∧ RelV v u ∧ D.rt v H'

def PE (X : Cx) (e : Expr) (t : TE) : Prop :=
  ∀ (pins : List (Addr × Obj)) (s : Shared) (σ : St) (H : Hp) (Q : VK), Inv X pins σ H s → t σ H Q → wpAny (model X.prog X.w) X.A (eval e X.env) (EP X pins σ Q) X.xe s
def PT (X : Cx) (e : Expr) (t : TT) : Prop :=
  ∀ (pins : List (Addr × Obj)) (s : Shared) (σ : St) (H : Hp) (Q : Bool → Hp → Prop), Inv X pins σ H s → t σ H Q → wpAny (model X.prog X.w) X.A (isTrue e X.env (eval e X.env)) (TP X pins σ Q) X.xe s
/-- a test whatever its 'whole' is (and, or) -/
def PW (X : Cx) (e : Expr) (t : TT) : Prop :=
  ∀ (whole : Sem Value) (pins : List (Addr × Obj)) (s : Shared) (σ : St) (H : Hp) (Q : Bool → Hp → Prop), Inv X pins σ H s → t σ H Q → wpAny (model X.prog X.w) X.A (isTrue e X.env whole) (TP X pins σ Q) X.xe s
theorem PW.pt {X : Cx} {e : Expr} {t : TT} (h : PW X e t) : PT X e t := h _
/-- an argument list (no star), from the left -/
def PA (X : Cx) (es : List Expr) (t : TA) : Prop :=
  ∀ (pos : Pos) (pins : List (Addr × Obj)) (s : Shared) (σ : St) (H : Hp) (Q : List V → Hp → Prop), Inv X pins σ H s → t σ H Q → wpAny (model X.prog X.w) X.A (spliced (backTo pos (starEach es X.env))) (AP X pins σ Q) X.xe s
def PS (X : Cx) (st : Stmt) (t : TS) : Prop :=
  ∀ (pins : List (Addr × Obj)) (s : Shared) (σ : St) (H : Hp) (D : Ends), Inv X pins σ H s → t D σ H → wpAny (model X.prog X.w) X.A (exec st X.env) (SP X pins D) X.xe s
def PSs (X : Cx) (st : List Stmt) (t : TS) : Prop :=
  ∀ (pins : List (Addr × Obj)) (s : Shared) (σ : St) (H : Hp) (D : Ends), Inv X pins σ H s → t D σ H → wpAny (model X.prog X.w) X.A (execs st X.env) (SP X pins D) X.xe s
/-- weaken the end -/
theorem thn {α : Type} {t : Sem α} {Q Q' : α → Shared → Prop} {M : Model} {A : Around} {E : Value → Shared → Prop} {s : Shared} (h : wpAny M A t Q E s) (hQ : ∀ a s, Q a s → Q' a s) : wpAny M A t Q' E s := wpAny_mono h hQ fun _ _ x => x
end L2

namespace L2
open PySem PySem.Spec PyProof.Rows
section
variable {X : Cx}

/-- two expressions in a row -/
theorem bin {a b : Expr} {ta tb : TE} (ha : PE X a ta) (hb : PE X b tb) {pins : List (Addr × Obj)} {s : Shared} {σ : St} {H : Hp} {R : V → V → Hp → Prop} (I : Inv X pins σ H s) (h : ta σ H fun x H1 => tb σ H1 fun y H2 => R x y H2)
    {α : Type} {Q : α → Shared → Prop} {f : Value → Value → Sem α}
    (hf : ∀ v u s2 x y H2, Inv X pins σ H2 s2 → RelV x v → RelV y u → R x y H2 → wpAny (model X.prog X.w) X.A (f v u) Q X.xe s2) :
    wpAny (model X.prog X.w) X.A (eval a X.env) (fun v s₁ => wpAny (model X.prog X.w) X.A (eval b X.env) (fun u s₂ => wpAny (model X.prog X.w) X.A (f v u) Q X.xe s₂) X.xe s₁) X.xe s := by
  refine thn (ha pins s σ H _ I h) fun v s1 ⟨x, H1, I1, r1, q1⟩ => ?_
  refine thn (hb pins s1 σ H1 _ I1 q1) fun u s2 ⟨y, H2, I2, r2, q2⟩ => ?_
  exact hf v u s2 x y H2 I2 r1 r2 q2

/-! ### names and constants -/
def tVar (i : Nat) : TE := fun σ H Q => ∃ v, σ[i]? = some (some v) ∧ Q v H
def tC (v : V) : TE := fun _ H Q => Q v H
theorem pe_var {i : Nat} {x : Str} {pos : Pos} (hN : X.N[i]? = some x) (hv : Vis X.env.scope x) (hd : (x == ("__debug__" : Str)) = false := by decide) (hcd : (x == ("__classdict__" : Str)) = false := by decide) : PE X (.Name x pos) (tVar i) := by
  intro pins s σ H Q I h
  obtain ⟨v, e, h⟩ := h
  obtain ⟨m, hn, hl⟩ := I.loc
  obtain ⟨u, r, l⟩ := hl i x v hN e hv
  have fin : EP X pins σ Q u s := ⟨v, H, I, r, h⟩
  rcases l with ⟨hk, hm⟩ | ⟨hk, c, hc, hcell⟩
  · exact wpAny_Name (wpAny_loadName_local I.ok.kind hk hn hm fin) hd
  · rcases hk with hk | hk
    · exact wpAny_Name (wpAny_loadName_cell I.ok.kind hk hc hcell fin) hd
    · exact wpAny_Name (wpAny_loadName_free I.ok.kind hk hc hcell fin hcd) hd
theorem pe_int {i j pos} : PE X (.Constant (.int i) j pos) (tC (.int i)) := fun _ _ _ H _ I h => wpAny_Constant_int ⟨.int i, H, I.tok _, ⟨_, rfl⟩, h⟩
theorem pe_bl {b j pos} : PE X (.Constant (.bool b) j pos) (tC (.bl b)) := fun _ _ _ H _ I h => Constant_bool ⟨.bl b, H, I, rfl, h⟩
theorem pe_non {j pos} : PE X (.Constant .none j pos) (tC .non) := fun _ _ _ H _ I h => Constant_none ⟨.non, H, I, rfl, h⟩
theorem pe_str {x j pos} : PE X (.Constant (.str x) j pos) (tC (.str x)) := fun _ _ _ H _ I h => Calls.Constant_str ⟨.str x, H, I.tok _, ⟨_, rfl⟩, h⟩

/-- a global name of the def -/
def Gl (X : Cx) (x : Str) : Prop := X.env.kindOf x = some .globalImplicit
theorem ld_glob {E : Value → Shared → Prop} {pins : List (Addr × Obj)} {s : Shared} {σ : St} {H : Hp} {x : Str} {u : Value} {pos : Pos} {Q : Value → Shared → Prop} (I : Inv X pins σ H s) (hg : Gl X x) (hm : X.mg x = some u) (h : Q u s)
    (hd : (x == ("__debug__" : Str)) = false := by decide) : wpAny (model X.prog X.w) X.A (eval (.Name x pos) X.env) Q E s :=
  Calls.Name_function_global I.ok.kind hg (Calls.loadGlobal_global (by rw [I.ok.glob]; exact I.mod.glob.keeps I.bk) hm h) hd
theorem ld_blt {E : Value → Shared → Prop} {pins : List (Addr × Obj)} {s : Shared} {σ : St} {H : Hp} {x : Str} {u : Value} {pos : Pos} {Q : Value → Shared → Prop} (I : Inv X pins σ H s) (hg : Gl X x) (hm : X.mg x = none) (hv : bootBuiltins x = some u) (h : Q u s)
    (hn : x ≠ "__name__" := by decide) (hd : (x == ("__debug__" : Str)) = false := by decide) : wpAny (model X.prog X.w) X.A (eval (.Name x pos) X.env) Q E s := by
  obtain ⟨mb, h1, h2⟩ := I.mod.blt
  exact Calls.Name_function_global I.ok.kind hg (Calls.loadGlobal_builtin (by rw [I.ok.glob]; exact I.mod.glob.keeps I.bk) hm (by rw [I.ok.blt]; exact h1.keeps I.bk) ((h2 x hn).trans hv) h) hd
/-- a module's constant, a class, a function, as a value -/
theorem pe_glob {x : Str} {v : V} {u : Value} {pos : Pos} (hg : Gl X x) (hm : X.mg x = some u) (r : RelV v u) (hd : (x == ("__debug__" : Str)) = false := by decide) : PE X (.Name x pos) (tC v) :=
  fun _ _ _ H _ I h => ld_glob I hg hm ⟨v, H, I, r, h⟩ hd
theorem pe_bltn {x : Str} {v : V} {u : Value} {pos : Pos} (hg : Gl X x) (hm : X.mg x = none) (hv : bootBuiltins x = some u) (r : RelV v u) (hn : x ≠ "__name__" := by decide) (hd : (x == ("__debug__" : Str)) = false := by decide) : PE X (.Name x pos) (tC v) :=
  fun _ _ _ H _ I h => ld_blt I hg hm hv ⟨v, H, I, r, h⟩ hn hd

/-! ### arithmetic -/
/-- two ints -/
def t2I (ta tb : TE) (k : Int → Int → Hp → Prop) : St → Hp → Prop := fun σ H => ta σ H fun x H1 => tb σ H1 fun y H2 => ∃ i j, x = .int i ∧ y = .int j ∧ k i j H2
def tAdd (ta tb : TE) : TE := fun σ H Q => t2I ta tb (fun i j H2 => Q (.int (i + j)) H2) σ H
def tSub (ta tb : TE) : TE := fun σ H Q => t2I ta tb (fun i j H2 => Q (.int (i - j)) H2) σ H
/-- the left factor below 2^64 -/
def tMul (ta tb : TE) : TE := fun σ H Q => t2I ta tb (fun i j H2 => (-(2 ^ 64) < i ∧ i < 2 ^ 64) ∧ Q (.int (i * j)) H2) σ H
variable {a b : Expr} {ta tb : TE} {pos : Pos}
/-! ### comparisons -/
def PC (X : Cx) (op : CmpOp) (a b : Expr) (t : TE) : Prop :=
  ∀ (pins : List (Addr × Obj)) (s : Shared) (σ : St) (H : Hp) (Q : VK), Inv X pins σ H s → t σ H Q →
    wpAny (model X.prog X.w) X.A (eval a X.env) (fun v s₁ => wpAny (model X.prog X.w) X.A (eval b X.env) (fun u s₂ => wpAny (model X.prog X.w) X.A (compareOp op v u) (EP X pins σ Q) X.xe s₂) X.xe s₁) X.xe s
def tCmp (p : Int → Int → Bool) (ta tb : TE) : TE := fun σ H Q => t2I ta tb (fun i j H2 => Q (.bl (p i j)) H2) σ H
abbrev tLt : TE → TE → TE := tCmp fun i j => decide (i < j)
abbrev tLe : TE → TE → TE := tCmp fun i j => decide (i ≤ j)
abbrev tGt : TE → TE → TE := tCmp fun i j => decide (j < i)
abbrev tGe : TE → TE → TE := tCmp fun i j => decide (j ≤ i)
abbrev tEqI : TE → TE → TE := tCmp fun i j => decide (i = j)
abbrev tNeI : TE → TE → TE := tCmp fun i j => !decide (i = j)
/-- is None -/
def tIsN (ta : TE) : TE := fun σ H Q => ta σ H fun x H1 => Q (.bl (decide (x = .non))) H1
def tNotN (ta : TE) : TE := fun σ H Q => ta σ H fun x H1 => Q (.bl (!decide (x = .non))) H1
/-- a comparison as a value, as a test -/
def tB (t : TE) : TT := fun σ H Q => t σ H fun x H1 => ∃ c, x = .bl c ∧ Q c H1
/-! ### and, or, not -/
variable {tA tB' : TT} {rest : List Expr}
def tAnd (t u : TT) : TT := fun σ H Q => t σ H fun c H1 => if c = true then u σ H1 Q else Q false H1
def tOr (t u : TT) : TT := fun σ H Q => t σ H fun c H1 => if c = true then Q true H1 else u σ H1 Q
def tNot (t : TT) : TT := fun σ H Q => t σ H fun c H1 => Q (!c) H1
theorem pw_and1 (ha : PT X a tA) : PW X (.BoolOp .And [a] pos) tA := by
  intro wh pins s σ H Q I h
  refine isTrue_and (thn (ha pins s σ H Q I h) fun c s1 e => ?_)
  cases c with
  | true => exact isTrue_and_nil e
  | false => exact e
theorem pw_or1 (ha : PT X a tA) : PW X (.BoolOp .Or [a] pos) tA := by
  intro wh pins s σ H Q I h
  refine isTrue_or (thn (ha pins s σ H Q I h) fun c s1 e => ?_)
  cases c with
  | false => exact isTrue_or_nil e
  | true => exact e
theorem pw_and (ha : PT X a tA) (hb : PW X (.BoolOp .And (b :: rest) pos) tB') : PW X (.BoolOp .And (a :: b :: rest) pos) (tAnd tA tB') := by
  intro wh pins s σ H Q I h
  refine isTrue_and (thn (ha pins s σ H _ I h) fun c s1 ⟨H1, I1, q1⟩ => ?_)
  cases c with
  | true => exact hb wh pins s1 σ H1 Q I1 q1
  | false => exact ⟨H1, I1, q1⟩
theorem pw_or (ha : PT X a tA) (hb : PW X (.BoolOp .Or (b :: rest) pos) tB') : PW X (.BoolOp .Or (a :: b :: rest) pos) (tOr tA tB') := by
  intro wh pins s σ H Q I h
  refine isTrue_or (thn (ha pins s σ H _ I h) fun c s1 ⟨H1, I1, q1⟩ => ?_)
  cases c with
  | true => exact ⟨H1, I1, q1⟩
  | false => exact hb wh pins s1 σ H1 Q I1 q1
theorem pt_not (ha : PT X a tA) : PT X (.UnaryOp .Not a pos) (tNot tA) := by
  intro pins s σ H Q I h
  exact isTrue_not (ha pins s σ H (fun c H1 => Q (!c) H1) I h)
/-- .. as values (bools) -/
def tAndV (ta tb : TE) : TE := fun σ H Q => ta σ H fun x H1 => ∃ c, x = .bl c ∧ if c = true then tb σ H1 Q else Q (.bl false) H1
def tOrV (ta tb : TE) : TE := fun σ H Q => ta σ H fun x H1 => ∃ c, x = .bl c ∧ if c = true then Q (.bl true) H1 else tb σ H1 Q
def tNotV (ta : TE) : TE := fun σ H Q => ta σ H fun x H1 => ∃ c, x = .bl c ∧ Q (.bl (!c)) H1
theorem pe_one {op} {t : TE} (h : PE X a t) : PE X (.BoolOp op [a] pos) t := fun pins s σ H Q I hw => BoolOp_one (h pins s σ H Q I hw)
theorem pe_and (ha : PE X a ta) (hb : PE X (.BoolOp .And (b :: rest) pos) tb) : PE X (.BoolOp .And (a :: b :: rest) pos) (tAndV ta tb) := by
  intro pins s σ H Q I h
  refine BoolOp_and (thn (ha pins s σ H _ I h) fun v s1 ⟨x, H1, I1, r1, q1⟩ => ?_)
  obtain ⟨c, rfl, q1⟩ := q1
  cases r1
  refine wpAny_truthy_bool ?_
  cases c with
  | true => exact hb pins s1 σ H1 Q I1 q1
  | false => exact ⟨.bl false, H1, I1, rfl, q1⟩
theorem pe_not (ha : PE X a ta) : PE X (.UnaryOp .Not a pos) (tNotV ta) := by
  intro pins s σ H Q I h
  refine UnaryOp_ (thn (ha pins s σ H _ I h) fun v s1 ⟨x, H1, I1, r1, q1⟩ => ?_)
  obtain ⟨c, rfl, q1⟩ := q1
  cases r1
  exact not_of (wpAny_truthy_bool ⟨.bl (!c), H1, I1, rfl, q1⟩)
/-- a if t else b -/
def tIf (t : TT) (ta tb : TE) : TE := fun σ H Q => t σ H fun c H1 => if c = true then ta σ H1 Q else tb σ H1 Q
theorem pe_ifExp {c : Expr} (hc : PT X c tA) (ha : PE X a ta) (hb : PE X b tb) : PE X (.IfExp c a b pos) (tIf tA ta tb) := by
  intro pins s σ H Q I h
  refine wpAny_IfExp (thn (hc pins s σ H _ I h) fun d s1 ⟨H1, I1, q1⟩ => ?_)
  cases d with
  | true => exact ha pins s1 σ H1 Q I1 q1
  | false => exact hb pins s1 σ H1 Q I1 q1
end
end L2

namespace L2
open PySem PySem.Spec PyProof.Rows

/-! ### a list, a tuple that is read: tracked, frozen, or an object of the module -/
def SqL (K : PySem.W.Frag) (H : Hp) (a : Addr) (xs : List V) : Prop :=
  Rd H a (.lst xs) ∨
    ∃ (o : Obj) (its : Array Value) (n : Nat), K.lookup a = some o ∧ o.cls = .type "list" ∧ o.dict = none ∧ o.data = .seq its n ∧ its.size ≤ sizeLine ∧ Vals xs its.toList
def SqT (K : PySem.W.Frag) (H : Hp) (a : Addr) (xs : List V) : Prop :=
  Rd H a (.tup xs) ∨
    ∃ (o : Obj) (its : Array Value) (n : Nat), K.lookup a = some o ∧ o.cls = .type "tuple" ∧ o.data = .seq its n ∧ its.size ≤ sizeLine ∧ Vals xs its.toList
def absV : Value → Option V
  | .none => some .non
  | .bool b => some (.bl b)
  | .int i _ => some (.int i)
  | .str x _ => some (.str x)
  | .bytes b _ => some (.byt b)
  | .float b _ => some (.flt b)
  | .ref a => some (.ref a)
  | .type n => some (.ty n)
  | _ => none
theorem RelV.abs {x : V} {u : Value} (r : RelV x u) : absV u = some x := by
  cases x with
  | non => cases r; rfl
  | bl _ => cases r; rfl
  | int _ => obtain ⟨t, rfl⟩ := r; rfl
  | str _ => obtain ⟨t, rfl⟩ := r; rfl
  | byt _ => obtain ⟨t, rfl⟩ := r; rfl
  | flt _ => obtain ⟨t, rfl⟩ := r; rfl
  | ref _ => cases r; rfl
  | ty _ => cases r; rfl
theorem RelV.inj {x y : V} {u : Value} (r : RelV x u) (q : RelV y u) : x = y := Option.some.inj (r.abs.symm.trans q.abs)
theorem Vals.inj : ∀ {xs ys : List V} {us : List Value}, Vals xs us → Vals ys us → xs = ys
  | _, _, _, .nil, .nil => rfl
  | _, _, _, .cons r t, .cons r' t' => by rw [r.inj r', Vals.inj t t']
section
variable {X : Cx} {pins : List (Addr × Obj)} {σ : St} {H : Hp} {s : Shared} {a : Addr} {xs ys : List V}
theorem SqL.of {K : PySem.W.Frag} (h : H a = some (.lst xs)) : SqL K H a xs := .inl (.inl h)
theorem SqT.of {K : PySem.W.Frag} (h : H a = some (.tup xs)) : SqT K H a xs := .inl (.inl h)
theorem Inv.list (I : Inv X pins σ H s) (h : SqL X.K H a xs) : ∃ its : List Value, Vals xs its ∧ PlainL s.heap a its.toArray ∧ xs.length ≤ sizeLine := by
  rcases h with h | ⟨o, its, n, hk, hc, hd, hs, hz, r⟩
  · obtain ⟨z, its, n, r, e⟩ := h.ok I.hok
    exact ⟨its, r, ⟨_, n, e, rfl, rfl, rfl⟩, z⟩
  · refine ⟨its.toList, r, ⟨o, n, I.kIn a o hk, hc, hd, by simpa using hs⟩, ?_⟩
    have e := r.length
    simp only [Array.length_toList] at e
    omega
theorem Inv.tuple (I : Inv X pins σ H s) (h : SqT X.K H a xs) : ∃ its : List Value, Vals xs its ∧ IsTup s.heap a its.toArray ∧ xs.length ≤ sizeLine := by
  rcases h with h | ⟨o, its, n, hk, hc, hs, hz, r⟩
  · obtain ⟨z, its, r, p⟩ := h.ok I.hok
    exact ⟨its, r, p, z⟩
  · refine ⟨its.toList, r, ⟨o, I.kIn a o hk, hc, n, by simpa using hs⟩, ?_⟩
    have e := r.length
    simp only [Array.length_toList] at e
    omega
theorem Inv.list_inj (I : Inv X pins σ H s) (h : SqL X.K H a xs) (h' : SqL X.K H a ys) : xs = ys := by
  obtain ⟨its, r, ⟨o, n, e, _, _, d⟩, _⟩ := I.list h
  obtain ⟨its', r', ⟨o', n', e', _, _, d'⟩, _⟩ := I.list h'
  rw [e] at e'; cases e'
  rw [d] at d'
  injection d' with d1 _
  have : its = its' := by simpa using congrArg Array.toList d1
  subst this
  exact r.inj r'
theorem Inv.tuple_inj (I : Inv X pins σ H s) (h : SqT X.K H a xs) (h' : SqT X.K H a ys) : xs = ys := by
  obtain ⟨its, r, ⟨o, e, _, n, d⟩, _⟩ := I.tuple h
  obtain ⟨its', r', ⟨o', e', _, n', d'⟩, _⟩ := I.tuple h'
  rw [e] at e'; cases e'
  rw [d] at d'
  injection d' with d1 _
  have : its = its' := by simpa using congrArg Array.toList d1
  subst this
  exact r.inj r'
end

/-! ### another wish about exceptions -/
abbrev Cx.wish (X : Cx) (E : Value → Shared → Prop) : Cx := { X with xe := E }
/-- no exception leaves -/
abbrev Cx.nox (X : Cx) : Cx := X.wish fun _ _ => False
theorem Cx.Ok.wish {X : Cx} (ok : X.Ok) (E : Value → Shared → Prop) : (X.wish E).Ok :=
  ⟨ok.mod, ok.kind, ok.glob, ok.blt, ok.above, ok.inj, ok.has, ok.cab, ok.hd, ok.frames, ok.stk, ok.exf, ok.bs, ok.bsz, ok.noex, ok.exfs, ok.funs, ok.frf⟩
theorem Cx.Ok.unwish {X : Cx} {E : Value → Shared → Prop} (ok : (X.wish E).Ok) : X.Ok :=
  ⟨ok.mod, ok.kind, ok.glob, ok.blt, ok.above, ok.inj, ok.has, ok.cab, ok.hd, ok.frames, ok.stk, ok.exf, ok.bs, ok.bsz, ok.noex, ok.exfs, ok.funs, ok.frf⟩
section
variable {X : Cx} {pins : List (Addr × Obj)} {σ : St} {H : Hp} {s : Shared} {E : Value → Shared → Prop}
theorem Inv.wish (I : Inv X pins σ H s) (E : Value → Shared → Prop) : Inv (X.wish E) pins σ H s := ⟨I.ok.wish E, I.os, I.bare, I.base, I.loc, I.cell, I.free, I.freeC, I.pin, I.hok, I.len⟩
theorem Inv.unwish (I : Inv (X.wish E) pins σ H s) : Inv X pins σ H s := ⟨I.ok.unwish, I.os, I.bare, I.base, I.loc, I.cell, I.free, I.freeC, I.pin, I.hok, I.len⟩
theorem SP.unwish {D : Ends} {f : Flow} {s' : Shared} (h : SP (X.wish E) pins D f s') : SP X pins D f s' := by
  cases f with
  | next => obtain ⟨σ', H', I, q⟩ := h; exact ⟨σ', H', I.unwish, q⟩
  | brk => obtain ⟨σ', H', I, q⟩ := h; exact ⟨σ', H', I.unwish, q⟩
  | cont => obtain ⟨σ', H', I, q⟩ := h; exact ⟨σ', H', I.unwish, q⟩
  | ret u => obtain ⟨v, σ', H', I, r, q⟩ := h; exact ⟨v, σ', H', I.unwish, r, q⟩
theorem PSs.nox {st : List Stmt} {t : TS} (h : PSs X.nox st t) : PSs X st t := fun pins s σ H D I hw =>
  wpAny_mono (h pins s σ H D (I.wish _) hw) (fun _ _ q => q.unwish) fun _ _ z => False.elim z
end

/-! ### blocks and small statements -/
section
variable {X : Cx} {st : Stmt} {rest : List Stmt} {t u : TS} {e : Expr} {te : TE} {pos : Pos}
def tNext : TS := fun D σ H => D.nx σ H
def tSeq (t u : TS) : TS := fun D σ H => t { D with nx := u D } σ H
theorem pss_nil : PSs X [] tNext := fun _ _ σ H _ I h => wpAny_execs_nil ⟨σ, H, I, h⟩
theorem pss_cons (h1 : PS X st t) (h2 : PSs X rest u) : PSs X (st :: rest) (tSeq t u) := by
  intro pins s σ H D I h
  refine wpAny_execs_cons (thn (h1 pins s σ H { D with nx := u D } I h) fun f s1 q => ?_)
  cases f with
  | next =>
    obtain ⟨σ', H', I', q⟩ := q
    exact h2 pins s1 σ' H' D I' q
  | ret v => exact q
  | brk => exact q
  | cont => exact q
theorem pss_one (h1 : PS X st t) : PSs X [st] t := by
  intro pins s σ H D I h
  refine wpAny_execs_cons (thn (h1 pins s σ H D I h) fun f s1 q => ?_)
  cases f with
  | next => exact wpAny_execs_nil q
  | ret v => exact q
  | brk => exact q
  | cont => exact q
def tBreak : TS := fun D σ H => D.bk σ H
def tCont : TS := fun D σ H => D.ct σ H
/-- in a def's body nothing is shown -/
theorem Inv.quiet {pins : List (Addr × Obj)} {σ : St} {H : Hp} {s : Shared} (I : Inv X pins σ H s) : interactive X.env = false := by simp [interactive, I.ok.kind]
/-- an expression whose value is dropped -/
def tDrop (te : TE) : TS := fun D σ H => te σ H fun _ H1 => D.nx σ H1
theorem ps_expr (he : PE X e te) (hs : swapsWith e none pos.line X.env = pure false := by rfl) : PS X (.Expr e pos) (tDrop te) := by
  intro pins s σ H D I h
  exact wpAny_Expr_any (thn (he pins s σ H _ I h) fun v s1 ⟨x, H1, I1, r1, q1⟩ => ⟨σ, H1, I1, q1⟩) I.quiet hs
def tRet (te : TE) : TS := fun D σ H => te σ H D.rt
theorem ps_ret (he : PE X e te) : PS X (.Return (some e) pos) (tRet te) := by
  intro pins s σ H D I h
  exact wpAny_Return_some (thn (he pins s σ H _ I h) fun v s1 ⟨x, H1, I1, r1, q1⟩ => ⟨x, σ, H1, I1, r1, q1⟩)
def tRetN : TS := fun D _ H => D.rt .non H
def tIfS (c : TT) (t u : TS) : TS := fun D σ H => c σ H fun b H1 => if b = true then t D σ H1 else u D σ H1
theorem ps_if {c : Expr} {a b : List Stmt} {tc : TT} (hc : PT X c tc) (ha : PSs X a t) (hb : PSs X b u) : PS X (.If c a b pos) (tIfS tc t u) := by
  intro pins s σ H D I h
  refine wpAny_If (thn (hc pins s σ H _ I h) fun d s1 ⟨H1, I1, q1⟩ => ?_)
  cases d with
  | true => exact ha pins s1 σ H1 D I1 q1
  | false => exact hb pins s1 σ H1 D I1 q1
/-- code that the proof never comes to -/
def tNever : TS := fun _ _ _ => False
end

/-! ### targets -/
abbrev TG := V → St → Hp → (St → Hp → Prop) → Prop
abbrev TGs := List V → St → Hp → (St → Hp → Prop) → Prop
def PG (X : Cx) (target : Expr) (t : TG) : Prop :=
  ∀ (pins : List (Addr × Obj)) (s : Shared) (σ : St) (H : Hp) (v : V) (u : Value) (Q : St → Hp → Prop), Inv X pins σ H s → RelV v u → t v σ H Q →
    wpAny (model X.prog X.w) X.A (assign target X.env u) (fun _ s' => ∃ σ' H', Inv X pins σ' H' s' ∧ Q σ' H') X.xe s
/-- several targets, one after another -/
def PGs (X : Cx) (ts : List Expr) (t : TGs) : Prop :=
  ∀ (pins : List (Addr × Obj)) (s : Shared) (σ : St) (H : Hp) (vs : List V) (us : List Value) (Q : St → Hp → Prop), Inv X pins σ H s → Vals vs us → t vs σ H Q →
    wpAny (model X.prog X.w) X.A (assignInOrder ((assignEach ts X.env).map (·.2)) us) (fun _ s' => ∃ σ' H', Inv X pins σ' H' s' ∧ Q σ' H') X.xe s
/-- o[i] = v, by values -/
abbrev TSet := V → V → V → Hp → (Hp → Prop) → Prop
def PSet (X : Cx) (t : TSet) : Prop :=
  ∀ (pins : List (Addr × Obj)) (s : Shared) (σ : St) (H : Hp) (o i v : V) (ov iv u : Value) (Q : Hp → Prop), Inv X pins σ H s → RelV o ov → RelV i iv → RelV v u → t o i v H Q →
    wpAny (model X.prog X.w) X.A (setItem ov iv u) (fun _ s' => ∃ H', Inv X pins σ H' s' ∧ Q H') X.xe s
/-- a op= b, by values -/
abbrev TIp := V → V → Hp → VK → Prop
def PIp (X : Cx) (op : Operator) (t : TIp) : Prop :=
  ∀ (pins : List (Addr × Obj)) (s : Shared) (σ : St) (H : Hp) (x y : V) (v u : Value) (Q : VK), Inv X pins σ H s → RelV x v → RelV y u → t x y H Q →
    wpAny (model X.prog X.w) X.A (inplaceOp op v u) (EP X pins σ Q) X.xe s
section
variable {X : Cx} {pos : Pos}
def gName (i : Nat) : TG := fun v σ H Q => Q (σ.set i (some v)) H
theorem pg_name {i : Nat} {x : Str} (hN : X.N.Nodup) (hi : X.N[i]? = some x) (hx : Loc X.env.scope x) (hf : X.fn x = true ∨ X.env.scope.names.lookup x = some .local := by first | exact .inl rfl | exact .inr rfl | assumption) : PG X (.Name x pos) (gName i) := by
  intro pins s σ H v u Q I r h
  exact wpAny_assign_Name (store_ok I hN hi hx r (fun s' I' => ⟨_, H, I', h⟩) hf)
def gNil : TGs := fun vs σ H Q => vs = [] ∧ Q σ H
def gCons (t : TG) (u : TGs) : TGs := fun vs σ H Q => ∃ v r, vs = v :: r ∧ t v σ H fun σ' H' => u r σ' H' Q
theorem pgs_nil : PGs X [] gNil := by
  intro pins s σ H vs us Q I r h
  obtain ⟨e, h⟩ := h
  subst e
  cases r
  exact assignInOrder_nil ⟨σ, H, I, h⟩
theorem pgs_cons {e : Expr} {es : List Expr} {t : TG} {u : TGs} (h1 : PG X e t) (h2 : PGs X es u)
    (hs : (assignEach (e :: es) X.env).map (·.2) = assign e X.env :: (assignEach es X.env).map (·.2) := by rfl) : PGs X (e :: es) (gCons t u) := by
  intro pins s σ H vs us Q I r h
  obtain ⟨v, vr, e1, h⟩ := h
  subst e1
  cases r with
  | cons r rr =>
    rw [hs]
    refine assignInOrder_cons (thn (h1 pins s σ H _ _ _ I r h) fun _ s1 ⟨σ1, H1, I1, q1⟩ => ?_)
    exact h2 pins s1 σ1 H1 _ _ Q I1 rr q1
/-- (a, b, ..) = a tuple of that length -/
def gTup (K : PySem.W.Frag) (n : Nat) (t : TGs) : TG := fun v σ H Q => ∃ a xs, v = .ref a ∧ SqT K H a xs ∧ xs.length = n ∧ t xs σ H Q
theorem pg_tup {es : List Expr} {k : Nat} {t : TGs} {n : Nat} (hc : X.calm = true) (h : PGs X es t)
    (hn : (assignEach es X.env).length = n := by rfl) (hst : (assignEach es X.env).findIdx? (·.1) = none := by rfl) : PG X (.Tuple es k pos) (gTup X.K n t) := by
  intro pins s σ H v u Q I r hw
  obtain ⟨a, xs, e1, hq, hl, hw⟩ := hw
  subst e1
  cases r
  obtain ⟨its, rv, ht, hz⟩ := I.tuple hq
  refine assign_Tuple_tuple (I.ok.hd hc) ht (by simp [hn, ← hl, rv.length]) hst fun h' hx => ?_
  have I1 : Inv X pins σ H { s with heap := h' } := I.kept (t' := s.toks) fun b o e => hx b o (Nat.ne_of_lt (Heap.lt_size e)) e
  exact h pins _ σ H xs _ Q I1 (by simpa using rv) hw
/-- o[i] = .. -/
def gSub (to ti : TE) (t : TSet) : TG := fun v σ H Q => to σ H fun o H1 => ti σ H1 fun i H2 => t o i v H2 fun H3 => Q σ H3
/-- target = value -/
def tAsg (te : TE) (g : TG) : TS := fun D σ H => te σ H fun x H1 => g x σ H1 D.nx
theorem ps_asg {tg e : Expr} {te : TE} {g : TG} (he : PE X e te) (hg : PG X tg g) (hs : swapsWithSole [tg] e pos.line X.env = pure false := by rfl) (hw : swappedStores [tg] e X.env = pure none := by rfl)
    (h1 : (assignEach [tg] X.env).map (·.2) = [assign tg X.env] := by rfl) : PS X (.Assign [tg] e pos) (tAsg te g) := by
  intro pins s σ H D I h
  refine wpAny_Assign_stores (thn (he pins s σ H _ I h) fun v s1 ⟨x, H1, I1, r1, q1⟩ => ?_) hs hw
  rw [h1]
  exact thn (hg pins s1 σ H1 x v _ I1 r1 q1) fun _ s2 q => q
/-- name = value -/
theorem ps_set {i : Nat} {x : Str} {e : Expr} {te : TE} {pos' : Pos} (hN : X.N.Nodup) (hi : X.N[i]? = some x) (hx : Loc X.env.scope x) (he : PE X e te) (hs : swapsWith e (some (.Name x pos')) pos.line X.env = pure false := by rfl) (hf : X.fn x = true ∨ X.env.scope.names.lookup x = some .local := by first | exact .inl rfl | exact .inr rfl | assumption) :
    PS X (.Assign [.Name x pos'] e pos) (tAsg te (gName i)) := by
  intro pins s σ H D I h
  refine wpAny_Assign_Name (thn (he pins s σ H _ I h) fun v s1 ⟨y, H1, I1, r1, q1⟩ => ?_) hs
  exact store_ok I1 hN hi hx r1 (fun s2 I2 => ⟨_, H1, I2, q1⟩) hf
/-- a, b = x, y with plain local names: stored from the right; the pair itself is not tracked (the opening rows as in PyProof/Rows/TupAssign.lean:23) -/
def tPar (i j : Nat) (ta : TA) : TS := fun D σ H => ta σ H fun vs H1 => ∃ v w, vs = [v, w] ∧ D.nx ((σ.set i (some v)).set j (some w)) H1
theorem ps_par {i j : Nat} {x y : Str} {a b : Expr} {ta : TA} {px py pt : Pos} {kt k2 pt2} (hc : X.calm = true) (hN : X.N.Nodup) (hi : X.N[i]? = some x) (hj : X.N[j]? = some y) (hij : i ≠ j)
    (hx : X.env.scope.names.lookup x = some .local) (hy : X.env.scope.names.lookup y = some .local) (ha : PA X [a, b] ta)
    (hw : swappedStores [.Tuple [.Name x px, .Name y py] kt pt] (.Tuple [a, b] k2 pt2) X.env = pure (some [x, y]))
    (hs : swapsWithSole [.Tuple [.Name x px, .Name y py] kt pt] (.Tuple [a, b] k2 pt2) pos.line X.env = pure false := by rfl) :
    PS X (.Assign [.Tuple [.Name x px, .Name y py] kt pt] (.Tuple [a, b] k2 pt2) pos) (tPar i j ta) := by
  intro pins s σ H D I h
  rw [exec_Assign_arm]
  refine wpAny_bind (wpAny_standAt ?_)
  rw [hs]
  refine wpAny_bind (wpAny_pure ?_)
  rw [if_neg (by decide)]
  refine wpAny_bind (Tuple_ (thn (ha _ pins s σ H _ I h) fun us s1 ⟨vs, H1, I1, r1, q1⟩ => ?_))
  obtain ⟨v, w, e1, q1⟩ := q1
  subst e1
  obtain ⟨u1, u2, rfl, rv, rw'⟩ : ∃ u1 u2, us = [u1, u2] ∧ RelV v u1 ∧ RelV w u2 := by
    cases r1 with
    | cons p q =>
      cases q with
      | cons p' q' =>
        cases q'
        exact ⟨_, _, rfl, p, p'⟩
  refine wpAny_newObj_type ?_ (by show 2 ≤ sizeLine; decide)
  have I2 : Inv X pins σ H1 { s1 with heap := s1.heap.push { cls := .type "tuple", data := .seq [u1, u2].toArray } } := I1.kept (t' := s1.toks) fun b o e => Heap.get?_push_of_some _ e
  rw [hw]
  refine wpAny_bind (wpAny_pure ?_)
  show wpAny (model X.prog X.w) X.A (do rule "assign.swapped-stores"; let items ← unpackItems (.ref s1.heap.objs.size) 2 none; assignInOrder [fun v => bindName X.env y v, fun v => bindName X.env x v] items.reverse; pure Flow.next) _ _ _
  refine wpAny_bind (wpAny_rule (wpAny_bind (unpackItems_tuple (items := #[u1, u2]) (I.ok.hd hc) (IsTup.new s1.heap _) fun h' hx' => ?_)))
  have I3 := I2.kept (h' := h') (t' := s1.toks) fun b o e => hx' b o (Nat.ne_of_lt (Heap.lt_size e)) e
  show wpAny _ _ (assignInOrder [fun v => bindName X.env y v, fun v => bindName X.env x v] [u2, u1] >>= fun _ => pure Flow.next) _ _ _
  refine wpAny_bind (assignInOrder_cons (wpAny_bindName (store_ok I3 hN hj (.inl hy) rw' (fun s2 I4 => ?_) (.inr hy))))
  refine assignInOrder_cons (wpAny_bindName (store_ok I4 hN hi (.inl hx) rv (fun s3 I5 => assignInOrder_nil (wpAny_pure ?_)) (.inr hx)))
  rw [List.set_comm _ _ (Ne.symm hij)] at I5
  exact ⟨_, H1, I5, q1⟩
/-- name op= e -/
def tAug (i : Nat) (te : TE) (ti : TIp) : TS := fun D σ H => ∃ x, σ[i]? = some (some x) ∧ te σ H fun y H1 => ti x y H1 fun z H2 => D.nx (σ.set i (some z)) H2
/-- o[i] op= e -/
def tAugS (to ti te : TE) (tget : V → V → Hp → VK → Prop) (tip : TIp) (tset : TSet) : TS := fun D σ H => to σ H fun o H1 => ti σ H1 fun i H2 => tget o i H2 fun x H3 => te σ H3 fun y H4 => tip x y H4 fun z H5 => tset o i z H5 fun H6 => D.nx σ H6
/-- o[i], by values -/
def PGet (X : Cx) (t : V → V → Hp → VK → Prop) : Prop :=
  ∀ (pins : List (Addr × Obj)) (s : Shared) (σ : St) (H : Hp) (o i : V) (ov iv : Value) (Q : VK), Inv X pins σ H s → RelV o ov → RelV i iv → t o i H Q →
    wpAny (model X.prog X.w) X.A (getItem ov iv) (EP X pins σ Q) X.xe s
/-- ints -/
def ipI (f : Int → Int → Int) : TIp := fun x y H Q => ∃ i j, x = .int i ∧ y = .int j ∧ Q (.int (f i j)) H
end

/-! ### while -/
section
variable {X : Cx} {pos : Pos}
/-- the invariant W with its measure -/
def tWhile (c : TT) (tb : TS) : TS := fun D σ H => ∃ W : Nat → St → Hp → Prop, (∃ m, W m σ H) ∧ ∀ m σ H, W m σ H →
  c σ H fun b H1 => if b = true then ∃ N : St → Hp → Prop, (∀ σ' H', N σ' H' → ∃ m', m' < m ∧ W m' σ' H') ∧ tb { D with nx := N, ct := N, bk := D.nx } σ H1 else D.nx σ H1
theorem ps_while {c : Expr} {body : List Stmt} {tc : TT} {tb : TS} (hp : PassesOwn (model X.prog X.w) X.A X.env X.xe) (hc : PT X c tc) (hb : PSs X body tb) : PS X (.While c body [] pos) (tWhile tc tb) := by
  intro pins s σ H D I h
  obtain ⟨W, ⟨m0, w0⟩, turn⟩ := h
  refine wpAny_While (codeAny_whileLoop (fun n s' => ∃ σ' H', Inv X pins σ' H' s' ∧ W n σ' H') ?_ m0 ⟨σ, H, I, w0⟩)
  rintro n s1 ⟨σ1, H1, I1, w1⟩
  refine wpAny_passesOwn hp (thn (hc pins s1 σ1 H1 _ I1 (turn n σ1 H1 w1)) fun b s2 ⟨H2, I2, q2⟩ => ?_)
  cases b with
  | true =>
    obtain ⟨N, hN, q2⟩ := q2
    rw [if_pos rfl]
    refine wpAny_passesOwn hp (thn (hb pins s2 σ1 H2 _ I2 q2) fun f s3 q3 => ?_)
    cases f with
    | next =>
      obtain ⟨σ3, H3, I3, n3⟩ := q3
      obtain ⟨m', hm, w3⟩ := hN σ3 H3 n3
      exact ⟨m', hm, σ3, H3, I3, w3⟩
    | cont =>
      obtain ⟨σ3, H3, I3, n3⟩ := q3
      obtain ⟨m', hm, w3⟩ := hN σ3 H3 n3
      exact ⟨m', hm, σ3, H3, I3, w3⟩
    | brk => exact q3
    | ret v => exact q3
  | false =>
    rw [if_neg Bool.false_ne_true]
    exact wpAny_execs_nil ⟨σ1, H2, I2, q2⟩
end

/-! ### what a loop or a comprehension walks -/
/-- at turn i: it yields x (the heap may grow), or it stops -/
structure It where
  go : Nat → Hp → Prop
  yld : Nat → Hp → V → Hp → Prop
  stop : Nat → Hp → Prop
/-- the iterator's own objects may turn: they are not the frame's, not pinned, younger than the entry (or a comprehension's own) -/
def FpOk (X : Cx) (pins : List (Addr × Obj)) (H : Hp) (b : Addr) : Prop :=
  H b = none ∧ b ≠ X.env.locals ∧ b ∉ X.fs ∧ (b ∈ X.ex ∨ X.s₀.heap.objs.size ≤ b) ∧ (∀ x c, X.env.cells.lookup x = some c → c ≠ b) ∧ ∀ p ∈ X.pn ++ pins, p.1 ≠ b
theorem Inv.fpOk {X : Cx} {pins : List (Addr × Obj)} {σ : St} {H H' : Hp} {s : Shared} {b : Addr} (I : Inv X pins σ H s) (hb : s.heap.objs.size ≤ b) (hn : H' b = none) : FpOk X pins H' b := by
  refine ⟨hn, Nat.ne_of_gt (Nat.lt_of_lt_of_le I.lt hb), I.nofs hb, .inr (Nat.le_trans I.sz hb), fun x c e z => ?_, fun p hp z => ?_⟩
  · obtain ⟨v, q⟩ := I.cell x c e
    exact absurd (Nat.lt_of_lt_of_le q.lt (by rw [z]; exact hb)) (Nat.lt_irrefl _)
  · exact absurd (Nat.lt_of_lt_of_le (Heap.lt_size (I.pin p hp).1) (by rw [z]; exact hb)) (Nat.lt_irrefl _)
structure Turn (P : Program) (w : World) (K : PySem.W.Frag) (tg : Expr) (J : It) (fp : List Addr) (it : Addr) (tn : Nat → Heap → Prop) : Prop where
  mem : it ∈ fp
  obj : ∀ i h, tn i h → ∀ b ∈ fp, ∃ o, h.get? b = some o ∧ ∀ v, o.data ≠ .cell v
  keep : ∀ i h h', tn i h → (∀ b ∈ fp, ∀ o, h.get? b = some o → h'.get? b = some o) → tn i h'
  item : ∀ (X : Cx), X.prog = P → X.w = w → X.K = K → X.calm = true → ∀ (i : Nat) (pins : List (Addr × Obj)) (s : Shared) (σ : St) (H : Hp) (E : Value → Shared → Prop), Inv X pins σ H s → (∀ b ∈ fp, FpOk X pins H b) → tn i s.heap → J.go i H →
    wpAny (model P w) X.A (pyNext (.ref it)) (fun r s1 => ∃ u, r = some u ∧
      wpAny (model P w) X.A (letOwnedTupleGo tg (.ref it) u) (fun _ s2 => ∃ x H', Inv X pins σ H' s2 ∧ RelV x u ∧ J.yld i H x H' ∧ tn (i + 1) s2.heap ∧ ∀ b ∈ fp, H' b = none) E s1) E s
  done : ∀ (X : Cx), X.prog = P → X.w = w → X.K = K → X.calm = true → ∀ (i : Nat) (pins : List (Addr × Obj)) (s : Shared) (σ : St) (H : Hp) (E : Value → Shared → Prop), Inv X pins σ H s → (∀ b ∈ fp, FpOk X pins H b) → tn i s.heap → J.stop i H →
    wpAny (model P w) X.A (pyNext (.ref it)) (fun r s1 => r = none ∧ Inv X pins σ H s1) E s
  self : ∀ (A : Around) (i : Nat) (s : Shared) (Q : Value → Shared → Prop) (E : Value → Shared → Prop), tn i s.heap → Q (.ref it) s → wpAny (model P w) A (pyIter (.ref it)) Q E s
abbrev TI := St → Hp → (It → Hp → Prop) → Prop
/-- an iterator has come -/
def PIE (X : Cx) (pins : List (Addr × Obj)) (σ : St) (tg : Expr) (R : It → Hp → Prop) (itv : Value) (s2 : Shared) : Prop :=
  ∃ (it : Addr) (fp : List Addr) (tn : Nat → Heap → Prop) (J : It) (H' : Hp), itv = .ref it ∧ Inv X pins σ H' s2 ∧ Turn X.prog X.w X.K tg J fp it tn ∧ tn 0 s2.heap ∧ (∀ b ∈ fp, FpOk X pins H' b) ∧ R J H'
def PI (X : Cx) (tg iter : Expr) (wi : TI) : Prop :=
  ∀ (pins : List (Addr × Obj)) (s : Shared) (σ : St) (H : Hp) (R : It → Hp → Prop), Inv X pins σ H s → wi σ H R →
    wpAny (model X.prog X.w) X.A (eval iter X.env) (fun v s1 => wpAny (model X.prog X.w) X.A (pyIter v) (PIE X pins σ tg R) X.xe s1) X.xe s

/-- the step ahead of the store is nothing for an iterator that keeps no tuple -/
theorem go_of {M : Model} {A : Around} {E : Value → Shared → Prop} {s : Shared} {tg : Expr} {it : Addr} {u : Value} {o : Obj} {n : String} {vs : Array Value} {Q : Unit → Shared → Prop} (ho : s.heap.get? it = some o) (hc : o.cls = .type n) (hd : o.data = .fields vs)
    (hn : ["enumerate", "zip", "dict_itemiterator", "dict_reverseitemiterator", "odict_iterator", "itertools.zip_longest", "itertools.pairwise"].contains n = false) (hQ : Q () s) : wpAny M A (letOwnedTupleGo tg (.ref it) u) Q E s := by
  unfold letOwnedTupleGo
  cases tg <;> first
    | exact wpAny_pure hQ
    | (cases u <;> first
        | exact wpAny_pure hQ
        | (refine wpAny_bind (wpAny_load ho ?_)
           rw [hc, hd]
           show wpAny M A (if (["enumerate", "zip", "dict_itemiterator", "dict_reverseitemiterator", "odict_iterator", "itertools.zip_longest", "itertools.pairwise"].contains n && vs[0]? == some (rawInt _)) = true then _ else _) Q E s
           rw [if_neg (by intro h; rw [hn, Bool.false_and] at h; cases h)]
           exact wpAny_pure hQ))

/-- the list at a, as it stands at each turn (a loop may append to it) -/
def Itl (K : PySem.W.Frag) (a : Addr) : It :=
  ⟨fun i H => ∃ xs x, SqL K H a xs ∧ xs[i]? = some x, fun i H x H' => H' = H ∧ ∀ xs, SqL K H a xs → xs[i]? = some x, fun i H => ∃ xs, SqL K H a xs ∧ xs.length ≤ i⟩
def Itt (K : PySem.W.Frag) (a : Addr) : It :=
  ⟨fun i H => ∃ xs x, SqT K H a xs ∧ xs[i]? = some x, fun i H x H' => H' = H ∧ ∀ xs, SqT K H a xs → xs[i]? = some x, fun i H => ∃ xs, SqT K H a xs ∧ xs.length ≤ i⟩
/-- lo, lo + 1, .. (n of them) -/
def Itr (lo : Int) (n : Nat) : It := ⟨fun i _ => i < n, fun i H x H' => H' = H ∧ x = .int (lo + i), fun i _ => n ≤ i⟩
theorem turn_list {P : Program} {w : World} {K : PySem.W.Frag} {tg : Expr} (a it : Addr) : Turn P w K tg (Itl K a) [it] it (fun i h => h.IsListIter it a i) where
  mem := by simp
  obj := fun i h st b hb => by
    have e : b = it := by simpa using hb
    subst e
    obtain ⟨o, e, c, d⟩ := st
    exact ⟨o, e, fun v z => by rw [d] at z; cases z⟩
  keep := fun i h h' st k => st.at fun o e => k it (by simp) o e
  item := by
    intro X hP hw hK hc i pins s σ H E I hf st hg
    subst hP hw hK
    obtain ⟨xs, x, hq, hx⟩ := hg
    obtain ⟨its, rv, p, hz⟩ := I.list hq
    obtain ⟨u, hu, ru⟩ := rv.get hx
    obtain ⟨f0, f1, f2, f3, f4, f5⟩ := hf it (by simp)
    refine wpAny_pyNext_list_item st p.isList (x := u) (by simpa using hu) fun h' st' sb => ?_
    have I1 : Inv X pins σ H { s with heap := h' } := I.turned (t' := s.toks) (fun b o hb e => (sb.2 b hb).trans e) f0 f1 f3 f4 f5
    obtain ⟨o, e, c, d⟩ := id st'
    exact ⟨u, rfl, go_of (s := { s with heap := h' }) e c d (by decide) ⟨x, H, I1, ru, ⟨rfl, fun ys hy => by rw [I.list_inj hy hq]; exact hx⟩, st', fun b hb => (hf b hb).1⟩⟩
  done := by
    intro X hP hw hK hc i pins s σ H E I hf st hg
    subst hP hw hK
    obtain ⟨xs, hq, hx⟩ := hg
    obtain ⟨its, rv, p, hz⟩ := I.list hq
    obtain ⟨f0, f1, f2, f3, f4, f5⟩ := hf it (by simp)
    have hl := rv.length
    exact wpAny_pyNext_list_end (I.ok.hd hc) st p.isList (by simp; omega) fun h' eb => ⟨rfl, I.turned (t' := s.toks) (fun b o hb e => eb b o hb e) f0 f1 f3 f4 f5⟩
  self := fun _ _ _ _ _ st h => wpAny_pyIter_listiter st h
theorem turn_tuple {P : Program} {w : World} {K : PySem.W.Frag} {tg : Expr} (a it : Addr) : Turn P w K tg (Itt K a) [it] it (fun i h => h.IsTupleIter it a i) where
  mem := by simp
  obj := fun i h st b hb => by
    have e : b = it := by simpa using hb
    subst e
    obtain ⟨o, e, c, d⟩ := st
    exact ⟨o, e, fun v z => by rw [d] at z; cases z⟩
  keep := fun i h h' st k => st.at fun o e => k it (by simp) o e
  item := by
    intro X hP hw hK hc i pins s σ H E I hf st hg
    subst hP hw hK
    obtain ⟨xs, x, hq, hx⟩ := hg
    obtain ⟨its, rv, p, hz⟩ := I.tuple hq
    obtain ⟨u, hu, ru⟩ := rv.get hx
    obtain ⟨f0, f1, f2, f3, f4, f5⟩ := hf it (by simp)
    refine wpAny_pyNext_tuple_item st (show s.heap.IsTuple a its.toArray from p) (x := u) (by simpa using hu) fun h' st' sb => ?_
    have I1 : Inv X pins σ H { s with heap := h' } := I.turned (t' := s.toks) (fun b o hb e => (sb.2 b hb).trans e) f0 f1 f3 f4 f5
    obtain ⟨o, e, c, d⟩ := id st'
    exact ⟨u, rfl, go_of (s := { s with heap := h' }) e c d (by decide) ⟨x, H, I1, ru, ⟨rfl, fun ys hy => by rw [I.tuple_inj hy hq]; exact hx⟩, st', fun b hb => (hf b hb).1⟩⟩
  done := by
    intro X hP hw hK hc i pins s σ H E I hf st hg
    subst hP hw hK
    obtain ⟨xs, hq, hx⟩ := hg
    obtain ⟨its, rv, p, hz⟩ := I.tuple hq
    obtain ⟨f0, f1, f2, f3, f4, f5⟩ := hf it (by simp)
    have hl := rv.length
    exact wpAny_pyNext_tuple_end (I.ok.hd hc) st (show s.heap.IsTuple a its.toArray from p) (by simp; omega) fun h' eb => ⟨rfl, I.turned (t' := s.toks) (fun b o hb e => eb b o hb e) f0 f1 f3 f4 f5⟩
  self := fun _ _ _ _ _ st h => wpAny_pyIter_tupleiter st h
theorem turn_range {P : Program} {w : World} {K : PySem.W.Frag} {tg : Expr} (it : Addr) (lo : Int) (n : Nat) : Turn P w K tg (Itr lo n) [it] it (fun i h => IsRangeIter h it (lo + (i : Nat) * 1) ((n : Int) - (i : Nat)) 1) where
  mem := by simp
  obj := fun i h st b hb => by
    have e : b = it := by simpa using hb
    subst e
    exact ⟨_, st, fun v z => by
      have z' : Data.fields _ = Data.cell v := z
      cases z'⟩
  keep := fun i h h' st k => k it (by simp) _ st
  item := by
    intro X hP hw hK hc i pins s σ H E I hf st hg
    subst hP hw hK
    obtain ⟨f0, f1, f2, f3, f4, f5⟩ := hf it (by simp)
    have W := Walks.range (prog := X.prog) (w := X.w) (I.ok.hd hc) it lo 1 n
    refine W.item i s _ _ hg st fun v h' tk hv st' kk => ?_
    obtain ⟨t, rfl⟩ := hv
    have I1 : Inv X pins σ H { s with heap := h', toks := tk } := I.turned (fun b o hb e => kk b o (by simpa using hb) e) f0 f1 f3 f4 f5
    refine ⟨_, rfl, go_of (s := { s with heap := h', toks := tk }) (n := "range_iterator") st' rfl rfl (by decide) ⟨.int (lo + i), H, I1, ⟨t, ?_⟩, ⟨rfl, rfl⟩, st', fun b hb => (hf b hb).1⟩⟩
    rw [Int.mul_one]
  done := by
    intro X hP hw hK hc i pins s σ H E I hf st hg
    subst hP hw hK
    obtain ⟨f0, f1, f2, f3, f4, f5⟩ := hf it (by simp)
    exact wpAny_pyNext_range_end (I.ok.hd hc) st (by have : n ≤ i := hg; omega) fun h' eb => ⟨rfl, I.turned (t' := s.toks) (fun b o hb e => eb b o hb e) f0 f1 f3 f4 f5⟩
  self := fun _ _ _ _ _ st h => wpAny_pyIter_rangeiter st h
end L2

namespace L2
open PySem PySem.Spec PyProof.Rows
section
variable {X : Cx} {tg : Expr}
def iList (K : PySem.W.Frag) (tl : TE) : TI := fun σ H R => tl σ H fun x H1 => ∃ a, x = .ref a ∧ (∃ xs, SqL K H1 a xs) ∧ R (Itl K a) H1
def iTup (K : PySem.W.Frag) (tl : TE) : TI := fun σ H R => tl σ H fun x H1 => ∃ a, x = .ref a ∧ (∃ xs, SqT K H1 a xs) ∧ R (Itt K a) H1
theorem pi_list {l : Expr} {tl : TE} (hl : PE X l tl) : PI X tg l (iList X.K tl) := by
  intro pins s σ H R I h
  refine thn (hl pins s σ H _ I h) fun v s1 ⟨x, H1, I1, r1, q1⟩ => ?_
  obtain ⟨a, e, ⟨xs, hq⟩, q⟩ := q1
  subst e
  cases r1
  obtain ⟨its, rv, p, hz⟩ := I1.list hq
  refine wpAny_pyIter_list p.isList ?_
  refine ⟨s1.heap.objs.size, [s1.heap.objs.size], _, _, H1, rfl, I1.kept (t' := s1.toks) fun b o e => Heap.get?_push_of_some _ e, turn_list a _, ⟨_, Heap.get?_push_size _ rfl, rfl, rfl⟩, fun b hb => ?_, q⟩
  have e : b = s1.heap.objs.size := by simpa using hb
  subst e
  exact I1.fpOk (Nat.le_refl _) (I1.hok.fresh (Nat.le_refl _))
theorem pi_tup {l : Expr} {tl : TE} (hl : PE X l tl) : PI X tg l (iTup X.K tl) := by
  intro pins s σ H R I h
  refine thn (hl pins s σ H _ I h) fun v s1 ⟨x, H1, I1, r1, q1⟩ => ?_
  obtain ⟨a, e, ⟨xs, hq⟩, q⟩ := q1
  subst e
  cases r1
  obtain ⟨its, rv, p, hz⟩ := I1.tuple hq
  refine wpAny_pyIter_tuple (show s1.heap.IsTuple a its.toArray from p) ?_
  refine ⟨s1.heap.objs.size, [s1.heap.objs.size], _, _, H1, rfl, I1.kept (t' := s1.toks) fun b o e => Heap.get?_push_of_some _ e, turn_tuple a _, ⟨_, Heap.get?_push_size _ rfl, rfl, rfl⟩, fun b hb => ?_, q⟩
  have e : b = s1.heap.objs.size := by simpa using hb
  subst e
  exact I1.fpOk (Nat.le_refl _) (I1.hok.fresh (Nat.le_refl _))
/-- a range object just made, walked -/
theorem range_it {pins : List (Addr × Obj)} {σ : St} {H : Hp} {s : Shared} {R : It → Hp → Prop} {E : Value → Shared → Prop} {lo hi : Int} {t u v : Tok} {tk : Nat} (I : Inv X pins σ H s) (h1 : -(2 ^ 62) ≤ lo) (h2 : lo < 2 ^ 62) (h3 : -(2 ^ 62) ≤ hi) (h4 : hi < 2 ^ 62)
    (q : R (Itr lo (hi - lo).toNat) H) : wpAny (model X.prog X.w) X.A (pyIter (.ref s.heap.objs.size)) (PIE X pins σ tg R) E { s with heap := s.heap.push { cls := .type "range", data := .fields #[.int lo t, .int hi u, .int 1 v] }, toks := tk } := by
  refine wpAny_pyIter_range (IsRange.new ..) (small_one h1 h2 h3 h4) ?_
  have I1 : Inv X pins σ H { s with heap := s.heap.push { cls := .type "range", data := .fields #[.int lo t, .int hi u, .int 1 v] }, toks := tk } := I.kept fun b o e => Heap.get?_push_of_some _ e
  refine ⟨(s.heap.push { cls := .type "range", data := .fields #[.int lo t, .int hi u, .int 1 v] }).objs.size, [(s.heap.push { cls := .type "range", data := .fields #[.int lo t, .int hi u, .int 1 v] }).objs.size], _, _, H, rfl,
    I1.kept (t' := tk) fun b o e => Heap.get?_push_of_some _ e, turn_range _ lo (hi - lo).toNat, ?_, fun b hb => ?_, q⟩
  · have e1 : lo + ((0 : Nat) : Int) * 1 = lo := by simp
    have e2 : (((hi - lo).toNat : Nat) : Int) - ((0 : Nat) : Int) = Builtin.Range.rangeSize lo hi 1 := by rw [rangeSize_one]; split <;> omega
    show IsRangeIter _ _ (lo + ((0 : Nat) : Int) * 1) ((((hi - lo).toNat : Nat) : Int) - ((0 : Nat) : Int)) 1
    rw [e1, e2]
    exact Heap.get?_push_size _ rfl
  · have e : b = (s.heap.push { cls := .type "range", data := .fields #[.int lo t, .int hi u, .int 1 v] }).objs.size := by simpa using hb
    subst e
    exact I1.fpOk (Nat.le_refl _) (I1.hok.fresh (Nat.le_refl _))
def iRng1 (ta : TA) : TI := fun σ H R => ta σ H fun vs H1 => ∃ j : Int, vs = [.int j] ∧ -(2 ^ 62) ≤ j ∧ j < 2 ^ 62 ∧ R (Itr 0 j.toNat) H1
def iRng2 (ta : TA) : TI := fun σ H R => ta σ H fun vs H1 => ∃ i j : Int, vs = [.int i, .int j] ∧ (-(2 ^ 62) ≤ i ∧ i < 2 ^ 62 ∧ -(2 ^ 62) ≤ j ∧ j < 2 ^ 62) ∧ R (Itr i (j - i).toNat) H1
theorem pi_range1 {a : Expr} {ta : TA} {p pos : Pos} (hg : Gl X "range") (hm : X.mg "range" = none) (ha : PA X [a] ta) (hs : starEach [a] X.env = [(false, eval a X.env)] := by rfl) : PI X tg (.Call (.Name "range" p) [a] [] pos) (iRng1 ta) := by
  intro pins s σ H R I h
  refine Call_ (ld_blt I hg hm boot_range (PyProof.Rows.callWith_type1 (thn (ha pos pins s σ H _ I h) fun us s1 ⟨vs, H1, I1, r1, q1⟩ => ?_) hs rfl))
  obtain ⟨j, e, q1, q2, q⟩ := q1
  subst e
  cases r1 with
  | cons r rr =>
    cases rr
    obtain ⟨t, rfl⟩ := r
    exact call_range_1 (range_it I1 (by omega) (by omega) q1 q2 (by simpa using q))
theorem pi_range2 {a b : Expr} {ta : TA} {p pos : Pos} (hg : Gl X "range") (hm : X.mg "range" = none) (ha : PA X [a, b] ta) (hs : starEach [a, b] X.env = [(false, eval a X.env), (false, eval b X.env)] := by rfl) (hs2 : starEach [b] X.env = [(false, eval b X.env)] := by rfl) :
    PI X tg (.Call (.Name "range" p) [a, b] [] pos) (iRng2 ta) := by
  intro pins s σ H R I h
  refine Call_ (ld_blt I hg hm boot_range (PyProof.Rows.callWith_type1 (thn (ha pos pins s σ H _ I h) fun us s1 ⟨vs, H1, I1, r1, q1⟩ => ?_) (by rw [hs, hs2]) (by rw [hs2]; rfl)))
  obtain ⟨i, j, e, ⟨q1, q2, q3, q4⟩, q⟩ := q1
  subst e
  cases r1 with
  | cons r rr =>
    cases rr with
    | cons r' rr =>
      cases rr
      obtain ⟨t, rfl⟩ := r
      obtain ⟨t', rfl⟩ := r'
      exact call_range_2 (range_it I1 q1 q2 q3 q4 q)

/-! ### for -/
/-- W: the invariant by the turn and a measure; N: what the body is to reach -/
def tFor (wi : TI) (g : TG) (tb : TS) : TS := fun D σ H => wi σ H fun J H1 => ∃ W : Nat → Nat → St → Hp → Prop, (∃ m, W 0 m σ H1) ∧ ∀ i m σ H, W i m σ H →
  (J.stop i H ∧ D.nx σ H) ∨ (J.go i H ∧ ∃ N : St → Hp → Prop, (∀ σ' H', N σ' H' → ∃ m', m' < m ∧ W (i + 1) m' σ' H') ∧ ∀ x H', J.yld i H x H' → g x σ H' fun σ2 H2 => tb { D with nx := N, ct := N, bk := D.nx } σ2 H2)
/-- the records at fp as they stand -/
def pinsAt (fp : List Addr) (h : Heap) : List (Addr × Obj) := fp.filterMap fun b => (h.get? b).map fun o => (b, o)
theorem mem_pinsAt {fp : List Addr} {h : Heap} {b : Addr} {o : Obj} (hb : b ∈ fp) (e : h.get? b = some o) : (b, o) ∈ pinsAt fp h := List.mem_filterMap.mpr ⟨b, hb, by rw [e]; rfl⟩
theorem of_pinsAt {fp : List Addr} {h : Heap} {p : Addr × Obj} (hp : p ∈ pinsAt fp h) : p.1 ∈ fp ∧ h.get? p.1 = some p.2 := by
  obtain ⟨b, hb, e⟩ := List.mem_filterMap.mp hp
  cases q : h.get? b with
  | none => rw [q] at e; cases e
  | some o =>
    rw [q] at e
    have e' : (b, o) = p := Option.some.inj e
    subst e'
    exact ⟨hb, q⟩
theorem Inv.pinned {pins : List (Addr × Obj)} {σ : St} {H : Hp} {s : Shared} {fp : List Addr} (I : Inv X pins σ H s) (hf : ∀ b ∈ fp, FpOk X pins H b) (ho : ∀ b ∈ fp, ∃ o, s.heap.get? b = some o ∧ ∀ v, o.data ≠ .cell v) : Inv X (pins ++ pinsAt fp s.heap) σ H s :=
  I.pins_of fun p hp => (List.mem_append.mp hp).elim (fun z => I.pin p (List.mem_append_right _ z)) fun z => by
    obtain ⟨hb, e⟩ := of_pinsAt z
    obtain ⟨f0, f1, f2, _⟩ := hf p.1 hb
    obtain ⟨o, e', d⟩ := ho p.1 hb
    rw [e] at e'; cases e'
    exact ⟨e, f0, f1, f2, d⟩
theorem Inv.unpinned {pins pl : List (Addr × Obj)} {σ : St} {H : Hp} {s : Shared} (I : Inv X (pins ++ pl) σ H s) : Inv X pins σ H s := I.pins_of fun p hp => I.pin p (List.mem_append_right _ (List.mem_append_left _ hp))
theorem ps_for {iter : Expr} {body : List Stmt} {wi : TI} {g : TG} {tb : TS} {pos : Pos} (hp : PassesOwn (model X.prog X.w) X.A X.env X.xe) (hc : X.calm = true) (hi : PI X tg iter wi) (hg : PG X tg g) (hb : PSs X body tb)
    (hs : ∀ x, foldedSetIterable iter X.env x = pure x := by intro _; rfl) : PS X (.For tg iter body [] pos) (tFor wi g tb) := by
  intro pins s σ H D I h
  refine wpAny_For (thn (hi pins s σ H _ I h) fun v s1 h1 => thn h1 fun itv s2 h2 => ?_) hs
  obtain ⟨it, fp, tn, J, H2, e, I2, T, st2, f2, W, ⟨m0, w0⟩, turn⟩ := h2
  subst e
  -- what stays true of the iterator's objects through the loop
  have stat : ∀ {H' : Hp}, (∀ b ∈ fp, H' b = none) → ∀ b ∈ fp, FpOk X pins H' b := fun hn b hb => ⟨hn b hb, (f2 b hb).2⟩
  refine codeAny_forLoop_any (fun n s' => ∃ i σ' H', Inv X pins σ' H' s' ∧ tn i s'.heap ∧ (∀ b ∈ fp, H' b = none) ∧ W i n σ' H') ?_ m0 ⟨0, σ, H2, I2, st2, fun b hb => (f2 b hb).1, w0⟩
  rintro n s3 ⟨i, σ3, H3, I3, st3, fr3, w3⟩
  rcases turn i n σ3 H3 w3 with ⟨stop, qn⟩ | ⟨go, N, hN, step⟩
  · refine wpAny_passesOwn hp (thn (T.done X rfl rfl rfl hc i pins s3 σ3 H3 X.xe I3 (stat fr3) st3 stop) fun r s4 ⟨hr, I4⟩ => ?_)
    subst hr
    exact wpAny_execs_nil ⟨σ3, H3, I4, qn⟩
  · refine wpAny_passesOwn hp (thn (T.item X rfl rfl rfl hc i pins s3 σ3 H3 X.xe I3 (stat fr3) st3 go) fun r s4 ⟨u, hr, h4⟩ => ?_)
    subst hr
    refine wpAny_passesOwn hp (thn h4 fun _ s5 ⟨x, H5, I5, r5, y5, st5, fr5⟩ => ?_)
    have I5' := I5.pinned (stat fr5) (T.obj _ _ st5)
    refine wpAny_passesOwn hp (thn (hg _ s5 σ3 H5 x u _ I5' r5 (step x H5 y5)) fun _ s6 ⟨σ6, H6, I6, q6⟩ => ?_)
    refine wpAny_passesOwn hp (thn (hb _ s6 σ6 H6 _ I6 q6) fun f s7 q7 => ?_)
    have again : ∀ {σ7 : St} {H7 : Hp}, Inv X (pins ++ pinsAt fp s5.heap) σ7 H7 s7 → N σ7 H7 → ∃ m, m < n ∧ ∃ i σ' H', Inv X pins σ' H' s7 ∧ tn i s7.heap ∧ (∀ b ∈ fp, H' b = none) ∧ W i m σ' H' := fun {σ7 H7} I7 n7 => by
      obtain ⟨m', hm, w7⟩ := hN σ7 H7 n7
      refine ⟨m', hm, i + 1, σ7, H7, I7.unpinned, T.keep _ _ _ st5 fun b hb o e => (I7.pin (b, o) (List.mem_append_right _ (List.mem_append_right _ (mem_pinsAt hb e)))).1, fun b hb => ?_, w7⟩
      obtain ⟨o, e, d⟩ := T.obj _ _ st5 b hb
      exact (I7.pin (b, o) (List.mem_append_right _ (List.mem_append_right _ (mem_pinsAt hb e)))).2.1
    cases f with
    | next => obtain ⟨σ7, H7, I7, n7⟩ := q7; exact again I7 n7
    | cont => obtain ⟨σ7, H7, I7, n7⟩ := q7; exact again I7 n7
    | brk => obtain ⟨σ7, H7, I7, q7⟩ := q7; exact ⟨σ7, H7, I7.unpinned, q7⟩
    | ret v => obtain ⟨x7, σ7, H7, I7, r7, q7⟩ := q7; exact ⟨x7, σ7, H7, I7.unpinned, r7, q7⟩
end

/-! ### the forms one uses -/
/-- over a list that the body leaves as it is -/
theorem for_list {K : PySem.W.Frag} {a : Addr} {xs : List V} {g : TG} {tb : TS} {D : Ends} {σ : St} {H : Hp} (Pv : Nat → St → Hp → Prop) (h0 : Pv 0 σ H) (hl : ∀ i σ H, i ≤ xs.length → Pv i σ H → SqL K H a xs)
    (hs : ∀ i x σ H, xs[i]? = some x → Pv i σ H → g x σ H fun σ2 H2 => tb { D with nx := Pv (i + 1), ct := Pv (i + 1), bk := D.nx } σ2 H2) (hd : ∀ σ H, Pv xs.length σ H → D.nx σ H) :
    ∃ W : Nat → Nat → St → Hp → Prop, (∃ m, W 0 m σ H) ∧ ∀ i m σ H, W i m σ H →
      ((Itl K a).stop i H ∧ D.nx σ H) ∨ ((Itl K a).go i H ∧ ∃ N : St → Hp → Prop, (∀ σ' H', N σ' H' → ∃ m', m' < m ∧ W (i + 1) m' σ' H') ∧ ∀ x H', (Itl K a).yld i H x H' → g x σ H' fun σ2 H2 => tb { D with nx := N, ct := N, bk := D.nx } σ2 H2) := by
  refine ⟨fun i m σ H => m = xs.length - i ∧ i ≤ xs.length ∧ Pv i σ H, ⟨xs.length, by simp, Nat.zero_le _, h0⟩, ?_⟩
  rintro i m σ H ⟨rfl, hi, p⟩
  have q := hl i σ H hi p
  by_cases hlt : i < xs.length
  · refine .inr ⟨⟨xs, xs[i], q, by simp [hlt]⟩, Pv (i + 1), fun σ' H' p' => ⟨xs.length - (i + 1), by omega, rfl, hlt, p'⟩, fun x H' y => ?_⟩
    obtain ⟨e, y⟩ := y
    subst e
    exact hs i x σ _ (y xs q) p
  · have e : i = xs.length := by omega
    subst e
    exact .inl ⟨⟨xs, q, Nat.le_refl _⟩, hd σ H p⟩
theorem for_range {lo : Int} {n : Nat} {g : TG} {tb : TS} {D : Ends} {σ : St} {H : Hp} (Pv : Nat → St → Hp → Prop) (h0 : Pv 0 σ H)
    (hs : ∀ i σ H, i < n → Pv i σ H → g (.int (lo + i)) σ H fun σ2 H2 => tb { D with nx := Pv (i + 1), ct := Pv (i + 1), bk := D.nx } σ2 H2) (hd : ∀ σ H, Pv n σ H → D.nx σ H) :
    ∃ W : Nat → Nat → St → Hp → Prop, (∃ m, W 0 m σ H) ∧ ∀ i m σ H, W i m σ H →
      ((Itr lo n).stop i H ∧ D.nx σ H) ∨ ((Itr lo n).go i H ∧ ∃ N : St → Hp → Prop, (∀ σ' H', N σ' H' → ∃ m', m' < m ∧ W (i + 1) m' σ' H') ∧ ∀ x H', (Itr lo n).yld i H x H' → g x σ H' fun σ2 H2 => tb { D with nx := N, ct := N, bk := D.nx } σ2 H2) := by
  refine ⟨fun i m σ H => m = n - i ∧ i ≤ n ∧ Pv i σ H, ⟨n, by simp, Nat.zero_le _, h0⟩, ?_⟩
  rintro i m σ H ⟨rfl, hi, p⟩
  by_cases hlt : i < n
  · refine .inr ⟨hlt, Pv (i + 1), fun σ' H' p' => ⟨n - (i + 1), by omega, rfl, hlt, p'⟩, fun x H' y => ?_⟩
    obtain ⟨e, y⟩ := y
    subst e y
    exact hs i σ _ hlt p
  · have e : i = n := by omega
    subst e
    exact .inl ⟨Nat.le_refl _, hd σ H p⟩
end L2

namespace L2
open PySem PySem.Spec PyProof.Rows

abbrev R2 := V → V → Hp → VK → Prop
/-- a two-place operation on values: f is binaryOp op, inplaceOp op or compareOp op -/
def OpR (X : Cx) (f : Value → Value → Sem Value) (r : R2) : Prop :=
  ∀ (pins : List (Addr × Obj)) (s : Shared) (σ : St) (H : Hp) (x y : V) (v u : Value) (Q : VK), Inv X pins σ H s → RelV x v → RelV y u → r x y H Q →
    wpAny (model X.prog X.w) X.A (f v u) (EP X pins σ Q) X.xe s
/-- a one-place operation -/
def UnR (X : Cx) (f : Value → Sem Value) (r : V → Hp → VK → Prop) : Prop :=
  ∀ (pins : List (Addr × Obj)) (s : Shared) (σ : St) (H : Hp) (x : V) (v : Value) (Q : VK), Inv X pins σ H s → RelV x v → r x H Q →
    wpAny (model X.prog X.w) X.A (f v) (EP X pins σ Q) X.xe s
/-- a call of a value that is known (a builtin, a type) with values -/
def CallR (X : Cx) (f : Value) (r : List V → Hp → VK → Prop) : Prop :=
  ∀ (pins : List (Addr × Obj)) (s : Shared) (σ : St) (H : Hp) (xs : List V) (us : List Value) (Q : VK), Inv X pins σ H s → Vals xs us → r xs H Q →
    wpAny (model X.prog X.w) X.A (call f us) (EP X pins σ Q) X.xe s
/-- a value's truth -/
def TruR (X : Cx) (r : V → Hp → (Bool → Hp → Prop) → Prop) : Prop :=
  ∀ (pins : List (Addr × Obj)) (s : Shared) (σ : St) (H : Hp) (x : V) (v : Value) (Q : Bool → Hp → Prop), Inv X pins σ H s → RelV x v → r x H Q →
    wpAny (model X.prog X.w) X.A (truthy v) (TP X pins σ Q) X.xe s

def tOp (r : R2) (ta tb : TE) : TE := fun σ H Q => ta σ H fun x H1 => tb σ H1 fun y H2 => r x y H2 Q
def tUn (r : V → Hp → VK → Prop) (ta : TE) : TE := fun σ H Q => ta σ H fun x H1 => r x H1 Q
/-- ints in, under C, and a value out -/
def rI (C : Int → Int → Prop) (g : Int → Int → V) : R2 := fun x y H Q => ∃ i j, x = .int i ∧ y = .int j ∧ C i j ∧ Q (g i j) H
def rI0 (g : Int → Int → V) : R2 := fun x y H Q => ∃ i j, x = .int i ∧ y = .int j ∧ Q (g i j) H
def rU (g : Int → V) : V → Hp → VK → Prop := fun x H Q => ∃ i, x = .int i ∧ Q (g i) H

section
variable {X : Cx} {a b c : Expr} {ta tb tc : TE} {pos : Pos}

theorem binT (ha : PE X a ta) (hb : PE X b tb) {pins : List (Addr × Obj)} {s : Shared} {σ : St} {H : Hp} {R : V → V → Hp → Prop} (I : Inv X pins σ H s)
    (h : ta σ H fun x H1 => tb σ H1 fun y H2 => R x y H2) {Q : Value → Shared → Prop} {f : Value → Value → Sem Value}
    (hf : ∀ v u s2 x y H2, Inv X pins σ H2 s2 → RelV x v → RelV y u → R x y H2 → wpAny (model X.prog X.w) X.A (f v u) Q X.xe s2) :
    wpAny (model X.prog X.w) X.A (eval a X.env) (fun v s₁ => wpAny (model X.prog X.w) X.A (eval b X.env) (fun u s₂ => wpAny (model X.prog X.w) X.A (f v u) Q X.xe s₂) X.xe s₁) X.xe s := by
  refine thn (ha pins s σ H _ I h) fun v s1 ⟨x, H1, I1, r1, q1⟩ => ?_
  refine thn (hb pins s1 σ H1 _ I1 q1) fun u s2 ⟨y, H2, I2, r2, q2⟩ => ?_
  exact hf v u s2 x y H2 I2 r1 r2 q2

theorem pe_op {op : Operator} {r : R2} (ho : OpR X (binaryOp op) r) (ha : PE X a ta) (hb : PE X b tb) : PE X (.BinOp a op b pos) (tOp r ta tb) := by
  intro pins s σ H Q I h
  exact wpAny_BinOp (binT ha hb I h fun v u s2 x y H2 I2 rx ry q => ho pins s2 σ H2 x y v u Q I2 rx ry q)
theorem pe_un {op : UnaryOp} {r : V → Hp → VK → Prop} (ho : UnR X (unaryOp op) r) (ha : PE X a ta) : PE X (.UnaryOp op a pos) (tUn r ta) := by
  intro pins s σ H Q I h
  exact UnaryOp_ (thn (ha pins s σ H _ I h) fun v s1 ⟨x, H1, I1, r1, q1⟩ => ho pins s1 σ H1 x v Q I1 r1 q1)
/-! ### ints -/
theorem opI {f : Value → Value → Sem Value} {C : Int → Int → Prop} {g : Int → Int → Int}
    (rule : ∀ (i j : Int) (t u : Tok) (s : Shared) (Q : Value → Shared → Prop) (E : Value → Shared → Prop), C i j → Q (.int (g i j) s.toks) { s with toks := s.toks + 1 } → wpAny (model X.prog X.w) X.A (f (.int i t) (.int j u)) Q E s) :
    OpR X f (rI C fun i j => .int (g i j)) := by
  intro pins s σ H x y v u Q I rx ry h
  obtain ⟨i, j, rfl, rfl, hc, q⟩ := h
  obtain ⟨t, rfl⟩ := rx
  obtain ⟨t', rfl⟩ := ry
  exact rule i j t t' s _ _ hc ⟨.int (g i j), H, I.tok _, ⟨_, rfl⟩, q⟩
theorem opI0 {f : Value → Value → Sem Value} {g : Int → Int → Int}
    (rule : ∀ (i j : Int) (t u : Tok) (s : Shared) (Q : Value → Shared → Prop) (E : Value → Shared → Prop), Q (.int (g i j) s.toks) { s with toks := s.toks + 1 } → wpAny (model X.prog X.w) X.A (f (.int i t) (.int j u)) Q E s) :
    OpR X f (rI0 fun i j => .int (g i j)) := by
  intro pins s σ H x y v u Q I rx ry h
  obtain ⟨i, j, rfl, rfl, q⟩ := h
  obtain ⟨t, rfl⟩ := rx
  obtain ⟨t', rfl⟩ := ry
  exact rule i j t t' s _ _ ⟨.int (g i j), H, I.tok _, ⟨_, rfl⟩, q⟩
theorem opB0 {f : Value → Value → Sem Value} {g : Int → Int → Bool}
    (rule : ∀ (i j : Int) (t u : Tok) (s : Shared) (Q : Value → Shared → Prop) (E : Value → Shared → Prop), Q (.bool (g i j)) s → wpAny (model X.prog X.w) X.A (f (.int i t) (.int j u)) Q E s) :
    OpR X f (rI0 fun i j => .bl (g i j)) := by
  intro pins s σ H x y v u Q I rx ry h
  obtain ⟨i, j, rfl, rfl, q⟩ := h
  obtain ⟨t, rfl⟩ := rx
  obtain ⟨t', rfl⟩ := ry
  exact rule i j t t' s _ _ ⟨.bl (g i j), H, I, rfl, q⟩

def CDiv (i j : Int) : Prop := 0 < j ∧ j < 1073741824
def CDivN (i j : Int) : Prop := j ≠ 0 ∧ j.natAbs < 1073741824
def CPow (i j : Int) : Prop := 0 ≤ j ∧ j ≤ 1000000 ∧ i.natAbs < 2 ^ 64
def CMul (i j : Int) : Prop := (-(2 ^ 64) < i ∧ i < 2 ^ 64) ∨ (-(2 ^ 64) < j ∧ j < 2 ^ 64)
theorem CMul.ok {i j : Int} (h : CMul i j) : IntMulOk i j := by
  rcases h with ⟨h1, h2⟩ | ⟨h1, h2⟩
  · exact .of_left (intBits_le_64 h1 h2)
  · exact .of_right (intBits_le_64 h1 h2)
theorem op_add : OpR X (binaryOp .Add) (rI0 fun i j => .int (i + j)) := opI0 fun _ _ _ _ _ _ _ q => add_int q
theorem op_sub : OpR X (binaryOp .Sub) (rI0 fun i j => .int (i - j)) := opI0 fun _ _ _ _ _ _ _ q => sub_int q
theorem op_mul : OpR X (binaryOp .Mult) (rI CMul fun i j => .int (i * j)) := opI fun _ _ _ _ _ _ _ hc q => mul_int q hc.ok
/-- // by a positive divisor -/
theorem op_fdiv : OpR X (binaryOp .FloorDiv) (rI CDiv fun i j => .int (i / j)) := opI fun i j _ _ _ _ _ hc q => by
  have h1 : (0 : Int) < j := hc.1
  have h2 : j < 1073741824 := hc.2
  exact floordiv_int (by omega) (by rw [Int.fdiv_eq_ediv_of_nonneg i (by omega)]; exact q) (.inl (PyProof.noPylong_small (by omega)))
/-- % by a positive divisor of any size -/
theorem op_mod : OpR X (binaryOp .Mod) (rI (fun _ j => 0 < j) fun i j => .int (i % j)) := opI fun i j _ _ _ _ _ hc q => by
  have h1 : (0 : Int) < j := hc
  exact mod_int' (by omega) (by rw [Int.fmod_eq_emod_of_nonneg i (by omega)]; exact q)
theorem op_pow : OpR X (binaryOp .Pow) (rI CPow fun i j => .int (i ^ j.toNat)) := opI fun _ _ _ _ _ _ _ hc q => pow_int_small hc.1 hc.2.1 hc.2.2 q
theorem unI {f : Value → Sem Value} {g : Int → Int}
    (rule : ∀ (i : Int) (t : Tok) (s : Shared) (Q : Value → Shared → Prop) (E : Value → Shared → Prop), Q (.int (g i) s.toks) { s with toks := s.toks + 1 } → wpAny (model X.prog X.w) X.A (f (.int i t)) Q E s) :
    UnR X f (rU fun i => .int (g i)) := by
  intro pins s σ H x v Q I rx h
  obtain ⟨i, rfl, q⟩ := h
  obtain ⟨t, rfl⟩ := rx
  exact rule i t s _ _ ⟨.int (g i), H, I.tok _, ⟨_, rfl⟩, q⟩
theorem un_neg : UnR X (unaryOp .USub) (rU fun i => .int (-i)) := unI fun _ _ _ _ _ q => neg_int q
/-! ### bools among ints: n += (a < b) -/
end

/-! ### comparisons -/
/-- the scalars that == tells apart as data does -/
def scal : V → V → Bool
  | .non, .non => true | .non, .int _ => true | .int _, .non => true | .non, .bl _ => true | .bl _, .non => true | .non, .str _ => true | .str _, .non => true
  | .int _, .int _ => true | .bl _, .bl _ => true | .str _, .str _ => true | .byt _, .byt _ => true
  | .int _, .str _ => true | .str _, .int _ => true | .bl _, .str _ => true | .str _, .bl _ => true
  | _, _ => false
def rEq : R2 := fun x y H Q => scal x y = true ∧ Q (.bl (decide (x = y))) H
def rNe : R2 := fun x y H Q => scal x y = true ∧ Q (.bl (!decide (x = y))) H

section
variable {X : Cx} {a b c : Expr} {ta tb tc : TE} {pos : Pos}
theorem fin_bl {pins : List (Addr × Obj)} {σ : St} {H : Hp} {s : Shared} {Q : VK} {k k' : Bool} (I : Inv X pins σ H s) (q : Q (.bl k) H) (e : k = k') : EP X pins σ Q (.bool k') s := by
  subst e
  exact ⟨.bl k, H, I, rfl, q⟩
theorem op_lt : OpR X (compareOp .Lt) (rI0 fun i j => .bl (decide (i < j))) := opB0 fun _ _ _ _ _ _ _ q => lt_int q
theorem op_le : OpR X (compareOp .LtE) (rI0 fun i j => .bl (decide (i ≤ j))) := opB0 fun _ _ _ _ _ _ _ q => le_int q
theorem op_gt : OpR X (compareOp .Gt) (rI0 fun i j => .bl (decide (j < i))) := opB0 fun _ _ _ _ _ _ _ q => gt_int q
theorem op_ge : OpR X (compareOp .GtE) (rI0 fun i j => .bl (decide (j ≤ i))) := opB0 fun _ _ _ _ _ _ _ q => ge_int q
/-- is None, is not None: the right side a value none -/
theorem op_isN : OpR X (compareOp .Is) (fun x y H Q => y = .non ∧ Q (.bl (decide (x = .non))) H) := by
  intro pins s σ H x y v u Q I rx ry h
  obtain ⟨rfl, q⟩ := h
  cases ry
  refine is_none_gen (fin_bl I q ?_)
  cases x <;> first
    | (cases rx; rfl)
    | (obtain ⟨t, rfl⟩ := rx; rfl)
/-- is, is not of two objects that are tracked lists or instances -/
def isObj : HO → Bool
  | .lst _ => true
  | .ins _ _ _ => true
  | _ => false
/-- two rules for one operation: by cases -/
theorem OpR.or {f : Value → Value → Sem Value} {r r' : R2} (h : OpR X f r) (h' : OpR X f r') : OpR X f (fun x y H Q => r x y H Q ∨ r' x y H Q) := by
  intro pins s σ H x y v u Q I rx ry q
  rcases q with q | q
  · exact h pins s σ H x y v u Q I rx ry q
  · exact h' pins s σ H x y v u Q I rx ry q

theorem nomark (b : Expr) {op : CmpOp} (h : op ≠ .In := by decide) (h2 : op ≠ .NotIn := by decide) : behindInMarks op b = false := by
  have e1 : (op == CmpOp.In) = false := by cases op <;> first | rfl | exact absurd rfl h
  have e2 : (op == CmpOp.NotIn) = false := by cases op <;> first | rfl | exact absurd rfl h2
  cases b <;> simp [behindInMarks, e1, e2]
/-- a comparison as a value; hm: nomark b, or (for in, not in) by with_unfolding_all rfl -/
theorem pe_cmpR {op : CmpOp} {r : R2} (ho : OpR X (compareOp op) r) (ha : PE X a ta) (hb : PE X b tb) (hm : behindInMarks op b = false) : PE X (.Compare a [op] [b] pos) (tOp r ta tb) := by
  intro pins s σ H Q I h
  exact wpAny_Compare1 (binT ha hb I h fun v u s2 x y H2 I2 rx ry q => ho pins s2 σ H2 x y v u Q I2 rx ry q) hm
/-- a reading of a value as a test -/
def tTest (t : TE) : TT := fun σ H Q => t σ H fun x H' => ∃ k, x = .bl k ∧ Q k H'
theorem pt_cmpR {op : CmpOp} {r : R2} (ho : OpR X (compareOp op) r) (ha : PE X a ta) (hb : PE X b tb) (hm : behindInMarks op b = false) : PT X (.Compare a [op] [b] pos) (tTest (tOp r ta tb)) := by
  intro pins s σ H Q I h
  refine wpAny_isTrue_Compare1 (thn (ha pins s σ H _ I h) fun v s1 ⟨x, H1, I1, r1, q1⟩ => thn (hb pins s1 σ H1 _ I1 q1) fun u s2 ⟨y, H2, I2, r2, q2⟩ =>
    thn (ho pins s2 σ H2 x y v u _ I2 r1 r2 q2) fun c s3 ⟨z, H3, I3, r3, k, e, q3⟩ => ?_) hm
  subst e
  cases r3
  exact wpAny_truthy_bool ⟨H3, I3, q3⟩
/-- a op1 b op2 c -/
def tChain (r r' : R2) (ta tb tc : TE) : TE := fun σ H Q => ta σ H fun x H1 => tb σ H1 fun y H2 => r x y H2 fun z H3 => ∃ k, z = .bl k ∧
  (if k = true then tc σ H3 fun w' H4 => r' y w' H4 Q else Q (.bl false) H3)
theorem pt_chain {op op' : CmpOp} {r r' : R2} (ho : OpR X (compareOp op) r) (ho' : OpR X (compareOp op') r') (ha : PE X a ta) (hb : PE X b tb) (hc : PE X c tc)
    (hm : lastMarks [op, op'] [b, c] = false := by with_unfolding_all rfl) : PT X (.Compare a [op, op'] [b, c] pos) (tTest (tChain r r' ta tb tc)) := by
  intro pins s σ H Q I h
  refine isTrue_chain (thn (ha pins s σ H _ I h) fun v s1 ⟨x, H1, I1, r1, q1⟩ => test_link (thn (hb pins s1 σ H1 _ I1 q1) fun u s2 ⟨y, H2, I2, r2, q2⟩ =>
    thn (ho pins s2 σ H2 x y v u _ I2 r1 r2 q2) fun d s3 ⟨z, H3, I3, r3, k, e, q3⟩ => ?_)) hm
  subst e
  cases r3
  refine wpAny_truthy_bool ?_
  cases k with
  | false =>
    obtain ⟨k', e', q'⟩ := q3
    cases e'
    exact ite_ff ⟨H3, I3, q'⟩
  | true =>
    refine ite_tt (test_last (thn (hc pins s3 σ H3 _ I3 q3) fun w' s4 ⟨z', H4, I4, r4, q4⟩ => thn (ho' pins s4 σ H4 y z' u w' _ I4 r2 r4 q4) fun d' s5 ⟨z2, H5, I5, r5, k2, e2, q5⟩ => ?_))
    subst e2
    cases r5
    exact wpAny_truthy_bool ⟨H5, I5, q5⟩

/-! ### truth -/
/-- a value's truth by the abstract heap -/
def TruV (K : PySem.W.Frag) (x : V) (H : Hp) (k : Bool) : Prop :=
  match x with
  | .non => k = false
  | .bl b => k = b
  | .int i => k = (i != 0)
  | .str y => y.length ≤ sizeLine ∧ k = ((y.length : Int) != 0)
  | .byt y => y.size ≤ sizeLine ∧ k = ((y.size : Int) != 0)
  | .ref p => (∃ xs, SqL K H p xs ∧ k = !xs.isEmpty) ∨ (∃ xs, SqT K H p xs ∧ k = !xs.isEmpty) ∨ ∃ kvs, H p = some (.dK kvs) ∧ k = !kvs.isEmpty
  | _ => False
theorem isEmpty_kv {κ : Type} {kvs : List (κ × V)} {vs : List (κ × Value)} (r : KV kvs vs) : (!vs.isEmpty) = !kvs.isEmpty := by
  cases r <;> rfl
theorem isEmpty_of {xs : List V} {its : List Value} (r : Vals xs its) : (!its.toArray.isEmpty) = !xs.isEmpty := by
  cases r <;> simp
theorem line63 : (sizeLine : Nat) < 2 ^ 63 := by rw [sizeLine_eq]; decide
theorem tru_ok : TruR X (fun x H Q => ∃ k, TruV X.K x H k ∧ Q k H) := by
  intro pins s σ H x v Q I rx h
  obtain ⟨k, e, q⟩ := h
  have hl := line63
  have hs : sizeLine = 16777216 := sizeLine_eq
  cases x with
  | non =>
    cases rx
    have e' : k = false := e
    subst e'
    exact truthy_none ⟨H, I, q⟩
  | bl b =>
    cases rx
    have e' : k = b := e
    subst e'
    exact wpAny_truthy_bool ⟨H, I, q⟩
  | int i =>
    obtain ⟨t, rfl⟩ := rx
    have e' : k = (i != 0) := e
    subst e'
    exact PySem.P.truthy_int ⟨H, I, q⟩
  | str y =>
    obtain ⟨t, rfl⟩ := rx
    obtain ⟨hy, e'⟩ : y.length ≤ sizeLine ∧ k = ((y.length : Int) != 0) := e
    subst e'
    exact PySem.P.truthy_str (by omega) ⟨H, I.tok _, q⟩
  | byt y =>
    obtain ⟨t, rfl⟩ := rx
    obtain ⟨hy, e'⟩ : y.size ≤ sizeLine ∧ k = ((y.size : Int) != 0) := e
    subst e'
    exact PySem.W.truthy_bytes (by omega) ⟨H, I.tok _, q⟩
  | ref p =>
    cases rx
    have e' : (∃ xs, SqL X.K H p xs ∧ k = !xs.isEmpty) ∨ (∃ xs, SqT X.K H p xs ∧ k = !xs.isEmpty) ∨ ∃ kvs, H p = some (.dK kvs) ∧ k = !kvs.isEmpty := e
    rcases e' with ⟨xs, hx, e'⟩ | ⟨xs, hx, e'⟩ | ⟨kvs, hx, e'⟩
    · subst e'
      obtain ⟨its, r, pl, hz⟩ := I.list hx
      have hlen := r.length
      exact wpAny_truthy_list pl.isList (by simp only [List.size_toArray]; omega) ⟨H, I.tok _, by rw [isEmpty_of r]; exact q⟩
    · subst e'
      obtain ⟨its, r, pl, hz⟩ := I.tuple hx
      have hlen := r.length
      exact truthy_tuple pl (by simp only [List.size_toArray]; omega) ⟨H, I.tok _, by rw [isEmpty_of r]; exact q⟩
    · subst e'
      obtain ⟨hz, hS, vs, r, m⟩ : kvs.length ≤ sizeLine ∧ (p == sysModules) = false ∧ ∃ vs, KV kvs vs ∧ s.heap.DictOf (mixKind X.prog X.w) p vs := I.hok p _ hx
      have hlen : kvs.length = vs.length := Paired.length r
      exact wpAny_truthy_dict hS m (by omega) ⟨H, I.tok _, by rw [isEmpty_kv r]; exact q⟩
  | _ => exact (show False from e).elim
/-- any expression whose test is its value's truth (a name, a call, a subscript, a field ..: he by fun _ => rfl) -/
theorem pt_truth (ha : PE X a ta) (he : ∀ whole, isTrue a X.env whole = (do let v ← whole; standAt a.pos; holding [v] (truthy v))) :
    PT X a (fun σ H Q => ta σ H fun x H' => ∃ k, TruV X.K x H' k ∧ Q k H') := by
  intro pins s σ H Q I h
  exact isTrue_plain (thn (ha pins s σ H _ I h) fun v s1 ⟨x, H1, I1, r1, q1⟩ => tru_ok pins s1 σ H1 x v Q I1 r1 q1) (he _)

/-! ### strs and bytes -/
def PlainIxT (b : Expr) : Prop := ∀ o i, subscripted b false o i = operate [o, i] (getItem o i)
/-! ### scalar builtins, by CallR -/
theorem vals1 {x : V} {us : List Value} (r : Vals [x] us) : ∃ u, us = [u] ∧ RelV x u := by
  cases r with
  | cons r1 r2 => cases r2; exact ⟨_, rfl, r1⟩
theorem vals2 {x y : V} {us : List Value} (r : Vals [x, y] us) : ∃ u w', us = [u, w'] ∧ RelV x u ∧ RelV y w' := by
  cases r with
  | cons r1 r2 =>
    cases r2 with
    | cons r3 r4 => cases r4; exact ⟨_, _, rfl, r1, r3⟩
theorem call_max2 (hc : X.calm = true) : CallR X (.builtin "max") (fun xs H Q => ∃ i j, xs = [.int i, .int j] ∧ Q (.int (if j > i then j else i)) H) := by
  intro pins s σ H xs us Q I r h
  obtain ⟨i, j, rfl, q⟩ := h
  obtain ⟨u, w', rfl, ⟨t, rfl⟩, ⟨t', rfl⟩⟩ := vals2 r
  refine max_two_ints (I.ok.hd hc) fun h' tk k => ⟨_, H, I.kept k, ?_, q⟩
  by_cases hj : j > i
  · rw [if_pos hj, if_pos hj]; exact ⟨_, rfl⟩
  · rw [if_neg hj, if_neg hj]; exact ⟨_, rfl⟩
theorem call_min2 (hc : X.calm = true) : CallR X (.builtin "min") (fun xs H Q => ∃ i j, xs = [.int i, .int j] ∧ Q (.int (if j < i then j else i)) H) := by
  intro pins s σ H xs us Q I r h
  obtain ⟨i, j, rfl, q⟩ := h
  obtain ⟨u, w', rfl, ⟨t, rfl⟩, ⟨t', rfl⟩⟩ := vals2 r
  refine min_two_ints (I.ok.hd hc) fun h' tk k => ⟨_, H, I.kept k, ?_, q⟩
  by_cases hj : j < i
  · rw [if_pos hj, if_pos hj]; exact ⟨_, rfl⟩
  · rw [if_neg hj, if_neg hj]; exact ⟨_, rfl⟩
theorem call_int1 : CallR X (.type "int") (fun xs H Q => (∃ i, xs = [.int i] ∧ Q (.int i) H) ∨ ∃ k, xs = [.bl k] ∧ Q (.int (if k then 1 else 0)) H) := by
  intro pins s σ H xs us Q I r h
  rcases h with ⟨i, rfl, q⟩ | ⟨k, rfl, q⟩
  · obtain ⟨u, rfl, t, rfl⟩ := vals1 r
    exact call_int_int ⟨.int i, H, I, ⟨_, rfl⟩, q⟩
  · obtain ⟨u, rfl, r1⟩ := vals1 r
    cases r1
    exact call_int_bool ⟨.int (if k then 1 else 0), H, I.tok _, ⟨_, rfl⟩, q⟩
/-- len of a str, a bytes, a list, a tuple -/
def LenV (K : PySem.W.Frag) (x : V) (H : Hp) (n : Nat) : Prop :=
  match x with
  | .str y => y.length ≤ sizeLine ∧ n = y.length
  | .byt y => y.size ≤ sizeLine ∧ n = y.size
  | .ref p => (∃ xs, SqL K H p xs ∧ n = xs.length) ∨ ∃ xs, SqT K H p xs ∧ n = xs.length
  | _ => False
theorem call_len : CallR X (.builtin "len") (fun xs H Q => ∃ x n, xs = [x] ∧ LenV X.K x H n ∧ Q (.int n) H) := by
  intro pins s σ H xs us Q I r h
  obtain ⟨x, n, rfl, e, q⟩ := h
  obtain ⟨u, rfl, rx⟩ := vals1 r
  have hl := line63
  have hs : sizeLine = 16777216 := sizeLine_eq
  cases x with
  | str y =>
    obtain ⟨t, rfl⟩ := rx
    obtain ⟨hy, e'⟩ : y.length ≤ sizeLine ∧ n = y.length := e
    subst e'
    exact len_str (by omega) ⟨.int _, H, I.tok _, ⟨_, rfl⟩, q⟩
  | byt y =>
    obtain ⟨t, rfl⟩ := rx
    obtain ⟨hy, e'⟩ : y.size ≤ sizeLine ∧ n = y.size := e
    subst e'
    exact PySem.W.len_bytes (by omega) ⟨.int _, H, I.tok _, ⟨_, rfl⟩, q⟩
  | ref p =>
    cases rx
    have e' : (∃ xs, SqL X.K H p xs ∧ n = xs.length) ∨ ∃ xs, SqT X.K H p xs ∧ n = xs.length := e
    rcases e' with ⟨xs, hx, e'⟩ | ⟨xs, hx, e'⟩
    · subst e'
      obtain ⟨its, r', pl, hz⟩ := I.list hx
      have hlen := r'.length
      exact Calls.call_len_list pl.isList (by simp only [List.size_toArray]; omega) ⟨.int xs.length, H, I.tok _, ⟨_, by simp only [List.size_toArray]; rw [hlen]⟩, q⟩
    · subst e'
      obtain ⟨its, r', pl, hz⟩ := I.tuple hx
      have hlen := r'.length
      exact len_tuple pl (by simp only [List.size_toArray]; omega) ⟨.int xs.length, H, I.tok _, ⟨_, by simp only [List.size_toArray]; rw [hlen]⟩, q⟩
  | _ => exact (show False from e).elim
end
end L2

namespace L2
open PySem PySem.Spec PyProof.Rows

/-! ### an instance, its attributes a map -/
structure ObjM (h : Heap) (x dx C : Addr) (mA : Str → Option Value) : Prop where
  obj : h.get? x = some (PySem.W.instObj C dx)
  ns : h.Ns1 dx mA
  ne : dx ≠ x

theorem lookIn_ns {h : Heap} {dx : Addr} {mA : Str → Option Value} (n : h.Ns1 dx mA) : ∃ od, h.get? dx = some od ∧ ∀ name, PySem.W.lookIn name od = some (mA name) := by
  obtain ⟨o, es, ep, ho, hd, hk, _, hm⟩ := n
  refine ⟨o, ho, fun name => ?_⟩
  have e := hm name
  unfold nsFind findBy at e
  rw [← Array.find?_toList] at e
  unfold PySem.W.lookIn
  rw [hd]
  dsimp only
  split
  · rename_i y q
    rw [q] at e
    exact congrArg some e
  · rename_i q
    rw [q] at e
    have a : es.toList.any (·.refKey) = false := by
      rw [List.any_eq_false]
      intro y hy
      obtain ⟨z, t, hkey⟩ := hk y (Array.mem_toList_iff.mp hy)
      simp [DictEntry.refKey, hkey]
    have a' : ¬ es.toList.any (·.refKey) = true := by rw [a]; exact Bool.false_ne_true
    rw [if_neg a']
    exact congrArg some e

theorem ObjM.look {h : Heap} {x dx C : Addr} {mA : Str → Option Value} (I : ObjM h x dx C mA) : ∃ od, PySem.W.InstAt h x (PySem.W.instObj C dx) C (some od) ∧ ∀ name, PySem.W.lookIn name od = some (mA name) :=
  let ⟨od, ho, hl⟩ := lookIn_ns I.ns
  ⟨od, ⟨I.obj, rfl, rfl, ho⟩, hl⟩

section
variable {prog : Program} {w : World} {A : Around} {E : Value → Shared → Prop} {s : Shared} {K : PySem.W.Frag} {x dx C f : Addr} {mA : Str → Option Value} {name : Str} {v : Value}

end

/-! ### the attributes as a list of pairs -/
def putF (f : Str) (v : V) : List (Str × V) → List (Str × V)
  | [] => [(f, v)]
  | (g, x) :: r => if g = f then (g, v) :: r else (g, x) :: putF f v r
theorem RelO.some_of {v : V} {o : Option Value} (r : RelO (some v) o) : ∃ u, o = some u ∧ RelV v u := by
  cases o with
  | none => exact (show False from r).elim
  | some u => exact ⟨u, rfl, r⟩
section
variable {P : Program} {w : World} {H H' : Hp} {h h' : Heap} {a C dx : Addr} {fs fs' : List (Str × V)}
theorem ins_get (hok : HOk P w H h) (e : H a = some (.ins C dx fs)) : ∃ mA, ObjM h a dx C mA ∧ (∀ f, RelO (fs.lookup f) (mA f)) ∧ PySem.Within mA (fs.map (·.1)) ∧ fs.length ≤ 1000 ∧ H dx = some (.own a) := by
  obtain ⟨d, z, ne, ob, mA, n, r, q⟩ := (show ObjOk P w H h a (.ins C dx fs) from hok a _ e)
  exact ⟨mA, ⟨ob, n, ne⟩, r, q, z, d⟩
end

/-! ### what of the text a class must have -/
structure Cls (K : PySem.W.Frag) (C : Addr) : Prop where
  pg : PySem.W.plainGet K C Str.empty = true
  hd : PySem.W.hasDictIn K C = true
  po : PySem.W.plainOver K C = true
  sa : PySem.W.findIn K (.ref C) "__setattr__" = some (some (.builtin "object.__setattr__"))
theorem Cls.get {K : PySem.W.Frag} {C : Addr} (c : Cls K C) (f : Str) : PySem.W.plainGet K C f = true := c.pg
/-- no class of it has the name -/
def NoAttr (K : PySem.W.Frag) (C : Addr) (f : Str) : Prop := PySem.W.findIn K (.ref C) f = some none
/-- a constant of the class -/
structure Con (K : PySem.W.Frag) (C : Addr) (f : Str) (v : V) (u : Value) : Prop where
  at_ : PySem.W.findIn K (.ref C) f = some (some u)
  rel : RelV v u
  get : PySem.W.specialIn K u "__get__" = some none
  cp : PySem.W.copiedNames.contains f = false
/-- a method: a plain def of the class or of one above it -/
structure Meth (K : PySem.W.Frag) (C : Addr) (m : Str) (f : Addr) : Prop where
  at_ : PySem.W.findIn K (.ref C) m = some (some (.ref f))
  fn : PySem.W.isFn K (.ref f) = true
  kp : PySem.W.keepIn K (.ref f) = true

section
variable {X : Cx} {pins : List (Addr × Obj)} {σ : St} {H : Hp} {s : Shared} {a C dx : Addr} {fs : List (Str × V)} {f : Str} {v : V} {A : Around} {E : Value → Shared → Prop}

end

/-! ### readings and rules -/
/-- e.f, an attribute of the instance -/
def tFld (K : PySem.W.Frag) (ta : TE) (f : Str) : TE := fun σ H Q => ta σ H fun x H1 => ∃ a C dx fs v, x = .ref a ∧ H1 a = some (.ins C dx fs) ∧ Cls K C ∧ NoAttr K C f ∧ fs.lookup f = some v ∧ Q v H1
/-- e.f, a constant of the class -/
def tCon (K : PySem.W.Frag) (ta : TE) (f : Str) : TE := fun σ H Q => ta σ H fun x H1 => ∃ a C dx fs v u, x = .ref a ∧ H1 a = some (.ins C dx fs) ∧ Cls K C ∧ Con K C f v u ∧ fs.lookup f = none ∧ Q v H1
/-- e.f = value -/
def sFld (K : PySem.W.Frag) (ta tv : TE) (f : Str) : TS := fun D σ H => tv σ H fun y H1 => ta σ H1 fun x H2 => ∃ a C dx fs, x = .ref a ∧ H2 a = some (.ins C dx fs) ∧ Cls K C ∧ NoAttr K C f ∧ fs.length < 1000 ∧
  D.nx σ (upd H2 a (.ins C dx (putF f y fs)))
/-- an augmented operator on two values -/
def InOp (X : Cx) (op : Operator) (rd : V → V → Hp → VK → Prop) : Prop :=
  ∀ (pins : List (Addr × Obj)) (s : Shared) (σ : St) (H : Hp) (x y : V) (u v : Value) (Q : VK), Inv X pins σ H s → RelV x u → RelV y v → rd x y H Q → wpAny (model X.prog X.w) X.A (inplaceOp op u v) (EP X pins σ Q) X.xe s
/-- e.f op= value -/
def sFldAug (K : PySem.W.Frag) (ta tv : TE) (rd : V → V → Hp → VK → Prop) (f : Str) : TS := fun D σ H => ta σ H fun x H1 => ∃ a C dx fs v, x = .ref a ∧ H1 a = some (.ins C dx fs) ∧ Cls K C ∧ NoAttr K C f ∧ fs.lookup f = some v ∧
  tv σ H1 fun y H2 => rd v y H2 fun z H3 => ∃ dx' fs', H3 a = some (.ins C dx' fs') ∧ fs'.length < 1000 ∧ D.nx σ (upd H3 a (.ins C dx' (putF f z fs')))

section
variable {X : Cx} {o e value : Expr} {f : Str} {pos pos' tpos : Pos} {ta tv : TE}
def rAdd : V → V → Hp → VK → Prop := fun x y H Q => ∃ i j, x = .int i ∧ y = .int j ∧ Q (.int (i + j)) H
def rSub : V → V → Hp → VK → Prop := fun x y H Q => ∃ i j, x = .int i ∧ y = .int j ∧ Q (.int (i - j)) H
end

/-! ### isinstance -/
section
variable {X : Cx} {pins : List (Addr × Obj)} {σ : St} {H : Hp} {s : Shared} {A : Around} {E : Value → Shared → Prop} {Q : Value → Shared → Prop} {c : Value} {b : Bool}
/-- the type of a value, as the fragment's deciders take it; for an instance its class -/
inductive TyOf (K : PySem.W.Frag) (H : Hp) : V → Value → Prop where
  | non : TyOf K H .non (.type "NoneType")
  | bl (x : Bool) : TyOf K H (.bl x) (.type "bool")
  | int (i : Int) : TyOf K H (.int i) (.type "int")
  | str (x : Str) : TyOf K H (.str x) (.type "str")
  | flt (x : UInt64) : TyOf K H (.flt x) (.type "float")
  | lst {a : Addr} {xs : List V} (e : H a = some (.lst xs)) : TyOf K H (.ref a) (.type "list")
  | frz {a : Addr} {o : Obj} {xs : List V} (e : H a = some (.frz o (.lst xs))) : TyOf K H (.ref a) (.type "list")
  | tup {a : Addr} {xs : List V} (e : H a = some (.tup xs)) : TyOf K H (.ref a) (.type "tuple")
  | dK {a : Addr} {kvs : List (Key × V)} (e : H a = some (.dK kvs)) : TyOf K H (.ref a) (.type "dict")
  | dT {a : Addr} {kvs : List (List Key × V)} (e : H a = some (.dT kvs)) : TyOf K H (.ref a) (.type "dict")
  | ins {a C dx : Addr} {fs : List (Str × V)} (e : H a = some (.ins C dx fs)) (cl : Cls K C) (ha : PySem.W.findIn K (.ref C) "__class__" = some (some (.builtin "object.__class__")))
      (hn : PySem.W.specialIn K (.builtin "object.__class__") "__get__" = some (some (.builtin "getset_descriptor.__get__"))) (htk : PySem.W.takesIn K (.builtin "object.__class__") = some true)
      (hm : PySem.W.mroIn K C (.type "object") = some true) : TyOf K H (.ref a) (.ref C)
/-- isinstance(x, c) for one class c, a built-in or an own one: kitOne's answer -/
theorem isinst_ok {x : V} {u t : Value} (I : Inv X pins σ H s) (rx : RelV x u) (ty : TyOf X.K H x t) (e : PySem.W.kitOne X.K t c = some b) (h : ∀ tk, Q (.bool b) { s with toks := tk }) :
    wpAny (model X.prog X.w) A (call (.builtin "isinstance") [u, c]) Q E s := by
  cases ty with
  | non => cases (show u = Value.none from rx); exact PySem.W.kia_one PySem.W.kitx_none I.kIn True.intro e (fun z => nomatch z) h
  | bl y => cases (show u = Value.bool y from rx); exact PySem.W.kia_one PySem.W.kitx_bool I.kIn True.intro e (fun z => nomatch z) h
  | int i => obtain ⟨t, q⟩ := (show ∃ t, u = Value.int i t from rx); cases q; exact PySem.W.kia_one PySem.W.kitx_int I.kIn True.intro e (fun z => nomatch z) h
  | str y => obtain ⟨t, q⟩ := (show ∃ t, u = Value.str y t from rx); cases q; exact PySem.W.kia_one PySem.W.kitx_str I.kIn True.intro e (fun z => nomatch z) h
  | flt y => obtain ⟨t, q⟩ := (show ∃ t, u = Value.float y t from rx); cases q; exact PySem.W.kia_one PySem.W.kitx_float I.kIn True.intro e (fun z => nomatch z) h
  | @lst a xs ea =>
    cases (show u = Value.ref a from rx)
    obtain ⟨_, _, n, _, h1⟩ := (show ObjOk X.prog X.w H s.heap a (.lst xs) from I.hok a _ ea)
    exact PySem.W.kia_one PySem.W.kitx_list I.kIn ⟨_, h1, rfl⟩ e (fun z => nomatch z) h
  | @frz a ob xs ea =>
    cases (show u = Value.ref a from rx)
    obtain ⟨_, _, _, n, _, h1⟩ := (show ObjOk X.prog X.w H s.heap a (.frz ob (.lst xs)) from I.hok a _ ea)
    exact PySem.W.kia_one PySem.W.kitx_list I.kIn ⟨_, h1, rfl⟩ e (fun z => nomatch z) h
  | @tup a xs ea =>
    cases (show u = Value.ref a from rx)
    obtain ⟨_, _, _, p⟩ := (show ObjOk X.prog X.w H s.heap a (.tup xs) from I.hok a _ ea)
    obtain ⟨o, h1, h2, _⟩ := p
    exact PySem.W.kia_one PySem.W.kitx_tuple I.kIn ⟨o, h1, h2⟩ e (fun z => nomatch z) h
  | @dK a kvs ea =>
    cases (show u = Value.ref a from rx)
    obtain ⟨_, _, vs, _, p⟩ := (show ObjOk X.prog X.w H s.heap a (.dK kvs) from I.hok a _ ea)
    obtain ⟨o, es, ep, h1, h2, _⟩ := p
    exact PySem.W.kia_one PySem.W.kitx_dict I.kIn ⟨o, h1, h2.1⟩ e (fun z => nomatch z) h
  | @dT a kvs ea =>
    cases (show u = Value.ref a from rx)
    obtain ⟨_, _, xs, _, o, es, ep, h1, h2, _⟩ := (show ObjOk X.prog X.w H s.heap a (.dT kvs) from I.hok a _ ea)
    exact PySem.W.kia_one PySem.W.kitx_dict I.kIn ⟨o, h1, h2.1⟩ e (fun z => nomatch z) h
  | @ins a C dx fs ea cl ha hn htk hm =>
    cases (show u = Value.ref a from rx)
    obtain ⟨mA, O, _⟩ := ins_get I.hok ea
    obtain ⟨od, J, _⟩ := O.look
    exact PySem.W.kia_one (PySem.W.kitx_own (cl.get _) cl.hd ha hn htk hm) I.kIn J e (fun z => nomatch z) h
end
end L2

namespace L2
open PySem PySem.Spec PyProof.Rows

/-! ### room -/
structure Room (k : Nat) (A : Around) : Prop where
  hd : A.handled = none
  dp : A.depth + 3 * k + 5 < recursionLimit
  un : A.units + 16 * k + 200 < cLine
theorem Room.mono {j k : Nat} {A : Around} (r : Room k A) (h : j ≤ k) : Room j A := ⟨r.hd, by have := r.dp; omega, by have := r.un; omega⟩
theorem Room.deeper {k : Nat} {A : Around} (r : Room (k + 1) A) (env : Env) : Room k (A.deeper env) :=
  ⟨r.hd, by have := r.dp; show A.depth + 1 + 3 * k + 5 < _; omega, by have := r.un; show A.units + 3 + 16 * k + 200 < _; omega⟩
theorem Room.depth {k : Nat} {A : Around} (r : Room k A) : A.depth < recursionLimit := by have := r.dp; omega
theorem Room.units {k : Nat} {A : Around} (r : Room k A) : A.units + 64 < cLine := by have := r.un; omega
/-! ### argument lists and displays -/
def tNil : TA := fun _ H Q => Q [] H
def tCons (ta : TE) (tr : TA) : TA := fun σ H Q => ta σ H fun x H1 => tr σ H1 fun xs H2 => Q (x :: xs) H2
section
variable {X : Cx} {e : Expr} {es : List Expr} {te : TE} {t : TA} {pos : Pos}
theorem pa_nil : PA X [] tNil := fun _ _ _ _ H Q I h => Calls.spliced_nil ⟨[], H, I, .nil, h⟩
theorem pa_cons (ha : PE X e te) (hr : PA X es t) (hs : starEach (e :: es) X.env = (false, eval e X.env) :: starEach es X.env := by rfl) : PA X (e :: es) (tCons te t) := by
  intro pos pins s σ H Q I h
  rw [hs]
  show wpAny _ _ (spliced ((false, eval e X.env) :: backTo pos (starEach es X.env))) _ _ s
  refine Calls.spliced_cons (thn (ha pins s σ H _ I h) fun u s1 ⟨x, H1, I1, r1, q1⟩ => ?_)
  exact thn (hr pos pins s1 σ H1 _ I1 q1) fun us s2 ⟨xs, H2, I2, r2, q2⟩ => ⟨x :: xs, H2, I2, .cons r1 r2, q2⟩

/-- a tuple, a list of written items -/
def tTup (t : TA) : TE := fun σ H Q => t σ H fun xs H1 => xs.length ≤ sizeLine ∧ ∀ p, H1 p = none → Q (.ref p) (upd H1 p (.tup xs))
def tLst (t : TA) : TE := fun σ H Q => t σ H fun xs H1 => xs.length ≤ sizeLine ∧ ∀ p, H1 p = none → Q (.ref p) (upd H1 p (.lst xs))
theorem pe_tup {x1} (h : PA X es t) : PE X (.Tuple es x1 pos) (tTup t) := by
  intro pins s σ H Q I hq
  refine wpAny_Tuple_spliced (thn (h pos pins s σ H _ I hq) fun us s1 ⟨xs, H1, I1, r, z, q⟩ => ⟨by rw [← r.length]; exact z, ?_⟩)
  have hf : H1 s1.heap.objs.size = none := I1.hok.fresh (Nat.le_refl _)
  refine ⟨.ref s1.heap.objs.size, upd H1 s1.heap.objs.size (.tup xs), I1.laid (t' := s1.toks) (fun b u e => Heap.get?_push_of_some _ e) (Nat.le_refl _) ?_, rfl, q _ hf⟩
  exact ⟨z, us, r, ⟨_, Heap.get?_push_size _ rfl, rfl, _, rfl⟩⟩
theorem pe_lst (h : PA X es t) : PE X (.List es pos) (tLst t) := by
  intro pins s σ H Q I hq
  refine wpAny_List_spliced (thn (h pos pins s σ H _ I hq) fun us s1 ⟨xs, H1, I1, r, z, q⟩ => ⟨by rw [← r.length]; exact z, ?_⟩)
  have hf : H1 s1.heap.objs.size = none := I1.hok.fresh (Nat.le_refl _)
  refine ⟨.ref s1.heap.objs.size, upd H1 s1.heap.objs.size (.lst xs), I1.laid (t' := s1.toks) (fun b u e => Heap.get?_push_of_some _ e) (Nat.le_refl _) ?_, rfl, q _ hf⟩
  exact ⟨z, us, 0, r, Heap.get?_push_size _ rfl⟩
end

/-! ### what a def promises -/
/-- a def's promise: the bound arguments in the parameters' order, the heap, the wanted end, the wanted exception -/
abbrev Sp := List V → Hp → VK → XK → Prop
/-- how an exception lies behind a call (file 08 gives it): the callers' frames, abstract heap and state ahead of the call, the wish, the exception, the state -/
abbrev CXT := List Env → Hp → Shared → XK → Value → Shared → Prop

/-- the state at a call -/
structure Env0 (P : Program) (w : World) (K : PySem.W.Frag) (mg : Str → Option Value) (base : Heap) (A : Around) (outer : List Env) (s : Shared) (H : Hp) : Prop where
  frames : A.frames = some outer
  mod : Mod K mg base
  bs : ∀ b o, base.get? b = some o → s.heap.get? b = some o ∧ H b = none
  bsz : base.objs.size ≤ s.heap.objs.size
  funs : s.heap.FunFrames base outer
  frf : ∀ b ∈ frs outer, H b = none
  hok : HOk P w H s.heap
  bare : AllBare s.gens
/-- a call's end -/
def CE (outer : List Env) (P : Program) (w : World) (H : Hp) (s : Shared) (Q : VK) (u : Value) (s' : Shared) : Prop :=
  ∃ v H', s'.os = s.os ∧ AllBare s'.gens ∧ Un (frs outer) [] H H' s.heap s'.heap ∧ HOk P w H' s'.heap ∧ RelV v u ∧ Q v H'
def CR (CX : CXT) (outer : List Env) (P : Program) (w : World) (H : Hp) (s : Shared) (Q : VK) (E : XK) (r : Result) (s' : Shared) : Prop :=
  match r with
  | .ok (.ret u) => CE outer P w H s Q u s'
  | .ok _ => False
  | .error e => CX outer H s E e s'
structure FnOk (P : Program) (w : World) (K : PySem.W.Frag) (mg : Str → Option Value) (base : Heap) (CX : CXT) (k : Nat) (f : Addr) (fd : FuncData) (ps : List Str) (sp : Sp) : Prop where
  len : ∀ vs H Q E, sp vs H Q E → vs.length = ps.length
  run : ∀ (A : Around) (outer : List Env) (s : Shared) (H : Hp) (args : Args) (us : List Value) (vs : List V) (Q : VK) (E : XK), Room k A → Env0 P w K mg base A outer s H → BindsTo s fd args (ps.zip us) → Vals vs us → sp vs H Q E →
    codeAny (model P w) A (.call (.ref f) args) (CR CX outer P w H s Q E) s
section
variable {X : Cx} {pins : List (Addr × Obj)} {σ : St} {H : Hp} {s s' : Shared}
/-- from a body: what a callee wants -/
theorem Inv.env0 (I : Inv X pins σ H s) : Env0 X.prog X.w X.K X.mg X.base X.A X.stack s H :=
  ⟨I.ok.frames, I.ok.mod, I.bs, Nat.le_trans I.ok.bsz I.sz, I.stack, I.stkFree, I.hok, I.bare⟩
/-- behind a call -/
theorem Inv.after {Q : VK} {u : Value} (I : Inv X pins σ H s) (h : CE X.stack X.prog X.w H s Q u s') : EP X pins σ Q u s' := by
  obtain ⟨v, H', os, bare, un, hok, r, q⟩ := h
  obtain ⟨hh, g, d, t, os'⟩ := s'
  obtain rfl : os' = s.os := os
  exact ⟨v, H', I.call (h' := hh) (g' := g) (d' := d) (t' := t) (ch := []) un hok bare (fun b z => absurd z (by simp)), r, q⟩
end

/-! ### calls -/
/-- f(..): the written arguments, then the defaults dvs; E: what is wanted of an exception -/
def tCall (sp : Sp) (dvs : List V) (E : XK) (t : TA) : TE := fun σ H Q => t σ H fun vs H1 => sp (vs ++ dvs) H1 Q E
/-- o.m(..) of an instance of the class at C -/
def tMeth (C : Addr) (m : Str) (sp : Sp) (dvs : List V) (E : XK) (ta : TE) (t : TA) : TE := fun σ H Q => ta σ H fun x H1 => ∃ a dx fs, x = .ref a ∧ H1 a = some (.ins C dx fs) ∧ fs.lookup m = none ∧
  t σ H1 fun vs H2 => sp (x :: (vs ++ dvs)) H2 Q E
/-- C(..): a new instance and its dict, then __init__ -/
def tMake (C : Addr) (sp : Sp) (dvs : List V) (E : XK) (t : TA) : TE := fun σ H Q => t σ H fun vs H1 => ∀ x dx, H1 x = none → H1 dx = none → dx ≠ x →
  sp (.ref x :: (vs ++ dvs)) (upd (upd H1 dx (.own x)) x (.ins C dx [])) (fun v H2 => v = .non ∧ Q (.ref x) H2) E

/-- how the parameters are bound: us the positional arguments, kw the keywords' values by name, ds the defaults that fill up -/
def Binds (K : PySem.W.Frag) (fd : FuncData) (ps : List Str) (ds : List Value) : Prop :=
  ∀ (s : Shared) (us : List Value), K.In s.heap → (us ++ ds).length = ps.length → BindsTo s fd ⟨us, []⟩ (ps.zip (us ++ ds))
/-- every parameter is given -/
theorem Binds.all {K : PySem.W.Frag} {fd : FuncData} {ps : List Str} (h : ∀ us : List Value, us.length = ps.length → bindArgs fd ⟨us, []⟩ = pure (ps.zip us)) : Binds K fd ps [] := fun s us _ hl => by
  rw [List.append_nil] at hl ⊢
  exact .of_eq (h us hl)

/-- an exception of a callee reaches what this body wants of exceptions -/
def Passes (CX : CXT) (X : Cx) (E : XK) : Prop := ∀ (pins : List (Addr × Obj)) (σ : St) (H : Hp) (s : Shared) (e : Value) (s' : Shared), Inv X pins σ H s → CX X.stack H s E e s' → X.xe e s'

section
variable {X : Cx} {CX : CXT} {k : Nat} {f C : Addr} {fd : FuncData} {ps : List Str} {sp : Sp} {dvs : List V} {ds : List Value} {E : XK} {x m : Str} {p pos apos : Pos} {e o : Expr} {es : List Expr} {ta : TE} {t : TA}

/-- the callee runs -/
theorem run_fn {pins : List (Addr × Obj)} {σ : St} {H : Hp} {s : Shared} {Q : VK} {us : List Value} {vs : List V} (F : FnOk X.prog X.w X.K X.mg X.base CX k f fd ps sp) (hr : Room k X.A) (hb : Binds X.K fd ps ds) (hd : Vals dvs ds) (hx : Passes CX X E)
    (I : Inv X pins σ H s) (r : Vals vs us) (h : sp (vs ++ dvs) H Q E) : wpAny (model X.prog X.w) X.A (call (.ref f) us) (EP X pins σ Q) X.xe s := by
  have r2 : Vals (vs ++ dvs) (us ++ ds) := r.append hd
  have hl : (us ++ ds).length = ps.length := by rw [← r2.length]; exact F.len _ _ _ _ h
  refine wpAny_call (codeAny_mono (F.run X.A X.stack s H ⟨us, []⟩ (us ++ ds) (vs ++ dvs) Q E hr I.env0 (hb s us I.kIn hl) r2 h) fun r s' hq => ?_)
  cases r with
  | error e => exact hx pins σ H s e s' I hq
  | ok fl =>
    cases fl with
    | ret u => exact I.after hq
    | next => exact False.elim hq
    | brk => exact False.elim hq
    | cont => exact False.elim hq

theorem pe_call (F : FnOk X.prog X.w X.K X.mg X.base CX k f fd ps sp) (hr : Room k X.A) (hg : Gl X x) (hm : X.mg x = some (.ref f)) (hk : PySem.W.keepIn X.K (.ref f) = true) (hb : Binds X.K fd ps ds) (hd : Vals dvs ds) (hx : Passes CX X E)
    (ha : PA X (e :: es) t) (hdb : (x == ("__debug__" : Str)) = false := by decide) (he : starEach (e :: es) X.env = (false, eval e X.env) :: starEach es X.env := by rfl) (hpl : (backTo pos (starEach es X.env)).any (·.1) = false := by rfl) :
    PE X (.Call (.Name x p) (e :: es) [] pos) (tCall sp dvs E t) := by
  intro pins s σ H Q I h
  refine wpAny_Call_Name_kw (ld_glob I hg hm ?_ hdb)
  refine PySem.W.callWith_K (h₀ := X.base) I.ok.mod.kin hk (thn (ha pos pins s σ H _ I h) fun us s1 ⟨vs, H1, I1, r, q⟩ => ⟨I1.kIn, ?_⟩) he hpl
  exact run_fn F hr hb hd hx I1 r q
/-- what a class must have to be made -/
structure Mk (K : PySem.W.Frag) (C f : Addr) : Prop where
  makes : PySem.W.makesIn K C = true
  init : PySem.W.findIn K (.ref C) "__init__" = some (some (.ref f))
  fn : PySem.W.isFn K (.ref f) = true
  kp : PySem.W.keepIn K (.ref C) = true

end

/-! ### keywords -/
/-- the values of the keywords, from the left -/
def PK (X : Cx) (kws : List Keyword) (t : TA) : Prop :=
  ∀ (pos : Pos) (pins : List (Addr × Obj)) (s : Shared) (σ : St) (H : Hp) (Q : List V → Hp → Prop), Inv X pins σ H s → t σ H Q → wpAny (model X.prog X.w) X.A (evalAll ((backToKw pos (keywordEach kws X.env)).map (·.2))) (AP X pins σ Q) X.xe s
section
variable {X : Cx} {CX : CXT} {k : Nat} {f C : Addr} {fd : FuncData} {ps ks : List Str} {sp : Sp} {E : XK} {x m : Str} {p pos apos kpos : Pos} {e o : Expr} {es : List Expr} {kws : List Keyword} {te ta : TE} {t tk : TA} {nm : Option Str}
/-- how a call with keywords binds: g puts the positional values us and the keywords' values ws (names ks) in the parameters' order, defaults among them -/
structure KBinds (K : PySem.W.Frag) (fd : FuncData) (ps ks : List Str) (g : List Value → List Value → List Value) (gV : List V → List V → List V) : Prop where
  to : ∀ (s : Shared) (us ws : List Value), K.In s.heap → (g us ws).length = ps.length → BindsTo s fd ⟨us, ks.zip ws⟩ (ps.zip (g us ws))
  rel : ∀ {vs : List V} {us : List Value} {zs : List V} {ws : List Value}, Vals vs us → Vals zs ws → Vals (gV vs zs) (g us ws)
def tCallK (sp : Sp) (gV : List V → List V → List V) (E : XK) (t tk : TA) : TE := fun σ H Q => t σ H fun vs H1 => tk σ H1 fun zs H2 => sp (gV vs zs) H2 Q E
variable {g : List Value → List Value → List Value} {gV : List V → List V → List V}
end

/-! ### a def's body keeps its promise -/
/-- names: the parameters first -/
structure FnScope (N P : List Str) (sc : Scope) : Prop where
  kind : sc.kind = .function
  co : sc.isCoroutine = false
  gen : sc.isGenerator = false
  nd : N.Nodup
  pre : N.take P.length = P
  par : ∀ x ∈ P, sc.names.lookup x = some .local ∨ sc.names.lookup x = some .cell
  nofree : ∀ y ∈ sc.names, y.2 ≠ .free

theorem bindL_out {kindOf : Str → Option NameKind} {x : Str} : ∀ {binds : List (Str × Value)} {m : Str → Option Value}, (∀ v, (x, v) ∉ binds) → bindL kindOf binds m x = m x
  | [], _, _ => rfl
  | (n, v) :: r, m, h => by
    unfold bindL
    rw [bindL_out fun w hw => h w (List.mem_cons_of_mem _ hw)]
    split
    · have : x ≠ n := by rintro rfl; exact h v List.mem_cons_self
      simp [this]
    · rfl
theorem bindC_out {kindOf : Str → Option NameKind} {x : Str} : ∀ {binds : List (Str × Value)} {m : Str → Option Value}, (∀ v, (x, v) ∉ binds) → bindC kindOf binds m x = m x
  | [], _, _ => rfl
  | (n, v) :: r, m, h => by
    unfold bindC
    rw [bindC_out fun w hw => h w (List.mem_cons_of_mem _ hw)]
    split
    · rfl
    · have : x ≠ n := by rintro rfl; exact h v List.mem_cons_self
      simp [this]
theorem bindL_get {kindOf : Str → Option NameKind} {x : Str} {v : Value} : ∀ {P : List Str} {vs : List Value} {i : Nat} {m : Str → Option Value}, P.Nodup → P[i]? = some x → vs[i]? = some v → kindOf x = some .local →
    bindL kindOf (P.zip vs) m x = some v
  | [], _, _, _, _, h, _, _ => by simp at h
  | _ :: _, [], _, _, _, _, h, _ => by simp at h
  | p :: P, w :: vs, 0, m, nd, h1, h2, hk => by
    simp at h1 h2; subst h1; subst h2
    show bindL kindOf ((p, w) :: P.zip vs) m p = _
    unfold bindL
    rw [bindL_out fun v hv => (List.nodup_cons.mp nd).1 (List.of_mem_zip hv).1, if_pos hk]
    simp
  | p :: P, w :: vs, i + 1, m, nd, h1, h2, hk => by
    show bindL kindOf ((p, w) :: P.zip vs) m x = _
    unfold bindL
    exact bindL_get (i := i) (List.nodup_cons.mp nd).2 (by simpa using h1) (by simpa using h2) hk
theorem bindC_get {kindOf : Str → Option NameKind} {x : Str} {v : Value} : ∀ {P : List Str} {vs : List Value} {i : Nat} {m : Str → Option Value}, P.Nodup → P[i]? = some x → vs[i]? = some v → kindOf x ≠ some .local →
    bindC kindOf (P.zip vs) m x = some v
  | [], _, _, _, _, h, _, _ => by simp at h
  | _ :: _, [], _, _, _, _, h, _ => by simp at h
  | p :: P, w :: vs, 0, m, nd, h1, h2, hk => by
    simp at h1 h2; subst h1; subst h2
    show bindC kindOf ((p, w) :: P.zip vs) m p = _
    unfold bindC
    rw [bindC_out fun v hv => (List.nodup_cons.mp nd).1 (List.of_mem_zip hv).1, if_neg hk]
    simp
  | p :: P, w :: vs, i + 1, m, nd, h1, h2, hk => by
    show bindC kindOf ((p, w) :: P.zip vs) m x = _
    unfold bindC
    exact bindC_get (i := i) (List.nodup_cons.mp nd).2 (by simpa using h1) (by simpa using h2) hk

/-- the names' values at the entry -/
def start (N : List Str) (vs : List V) : St := vs.map some ++ List.replicate (N.length - vs.length) none

/-- the context of a def's body, at its entry; an exception leaves the frame, then lies as CX says -/
def cxOf (CX : CXT) (P : Program) (w : World) (K : PySem.W.Frag) (mg : Str → Option Value) (base : Heap) (N : List Str) (qual : Str) (scope : Scope) (f : Addr) (cd : Value) (A : Around) (outer : List Env) (s : Shared) (H : Hp) (E : XK) : Cx where
  prog := P
  w := w
  K := K
  mg := mg
  base := base
  A := A.deeper (envOfC qual scope s.heap.objs.size f cd)
  N := N
  s₀ := s
  H₀ := H
  env := envOfC qual scope s.heap.objs.size f cd
  outer := outer
  stack := envOfC qual scope s.heap.objs.size f cd :: outer
  ex := []
  calm := true
  fn := fun _ => true
  pn := []
  xe := fun e s' => wpAny (model P w) (A.deeper (envOfC qual scope s.heap.objs.size f cd)) (leaving (envOfC qual scope s.heap.objs.size f cd) e) (fun _ s'' => CX outer H s E e s'') (fun e' s'' => CX outer H s E e' s'') s'

theorem cell_has {sc : Scope} {n : Nat} {x : Str} (h : sc.names.lookup x = some .cell) : ∃ c, (cellsFrom n sc.names []).lookup x = some c := by
  have q := PySem.W.cellsFrom_some sc.names n [] (.inl h)
  exact Option.isSome_iff_exists.mp q

theorem inv_start {CX : CXT} {P : Program} {w : World} {K : PySem.W.Frag} {mg : Str → Option Value} {base : Heap} {N ps : List Str} {qual : Str} {scope : Scope} {f : Addr} {cd : Value} {A : Around} {outer : List Env} {s s1 : Shared} {H : Hp} {E : XK} {us : List Value} {vs : List V}
    (S : FnScope N ps scope) (hd : A.handled = none) (e0 : Env0 P w K mg base A outer s H) (hl : vs.length = ps.length) (r : Vals vs us)
    (x : InCallC s s.heap.objs.size (bindL (envOfC qual scope s.heap.objs.size f cd).kindOf (ps.zip us) fun _ => none) (cellsFrom (s.heap.objs.size + 1) scope.names []) (bindC (envOfC qual scope s.heap.objs.size f cd).kindOf (ps.zip us) fun _ => none) s1) :
    Inv (cxOf CX P w K mg base N qual scope f cd A outer s H E) [] (start N vs) H s1 := by
  have hpl : ps.length ≤ N.length := by have := congrArg List.length S.pre; rw [List.length_take] at this; omega
  obtain ⟨h1, tk, rfl, hk⟩ := x.done
  have noA : ∀ b : Addr, b ∉ (cxOf CX P w K mg base N qual scope f cd A outer s H E).ex := fun b z => absurd (show b ∈ ([] : List Addr) from z) (by simp)
  refine ⟨⟨e0.mod, S.kind, rfl, rfl, Nat.le_refl _, fun y z c h1 h2 => ?_, fun y hy => ?_, fun y c _ h => ?_, fun _ => hd, Around.frames_deeper e0.frames, .inr ⟨rfl, rfl⟩, fun b z => absurd z (noA b), e0.bs, e0.bsz, fun b _ _ => noA b, fun b z => absurd z (noA b), e0.funs, e0.frf⟩,
    rfl, e0.bare, Un.kept hk, ⟨_, x.toInCall.ns, fun i y v h1 h2 h3 => ?_⟩, fun y c h => ⟨_, x.cell y c h⟩, e0.hok.fresh (Nat.le_refl _), fun y c h => ?_, fun p hp => absurd (show p ∈ ([] : List (Addr × Obj)) from hp) (by simp), e0.hok.kept hk, ?_⟩
  · exact name_of_addr x.apart (PySem.mem_of_lookup h1) (PySem.mem_of_lookup h2)
  · have hy : scope.names.lookup y = some .cell ∨ scope.names.lookup y = some .free := hy
    rcases hy with hy | hy
    · exact cell_has hy
    · exact absurd rfl (S.nofree _ (PySem.mem_of_lookup hy))
  · exact Nat.le_of_lt (x.above y c (PySem.mem_of_lookup h))
  · have hi : i < vs.length := by
      unfold start at h2
      by_cases hi : i < vs.length
      · exact hi
      · rw [List.getElem?_append_right (by simpa using hi)] at h2
        rw [List.getElem?_replicate] at h2
        split at h2 <;> cases h2
    have ha : vs[i]? = some v := by
      unfold start at h2
      rw [List.getElem?_append_left (by simpa using hi), List.getElem?_map] at h2
      cases e : vs[i]? with
      | none => rw [e] at h2; cases h2
      | some a => rw [e] at h2; cases h2; rfl
    obtain ⟨u, hu, rv⟩ := r.get ha
    have hp : ps[i]? = some y := by
      rw [← S.pre, List.getElem?_take_of_lt (by omega)]; exact h1
    have ndP : ps.Nodup := by rw [← S.pre]; exact S.nd.sublist (List.take_sublist _ _)
    refine ⟨u, rv, ?_⟩
    rcases S.par y (List.mem_of_getElem? hp) with k | k
    · exact .inl ⟨k, bindL_get ndP hp hu k⟩
    · obtain ⟨c, e⟩ := cell_has (n := s.heap.objs.size + 1) k
      refine .inr ⟨.inl k, c, e, ?_⟩
      have q := x.cell y c e
      rw [bindC_get ndP hp hu (by show scope.names.lookup y ≠ _; rw [k]; decide)] at q
      exact q
  · exact e0.hok.fresh (Nat.le_of_lt (x.above y c (PySem.mem_of_lookup h)))
  · unfold start
    show _ = N.length
    rw [List.length_append, List.length_map, List.length_replicate]
    omega

/-- THE RULE: a def (or a method) of the text, by its body. The body's reading t is chosen for each entry; it is run at the parameters' values -/
theorem fn_of {CX : CXT} {P : Program} {w : World} {K : PySem.W.Frag} {mg : Str → Option Value} {base : Heap} {k : Nat} {f : Addr} {name qual : Str} {params : Arguments} {body : List Stmt} {scope : Scope} {dV kV doc pm cdv ct oc : Value} {an od : Option Addr}
    {osl : Array (Option Value)} {N ps : List Str} {sp : Sp} (lk : K.lookup f = some ⟨oc, od, .func (PySem.W.fnOf name qual params body scope dV kV doc pm an cdv ct), osl⟩) (hcd : PySem.W.codeIn K cdv qual = true) (S : FnScope N ps scope)
    (len : ∀ vs H Q E, sp vs H Q E → vs.length = ps.length)
    (hbody : ∀ (A : Around) (outer : List Env) (s : Shared) (H : Hp) (vs : List V) (Q : VK) (E : XK), Room k (A.deeper (envOfC qual scope s.heap.objs.size f cdv)) → sp vs H Q E →
      ∃ t, PSs (cxOf CX P w K mg base N qual scope f cdv A outer s H E) body t ∧ t { nx := fun _ H' => Q .non H', rt := Q } (start N vs) H) :
    FnOk P w K mg base CX (k + 1) f (PySem.W.fnOf name qual params body scope dV kV doc pm an cdv ct) ps sp := by
  refine ⟨len, fun A outer s H args us vs Q E hr e0 hb r hsp => ?_⟩
  have hl := len _ _ _ _ hsp
  have KX : K.In s.heap := e0.mod.kin.keeps fun b o e => (e0.bs b o e).1
  have lim : s.heap.NoLimit := e0.mod.nolimit.keeps fun b o e => (e0.bs b o e).1
  have hkind : ∀ y ∈ ps.zip us, scope.names.lookup y.1 = some .local ∨ (scope.names.lookup y.1 = some .cell ∧ ((cellsFrom (s.heap.objs.size + 1) scope.names []).lookup y.1).isSome = true) := fun ⟨n, v⟩ hy => by
    rcases S.par n (List.of_mem_zip hy).1 with q | q
    · exact .inl q
    · exact .inr ⟨q, PySem.W.cellsFrom_some _ _ _ (.inl q)⟩
  refine codeAny_call_function hr.depth (KX _ _ lk) rfl S.co S.gen rfl (PySem.W.codeRec_of KX hcd) (hb _ _ _ _ ?_)
  refine wpAny_newFunctionEnv_cells S.kind hkind fun env he s1 x => ?_
  subst he
  refine ⟨lim.keeps x.toInCall.keep, codeAny_func ?_⟩
  obtain ⟨t, ht, hq⟩ := hbody A outer s H vs Q E (hr.deeper _) hsp
  have I : Inv (cxOf CX P w K mg base N qual scope f cdv A outer s H E) [] (start N vs) H s1 := inv_start S hr.hd e0 hl r x
  refine wpAny_mono (ht [] s1 (start N vs) H _ I hq) (fun fl s' hs => ?_) fun e s' hs => hs
  have fin : ∀ {σ' : St} {H' : Hp} {v : V} {u : Value}, Inv (cxOf CX P w K mg base N qual scope f cdv A outer s H E) [] σ' H' s' → RelV v u → Q v H' → CE outer P w H s Q u s' :=
    fun {σ' H' v u} J rv q => ⟨v, H', J.os, J.bare, J.base, J.hok, rv, q⟩
  cases fl with
  | ret u =>
    obtain ⟨v, σ', H', J, rv, q⟩ := hs
    exact fin J rv q
  | next =>
    obtain ⟨σ', H', J, q⟩ := hs
    exact fin (v := V.non) (u := Value.none) J rfl q
  | brk =>
    obtain ⟨_, _, _, q⟩ := hs
    exact False.elim q
  | cont =>
    obtain ⟨_, _, _, q⟩ := hs
    exact False.elim q
end L2

namespace L2
open PySem PySem.Spec PyProof.Rows
section
variable {X : Cx} {x : Str} {p pos : Pos} {e : Expr} {es : List Expr} {t : TA} {id T : String} {r : List V → Hp → VK → Prop}

def tCB (r : List V → Hp → VK → Prop) (t : TA) : TE := fun σ H Q => t σ H fun vs H1 => r vs H1 Q
/-- f(e, ..), f a built-in function -/
theorem pe_callB (hc : CallR X (.builtin id) r) (hg : Gl X x) (hm : X.mg x = none) (hv : bootBuiltins x = some (.builtin id)) (ha : PA X (e :: es) t) (hn : x ≠ "__name__" := by decide) (hdb : (x == ("__debug__" : Str)) = false := by decide)
    (he : starEach (e :: es) X.env = (false, eval e X.env) :: starEach es X.env := by rfl) (hpl : (backTo pos (starEach es X.env)).any (·.1) = false := by rfl) : PE X (.Call (.Name x p) (e :: es) [] pos) (tCB r t) := by
  intro pins s σ H Q I h
  refine wpAny_Call_Name_kw (ld_blt I hg hm hv ?_ hn hdb)
  exact PyProof.Rows.callWith_builtin1 (thn (ha pos pins s σ H _ I h) fun us s1 ⟨vs, H1, I1, r1, q1⟩ => hc pins s1 σ H1 vs us Q I1 r1 q1) he hpl
/-- T(e, ..), T a built-in type -/
theorem pe_callTy (hc : CallR X (.type T) r) (hg : Gl X x) (hm : X.mg x = none) (hv : bootBuiltins x = some (.type T)) (ha : PA X (e :: es) t) (hn : x ≠ "__name__" := by decide) (hdb : (x == ("__debug__" : Str)) = false := by decide)
    (he : starEach (e :: es) X.env = (false, eval e X.env) :: starEach es X.env := by rfl) (hpl : (backTo pos (starEach es X.env)).any (·.1) = false := by rfl) : PE X (.Call (.Name x p) (e :: es) [] pos) (tCB r t) := by
  intro pins s σ H Q I h
  refine wpAny_Call_Name_kw (ld_blt I hg hm hv ?_ hn hdb)
  exact PyProof.Rows.callWith_type1 (thn (ha pos pins s σ H _ I h) fun us s1 ⟨vs, H1, I1, r1, q1⟩ => hc pins s1 σ H1 vs us Q I1 r1 q1) he hpl
end
end L2

namespace HT
open PySem PyProof.Rows

/-- t < u of tuples of ints -/
def lexLt : List Int → List Int → Bool
  | [], [] => false
  | [], _ :: _ => true
  | _ :: _, [] => false
  | x :: xs, y :: ys => if x = y then lexLt xs ys else decide (x < y)
section
open PySem.SeqAt
open PySem.AutoSeq1 (wpAny_loadPart')
open PySem.MeetsSeq PySem.MeetsSeq2 PySem.MeetsSeq3

end

section
variable {prog : Program} {w : World} {A : Around} {E : Value → Shared → Prop} {s : Shared}

/-! ### t[a:b], not the whole -/
/-- a slice's bound as a place among n (d where it is left out) -/
def sIx (n d : Nat) : Option Int → Nat
  | none => d
  | some v => if v < 0 then (v + (n : Int)).toNat else min v.toNat n
theorem sIx_none (n d : Nat) : sIx n d none = d := rfl
theorem sIx_nat (n d k : Nat) : sIx n d (some (k : Int)) = min k n := by
  show (if (k : Int) < 0 then ((k : Int) + (n : Int)).toNat else min (k : Int).toNat n) = min k n
  rw [if_neg (by omega), Int.toNat_natCast]
end
end HT

namespace L2
open PySem PySem.Spec PyProof.Rows

/-! ### the parts of a slice -/
abbrev TO := St → Hp → (Option Int → Hp → Prop) → Prop
/-- a slice's part (left out, or an int) -/
def PO (X : Cx) (e : Option Expr) (t : TO) : Prop :=
  ∀ (pins : List (Addr × Obj)) (s : Shared) (σ : St) (H : Hp) (Q : Option Int → Hp → Prop), Inv X pins σ H s → t σ H Q →
    wpAny (model X.prog X.w) X.A (evalPart e X.env) (fun u s' => ∃ o H', Inv X pins σ H' s' ∧ IsPart u o ∧ Q o H') X.xe s
def tNoPart : TO := fun _ H Q => Q none H
def tPart (t : TE) : TO := fun σ H Q => t σ H fun x H1 => ∃ i, x = .int i ∧ Q (some i) H1

theorem intsAre_of {ns : List Int} : ∀ {us : List Value}, Vals (ns.map V.int) us → IntsAre us ns := by
  induction ns with
  | nil => intro us r; rw [List.map_nil] at r; cases r; exact .nil
  | cons n ns ih =>
    intro us r
    rw [List.map_cons] at r
    cases r with
    | cons r1 r2 =>
      obtain ⟨t, e⟩ := r1
      subst e
      exact .cons n t (ih r2)

section
variable {X : Cx} {e : Expr} {te : TE} {lo hi : Option Expr} {tl th : TO} {pos p2 : Pos}

theorem po_none : PO X none tNoPart := by
  intro pins s σ H Q I h
  rw [evalPart_none]
  exact wpAny_pure ⟨none, H, I, .none, h⟩
theorem po_some (h : PE X e te) : PO X (some e) (tPart te) := by
  intro pins s σ H Q I hw
  rw [evalPart_some]
  refine thn (h pins s σ H _ I hw) fun u s1 ⟨x, H1, I1, r1, q1⟩ => ?_
  obtain ⟨i, rfl, q⟩ := q1
  obtain ⟨t, rfl⟩ := r1
  exact ⟨some i, H1, I1, .int i t, q⟩

/-- what a slice of a value is, by values: the slice object stands at sl -/
def SlR (X : Cx) (r : V → Option Int → Option Int → Hp → VK → Prop) : Prop :=
  ∀ (pins : List (Addr × Obj)) (s : Shared) (σ : St) (H : Hp) (x : V) (v vl vu : Value) (lo hi : Option Int) (sl : Addr) (Q : VK), Inv X pins σ H s → RelV x v → s.heap.IsSliceOf sl vl vu .none → IsPart vl lo → IsPart vu hi → r x lo hi H Q →
    ∃ T id, typeLookup (.type T) "__getitem__" = pure (some (.builtin id)) ∧ s.TypeIs v T ∧ wpAny (model X.prog X.w) X.A (getItem v (.ref sl)) (EP X pins σ Q) X.xe s
def tSl (r : V → Option Int → Option Int → Hp → VK → Prop) (te : TE) (tl th : TO) : TE := fun σ H Q => te σ H fun x H1 => tl σ H1 fun l H2 => th σ H2 fun u H3 => r x l u H3 Q
/-- a[lo:hi], any a -/
theorem pe_slice {r : V → Option Int → Option Int → Hp → VK → Prop} (hr : SlR X r) (he : PE X e te) (hl : PO X lo tl) (hu : PO X hi th) : PE X (.Subscript e (.Slice lo hi none p2) pos) (tSl r te tl th) := by
  intro pins s σ H Q I h
  refine Subscript_ (thn (he pins s σ H _ I h) fun v s1 ⟨x, H1, I1, r1, q1⟩ => ?_)
  refine wpAny_Slice (thn (hl pins s1 σ H1 _ I1 q1) fun vl s2 ⟨l, H2, I2, pl, q2⟩ => thn (hu pins s2 σ H2 _ I2 q2) fun vu s3 ⟨u, H3, I3, pu, q3⟩ => ?_)
  rw [evalPart_none]
  refine wpAny_pure ?_
  have I4 : Inv X pins σ H3 { s3 with heap := s3.heap.push { cls := .type "slice", data := .fields #[vl, vu, .none] } } := I3.kept (t' := s3.toks) fun b ob q => Heap.get?_push_of_some _ q
  obtain ⟨T, id, hT, ht, hg⟩ := hr pins { s3 with heap := s3.heap.push { cls := .type "slice", data := .fields #[vl, vu, .none] } } σ H3 x v vl vu l u s3.heap.objs.size Q I4 r1 (Heap.IsSliceOf.new ..) pl pu q3
  show wpAny (model X.prog X.w) X.A (subscriptTail e (.Slice lo hi none p2) v (.ref s3.heap.objs.size)) (EP X pins σ Q) X.xe { s3 with heap := s3.heap.push { cls := .type "slice", data := .fields #[vl, vu, .none] } }
  exact tail_any (ops := [.ref s3.heap.objs.size, v]) ht hT hg (by with_unfolding_all rfl)

/-- the items of xs[lo:hi] -/
def cutV (xs : List V) (lo hi : Option Int) : List V := (xs.drop (HT.sIx xs.length 0 lo)).take (HT.sIx xs.length xs.length hi - HT.sIx xs.length 0 lo)
theorem cutV_length (xs : List V) (lo hi : Option Int) : (cutV xs lo hi).length ≤ xs.length := by
  unfold cutV
  rw [List.length_take, List.length_drop]
  omega
/-- t[lo:hi], not the whole of it (the whole would be t itself) -/
def rSlT (K : PySem.W.Frag) : V → Option Int → Option Int → Hp → VK → Prop := fun x lo hi H Q => ∃ a xs, x = .ref a ∧ SqT K H a xs ∧
  ¬ (HT.sIx xs.length 0 lo = 0 ∧ HT.sIx xs.length xs.length hi = xs.length) ∧ ∀ p, H p = none → Q (.ref p) (upd H p (.tup (cutV xs lo hi)))
/-! ### t < u, t + u -/
def rLtT (K : PySem.W.Frag) : R2 := fun x y H Q => ∃ a b ns ms, x = .ref a ∧ y = .ref b ∧ SqT K H a (ns.map V.int) ∧ SqT K H b (ms.map V.int) ∧ Q (.bl (HT.lexLt ns ms)) H
/-- t + u, t not empty: u empty gives t itself -/
def rCatT (K : PySem.W.Frag) : R2 := fun x y H Q => ∃ a b xs ys, x = .ref a ∧ y = .ref b ∧ SqT K H a xs ∧ SqT K H b ys ∧ xs ≠ [] ∧ xs.length + ys.length ≤ sizeLine ∧
  (ys = [] → Q (.ref a) H) ∧ (ys ≠ [] → ∀ p, H p = none → Q (.ref p) (upd H p (.tup (xs ++ ys))))
end
end L2

namespace L2
open PySem PySem.Spec PyProof.Rows

/-! ### places -/
/-- the place that an index of any sign means -/
def ixN (n : Nat) (i : Int) : Option Nat := if 0 ≤ i then (if i < n then some i.toNat else none) else if -(n : Int) ≤ i then some (i + n).toNat else none
def atI {α : Type} (xs : List α) (i : Int) : Option α := (ixN xs.length i).bind fun j => xs[j]?
theorem ixN_seq {n : Nat} {i : Int} {j : Nat} (h : ixN n i = some j) : seqIndex? i n = some j ∧ j < n ∧ -(n : Int) ≤ i ∧ i < n := by
  unfold ixN at h
  by_cases h0 : 0 ≤ i
  · rw [if_pos h0] at h
    by_cases h1 : i < n
    · rw [if_pos h1] at h
      have e : i.toNat = j := Option.some.inj h
      exact ⟨by rw [seqIndex_of h0 h1, e], by omega, by omega, h1⟩
    · rw [if_neg h1] at h; cases h
  · rw [if_neg h0] at h
    by_cases h1 : -(n : Int) ≤ i
    · rw [if_pos h1] at h
      have e : (i + n).toNat = j := Option.some.inj h
      exact ⟨by rw [seqIndex_neg (by omega) h1, e], by omega, h1, by omega⟩
    · rw [if_neg h1] at h; cases h
theorem atI_get {α : Type} {xs : List α} {i : Int} {v : α} (h : atI xs i = some v) : ∃ j, seqIndex? i xs.length = some j ∧ xs[j]? = some v ∧ j < xs.length ∧ -(xs.length : Int) ≤ i ∧ i < xs.length := by
  unfold atI at h
  cases e : ixN xs.length i with
  | none => rw [e] at h; cases h
  | some j =>
    rw [e] at h
    obtain ⟨h1, h2, h3, h4⟩ := ixN_seq e
    exact ⟨j, h1, h, h2, h3, h4⟩
theorem atI_nat {α : Type} {xs : List α} {j : Nat} {v : α} (h : xs[j]? = some v) : atI xs (j : Int) = some v := by
  have hj : j < xs.length := (List.getElem?_eq_some_iff.mp h).1
  have e : ixN xs.length (j : Int) = some j := by
    unfold ixN
    rw [if_pos (by omega), if_pos (by omega)]; simp
  unfold atI; rw [e]; exact h
theorem atI_last {α : Type} (xs : List α) (v : α) : atI (xs ++ [v]) (-1) = some v := by
  have hl : (xs ++ [v]).length = xs.length + 1 := by simp
  have e : ixN (xs ++ [v]).length (-1) = some xs.length := by
    unfold ixN
    rw [hl, if_neg (by decide), if_pos (by omega)]
    congr 1
    omega
  unfold atI
  rw [e]
  show (xs ++ [v])[xs.length]? = some v
  simp

/-! ### what may be subscripted -/
/-- what stands as an index of a plain subscript -/
def PlainIx (b : Expr) : Prop := ∀ o i, subscripted b false o i = operate [o, i] (getItem o i)
/-- a subscript by values -/
def IxR (X : Cx) (r : R2) : Prop :=
  ∀ (value slice : Expr) (pins : List (Addr × Obj)) (s : Shared) (σ : St) (H : Hp) (x y : V) (v u : Value) (Q : VK), Inv X pins σ H s → RelV x v → RelV y u → r x y H Q →
    subscripted slice false v u = operate [v, u] (getItem v u) → wpAny (model X.prog X.w) X.A (subscriptTail value slice v u) (EP X pins σ Q) X.xe s
/-- a call of a builtin's method by values: the receiver, the arguments -/
def MtR (X : Cx) (id : String) (r : V → List V → Hp → VK → Prop) : Prop :=
  ∀ (pins : List (Addr × Obj)) (s : Shared) (σ : St) (H : Hp) (x : V) (xs : List V) (v : Value) (us : List Value) (Q : VK), Inv X pins σ H s → RelV x v → Vals xs us → r x xs H Q →
    wpAny (model X.prog X.w) X.A (call (.builtin id) (v :: us)) (EP X pins σ Q) X.xe s
section
variable {X : Cx} {a b : Expr} {ta tb : TE} {pos : Pos}
theorem IxR.or {r r' : R2} (h : IxR X r) (h' : IxR X r') : IxR X (fun x y H Q => r x y H Q ∨ r' x y H Q) := by
  intro value slice pins s σ H x y v u Q I rx ry q hs
  rcases q with q | q
  · exact h value slice pins s σ H x y v u Q I rx ry q hs
  · exact h' value slice pins s σ H x y v u Q I rx ry q hs
/-- a[b] -/
theorem pe_ix {r : R2} (hr : IxR X r) (ha : PE X a ta) (hb : PE X b tb) (hs : PlainIx b) : PE X (.Subscript a b pos) (tOp r ta tb) := by
  intro pins s σ H Q I h
  exact Subscript_ (binT ha hb I h fun v u s2 x y H2 I2 rx ry q => hr a b pins s2 σ H2 x y v u Q I2 rx ry q (hs _ _))

def rIxL (K : PySem.W.Frag) : R2 := fun x y H Q => ∃ p xs i v, x = .ref p ∧ y = .int i ∧ SqL K H p xs ∧ atI xs i = some v ∧ Q v H
def rIxT (K : PySem.W.Frag) : R2 := fun x y H Q => ∃ p xs i v, x = .ref p ∧ y = .int i ∧ SqT K H p xs ∧ atI xs i = some v ∧ Q v H
def rIxS : R2 := fun x y H Q => ∃ z i c, x = .str z ∧ y = .int i ∧ z.length ≤ sizeLine ∧ atI z.cps.toList i = some c ∧ Q (.str ⟨#[c]⟩) H
theorem ix_list : IxR X (rIxL X.K) := by
  intro value slice pins s σ H x y v u Q I rx ry h hs
  obtain ⟨p, xs, i, z, rfl, rfl, hq, he, q⟩ := h
  cases rx
  obtain ⟨t, rfl⟩ := ry
  obtain ⟨its, r, pl, hz⟩ := I.list hq
  obtain ⟨j, h1, h2, h3, h4, h5⟩ := atI_get he
  obtain ⟨w, ew, rw'⟩ := r.get h2
  have hl := r.length
  have hn := line63
  have fin : EP X pins σ Q w s := ⟨z, H, I, rw', q⟩
  by_cases h0 : 0 ≤ i
  · have hj : i.toNat = j := by
      rw [seqIndex_of h0 h5] at h1
      exact Option.some.inj h1
    exact item_listR pl.isList h0 (by omega) (by rw [hj]; simpa using ew) fin hs
  · have hj : (i + (its.toArray.size : Int)).toNat = j := by
      rw [seqIndex_neg (by omega) h4] at h1
      rw [List.size_toArray, ← hl]
      exact Option.some.inj h1
    exact subscriptTail_builtinR (x := w) pl.isList.typeIs slot_list_getitem.lookup
      (wpAny_getItem_list_neg (Q := fun r s' => r = w ∧ EP X pins σ Q r s') pl.isList (by omega) (by rw [List.size_toArray] <;> omega) (by omega) (by rw [hj]; simpa using ew) ⟨rfl, fin⟩) hs
theorem ix_tup : IxR X (rIxT X.K) := by
  intro value slice pins s σ H x y v u Q I rx ry h hs
  obtain ⟨p, xs, i, z, rfl, rfl, hq, he, q⟩ := h
  cases rx
  obtain ⟨t, rfl⟩ := ry
  obtain ⟨its, r, pl, hz⟩ := I.tuple hq
  obtain ⟨j, h1, h2, h3, h4, h5⟩ := atI_get he
  obtain ⟨w, ew, rw'⟩ := r.get h2
  have hl := r.length
  have hn := line63
  have fin : EP X pins σ Q w s := ⟨z, H, I, rw', q⟩
  exact subscriptTail_builtinR (x := w) pl.typeIs slot_tuple_getitem.lookup
    (getItem_tuple (j := j) (Q := fun r s' => r = w ∧ EP X pins σ Q r s') pl (by omega) (by omega) (by rw [List.size_toArray, ← hl]; exact h1) (by simpa using ew) ⟨rfl, fin⟩) hs
/-- list, tuple or str -/
def rIx (K : PySem.W.Frag) : R2 := fun x y H Q => rIxL K x y H Q ∨ rIxT K x y H Q ∨ rIxS x y H Q
/-! ### xs[i] = v, any sign -/
def rSetL : V → V → V → Hp → (Hp → Prop) → Prop := fun o i v H Q => ∃ p xs k j, o = .ref p ∧ i = .int k ∧ H p = some (.lst xs) ∧ ixN xs.length k = some j ∧ Q (upd H p (.lst (xs.set j v)))
/-! ### slices -/
theorem slice_bounds (lo hi : Option Int) (n : Nat) : (sliceBounds lo hi none n).1 = ((HT.sIx n 0 lo : Nat) : Int) ∧ (sliceBounds lo hi none n).2.1 = ((HT.sIx n n hi : Nat) : Int) ∧ (sliceBounds lo hi none n).2.2 = 1 := by
  refine ⟨?_, ?_, rfl⟩
  · cases lo with
    | none => simp [sliceBounds, HT.sIx]
    | some i =>
      simp only [sliceBounds, HT.sIx, Option.getD_none, show (1 : Int) > 0 by decide, if_true]
      by_cases h : i < 0
      · simp only [h, if_true] <;> omega
      · simp only [h, if_false] <;> omega
  · cases hi with
    | none => simp [sliceBounds, HT.sIx]
    | some i =>
      simp only [sliceBounds, HT.sIx, Option.getD_none, show (1 : Int) > 0 by decide, if_true]
      by_cases h : i < 0
      · simp only [h, if_true] <;> omega
      · simp only [h, if_false] <;> omega
theorem slicePick_cut (its : List Value) (lo hi : Option Int) : slicePick its.toArray lo hi none = ((its.drop (HT.sIx its.length 0 lo)).take (HT.sIx its.length its.length hi - HT.sIx its.length 0 lo)).toArray := by
  obtain ⟨h1, h2, h3⟩ := slice_bounds lo hi its.toArray.size
  unfold slicePick
  rw [h1, h2, h3]
  simp only [sliceRange_one, pick_run, List.size_toArray] <;> rfl
/-- xs[lo:hi] of a list: a new list -/
def rSlL (K : PySem.W.Frag) : V → Option Int → Option Int → Hp → VK → Prop := fun x lo hi H Q => ∃ a xs, x = .ref a ∧ SqL K H a xs ∧ ∀ p, H p = none → Q (.ref p) (upd H p (.lst (cutV xs lo hi)))
theorem sl_list : SlR X (rSlL X.K) := by
  intro pins s σ H x v vl vu lo hi sl Q I rx hs pl pu h
  obtain ⟨a, xs, rfl, hx, q⟩ := h
  cases rx
  obtain ⟨its, r, ht, hz⟩ := I.list hx
  have hlen := r.length
  refine ⟨"list", _, slot_list_getitem.lookup, ht.isList.typeIs, ?_⟩
  refine wpAny_getItem_list_slice ht.isList hs pl pu .none (by simp) ?_ (by rw [List.size_toArray] <;> omega)
  rw [slicePick_cut, ← hlen]
  refine ⟨.ref s.heap.objs.size, _, I.laid (t' := s.toks) (o := .lst (cutV xs lo hi)) (fun b ob q => Heap.get?_push_of_some _ q) (Nat.le_refl _) ?_, rfl, q _ (I.hok.fresh (Nat.le_refl _))⟩
  exact ⟨Nat.le_trans (cutV_length xs lo hi) hz, _, 0, (r.drop (HT.sIx xs.length 0 lo)).take (HT.sIx xs.length xs.length hi - HT.sIx xs.length 0 lo), Heap.get?_push_size _ rfl⟩

/-! ### in, not in: flat items -/
def flatV : V → Bool
  | .non => true
  | .bl _ => true
  | .int _ => true
  | .str _ => true
  | _ => false
/-- == of flat values -/
def eqV : V → V → Bool
  | .non, .non => true
  | .bl a, .bl b => a == b
  | .bl a, .int b => (if a then 1 else 0) == b
  | .int a, .bl b => a == (if b then 1 else 0)
  | .int a, .int b => a == b
  | .str a, .str b => a == b
  | _, _ => false
/-- the items' answers, read off the values (a value's own answer does not lean on its token) -/
def eqU (x : V) (u : Value) : Bool := match u with
  | .none => eqV .non x
  | .bool b => eqV (.bl b) x
  | .int i _ => eqV (.int i) x
  | .str z _ => eqV (.str z) x
  | _ => false
def inV (x : V) (xs : List V) : Bool := xs.any fun y => eqV y x
/-- x in a list or tuple of flat items -/
def rIn (K : PySem.W.Frag) (neg : Bool) : R2 := fun x y H Q => ∃ p xs, y = .ref p ∧ (SqL K H p xs ∨ SqT K H p xs) ∧ flatV x = true ∧ xs.all flatV = true ∧ Q (.bl (if neg then !inV x xs else inV x xs)) H
/-! ### len, list(x), tuple(x) of any list or tuple that is read -/
theorem call_list_of : CallR X (.type "list") (fun xs H Q => ∃ p ys, xs = [.ref p] ∧ (SqL X.K H p ys ∨ SqT X.K H p ys) ∧ ∀ l, H l = none → Q (.ref l) (upd H l (.lst ys))) := by
  intro pins s σ H xs us Q I r h
  obtain ⟨p, ys, rfl, hq, q⟩ := h
  obtain ⟨u, rfl, rx⟩ := vals1 r
  cases rx
  have fin : ∀ (its : List Value), Vals ys its → ys.length ≤ sizeLine → ∀ (h' : Heap) (c' : Nat), (∀ b o', s.heap.get? b = some o' → h'.get? b = some o') →
      h'.get? s.heap.objs.size = some { cls := .type "list", dict := none, data := .seq its.toArray c', slots := #[] } → EP X pins σ Q (.ref s.heap.objs.size) { s with heap := h' } := fun its r' hz h' c' kp e =>
    ⟨.ref s.heap.objs.size, _, I.laid (t' := s.toks) kp (Nat.le_refl _) (show ObjOk X.prog X.w _ h' _ (.lst ys) from ⟨hz, its, c', r', e⟩), rfl, q _ (I.hok.fresh (Nat.le_refl _))⟩
  rcases hq with hq | hq
  · obtain ⟨its, r', pl, hz⟩ := I.list hq
    have hlen := r'.length
    obtain ⟨o, ho, hc, n, hd⟩ := pl.isList
    exact call_list_seq p (.inl rfl) ho hc hd (fun h' c' kp e => fin its r' hz h' c' kp e) (by simp only [List.size_toArray] <;> omega)
  · obtain ⟨its, r', pl, hz⟩ := I.tuple hq
    have hlen := r'.length
    obtain ⟨o, ho, hc, n, hd⟩ := pl
    exact call_list_seq p (.inr rfl) ho hc hd (fun h' c' kp e => fin its r' hz h' c' kp e) (by simp only [List.size_toArray] <;> omega)
/-! ### the call of a builtin's method: o.m(..) -/
/-- the value is of that builtin type -/
def tyV (K : PySem.W.Frag) (T : String) (x : V) (H : Hp) : Prop := match x with
  | .str _ => T = "str"
  | .int _ => T = "int"
  | .ref p => (T = "list" ∧ ∃ xs, SqL K H p xs) ∨ (T = "tuple" ∧ ∃ o, K.lookup p = some o ∧ o.cls = .type "tuple" ∧ o.dict = none) ∨
      (T = "dict" ∧ ((∃ kvs, H p = some (.dK kvs)) ∨ ∃ kvs, H p = some (.dT kvs))) ∨ (T = "set" ∧ ∃ S n, H p = some (.set S n))
  | _ => False
theorem tyV_is {pins : List (Addr × Obj)} {σ : St} {H : Hp} {s : Shared} {T : String} {x : V} {v : Value} (I : Inv X pins σ H s) (r : RelV x v) (ty : tyV X.K T x H) :
    s.TypeIs v T ∧ ∀ a, v = .ref a → ∃ ob, s.heap.get? a = some ob ∧ ob.dict = none := by
  cases x with
  | str z =>
    obtain ⟨t, rfl⟩ := r
    cases (show T = "str" from ty)
    exact ⟨typeIs_str s z t, fun _ e => nomatch e⟩
  | int i =>
    obtain ⟨t, rfl⟩ := r
    cases (show T = "int" from ty)
    exact ⟨typeIs_int s i t, fun _ e => nomatch e⟩
  | ref p =>
    cases r
    rcases ty with ⟨rfl, xs, hq⟩ | ⟨rfl, o, hk, hc, hd⟩ | ⟨rfl, hk⟩ | ⟨rfl, S, n, hk⟩
    · obtain ⟨its, _, pl, _⟩ := I.list hq
      refine ⟨pl.isList.typeIs, fun a e => ?_⟩
      cases e
      obtain ⟨o, n, e, c, hd, _⟩ := pl
      exact ⟨o, e, hd⟩
    · refine ⟨⟨o, I.kIn p o hk, hc⟩, fun a e => ?_⟩
      cases e
      exact ⟨o, I.kIn _ o hk, hd⟩
    · have z : ∃ o, s.heap.get? p = some o ∧ o.ExactDict := by
        rcases hk with ⟨kvs, hk⟩ | ⟨kvs, hk⟩
        · obtain ⟨_, _, _, _, o, _, _, e, ex, _⟩ := I.hok p _ hk
          exact ⟨o, e, ex⟩
        · obtain ⟨_, _, _, _, o, _, _, e, ex, _⟩ := I.hok p _ hk
          exact ⟨o, e, ex⟩
      obtain ⟨o, e, ex⟩ := z
      refine ⟨⟨o, e, ex.1⟩, fun a e2 => ?_⟩
      cases e2
      exact ⟨o, e, ex.2.1⟩
    · obtain ⟨o, _, _, _, e, ex, _⟩ := I.hok p _ hk
      refine ⟨⟨o, e, ex.1⟩, fun a e2 => ?_⟩
      cases e2
      exact ⟨o, e, ex.2.1⟩
  | _ => exact False.elim ty
def tBM0 (K : PySem.W.Frag) (T : String) (r : V → List V → Hp → VK → Prop) (to : TE) : TE := fun σ H Q => to σ H fun x H1 => tyV K T x H1 ∧ r x [] H1 Q
def tBM (K : PySem.W.Frag) (T : String) (r : V → List V → Hp → VK → Prop) (to : TE) (t : TA) : TE := fun σ H Q => to σ H fun x H1 => tyV K T x H1 ∧ t σ H1 fun xs H2 => r x xs H2 Q
variable {o e : Expr} {es : List Expr} {to : TE} {t : TA} {name : Str} {apos cpos : Pos} {T id : String} {r : V → List V → Hp → VK → Prop}
theorem pe_bm (pa : PlainAttrs T) (slot : Slot T name id) (hty : typeOf (.builtin id) = pure (.type "method_descriptor")) (hm : MtR X id r) (ho : PE X o to) (ha : PA X (e :: es) t)
    (hbase : attributeBase o name X.env (eval o X.env) = eval o X.env := by rfl)
    (hfew : ((backTo cpos (starEach (e :: es) X.env)).all (fun x => !x.1) && (backToKw cpos (keywordEach [] X.env)).all (fun x => x.1.isSome)
      && decide ((e :: es).length + ([] : List Keyword).length + (if ([] : List Keyword).isEmpty then 0 else 1) < 30)) = true := by rfl)
    (hline : (apos.endLine == cpos.line) = true := by rfl) (hs : starEach (e :: es) X.env = (false, eval e X.env) :: starEach es X.env := by rfl) (hplain : (backTo cpos (starEach es X.env)).any (·.1) = false := by rfl) :
    PE X (.Call (.Attribute o name apos) (e :: es) [] cpos) (tBM X.K T r to t) := by
  intro pins s σ H Q I h
  refine wpAny_Call_method_late hbase hfew hline rfl (thn (ho pins s σ H _ I h) fun v s1 ⟨x, H1, I1, r1, ty, q1⟩ => ?_)
  obtain ⟨h1, h2⟩ := tyV_is I1 r1 ty
  refine ⟨T, id, pa, slot, hty, h1, h2, ?_⟩
  have hA := ha cpos pins s1 σ H1 _ I1 q1
  rw [hs] at hA ⊢
  refine Calls.callWith_builtin (by show (false || (backTo cpos (starEach es X.env)).any (·.1)) = false; rw [hplain] <;> rfl) (Calls.evalArgs_plain ?_)
  exact thn hA fun us s2 ⟨vs, H2, I2, r2, q2⟩ => hm pins s2 σ H2 x vs v us Q I2 r1 r2 q2
/- xs.append(e), list.index on a module's tuple .. are MtR facts of 06m -/
end
end L2

namespace L2
open PySem PySem.Spec PyProof.Rows

def MtM (X : Cx) (id : String) (r : V → List V → Hp → VK → Prop) : Prop :=
  ∀ (pins : List (Addr × Obj)) (s : Shared) (σ : St) (H : Hp) (x : V) (xs : List V) (v : Value) (us : List Value) (Q : VK), Inv X pins σ H s → RelV x v → Vals xs us → r x xs H Q →
    wpAny (model X.prog X.w) X.A (call (.builtin id) (v :: us)) (EP X pins σ Q) X.xe s

/-! ### lists of values -/
theorem Vals.one : ∀ {x : V} {us : List Value}, Vals [x] us → ∃ u, us = [u] ∧ RelV x u
  | _, _, .cons r .nil => ⟨_, rfl, r⟩
theorem Vals.reverse {xs : List V} {us : List Value} (h : Vals xs us) : Vals xs.reverse us.reverse := by
  induction h with
  | nil => exact .nil
  | cons r t ih => rw [List.reverse_cons, List.reverse_cons]; exact Vals.append ih (.cons r .nil)
theorem Vals.rep {xs : List V} {us : List Value} (h : Vals xs us) : ∀ k : Nat, Vals (List.replicate k xs).flatten (List.replicate k us).flatten
  | 0 => .nil
  | k + 1 => by
    rw [List.replicate_succ, List.replicate_succ, List.flatten_cons, List.flatten_cons]
    exact Vals.append h (Vals.rep h k)
theorem foldl_rep (its : List Value) : ∀ (k : Nat) (acc : List Value),
    List.foldl (fun x1 x2 => x1 ++ x2) acc.toArray (List.replicate k its.toArray) = (acc ++ (List.replicate k its).flatten).toArray
  | 0, acc => by simp
  | k + 1, acc => by
    have e : acc.toArray ++ its.toArray = (acc ++ its).toArray := by simp
    have e2 : (acc ++ its) ++ (List.replicate k its).flatten = acc ++ (List.replicate (k + 1) its).flatten := by
      rw [List.replicate_succ, List.flatten_cons, List.append_assoc]
    rw [← e2, ← foldl_rep its k (acc ++ its), ← e, List.replicate_succ, List.foldl_cons]

section
variable {X : Cx} {pins : List (Addr × Obj)} {σ : St} {H : Hp} {s : Shared} {l b : Addr} {xs ys zs : List V}

/-! ### the two steps: a tracked list is rewritten, a new list is laid -/
theorem Inv.lset {its its' : List Value} {n : Nat} {f : Array Value → Array Value} {t' : Nat} (I : Inv X pins σ H s) (hH : H l = some (.lst xs))
    (e : s.heap.get? l = some { cls := .type "list", data := .seq its.toArray n }) (hf : f its.toArray = its'.toArray) (hv : Vals ys its') (hz : ys.length ≤ sizeLine) :
    Inv X pins σ (upd H l (.lst ys)) { s with heap := s.heap.update l (Obj.mapSeq f), toks := t' } := by
  have q := PySem.IsL.update e f
  rw [hf] at q
  refine I.write (x := l) (e := l) (by rw [hH]; exact trivial) (.inl rfl) (fun b' u hb hu => (Heap.get?_update_other s.heap (Obj.mapSeq f) (Ne.symm hb)).trans hu) ⟨_, q⟩ ?_
  exact ⟨hz, its', _, hv, q⟩
theorem Inv.lnew {its : List Value} {t' : Nat} (I : Inv X pins σ H s) (hv : Vals ys its) (hz : ys.length ≤ sizeLine) :
    Inv X pins σ (upd H s.heap.objs.size (.lst ys)) { s with heap := s.heap.push { cls := .type "list", data := .seq its.toArray }, toks := t' } :=
  I.laid (fun _ _ q => Heap.get?_push_of_some _ q) (Nat.le_refl _) ⟨hz, its, 0, hv, Heap.get?_push_size _ rfl⟩
theorem Inv.fresh (I : Inv X pins σ H s) : H s.heap.objs.size = none := I.hok.fresh (Nat.le_refl _)
theorem Inv.lstM (I : Inv X pins σ H s) (hH : H l = some (.lst xs)) : xs.length ≤ sizeLine ∧ ∃ (its : List Value) (n : Nat), Vals xs its ∧ xs.length = its.length ∧ s.heap.get? l = some { cls := .type "list", data := .seq its.toArray n } := by
  obtain ⟨z, its, n, r, e⟩ := I.hok l _ hH
  exact ⟨z, its, n, r, r.length, e⟩

theorem notLongL {n : Nat} (h : n ≤ sizeLine) : Builtin.List.listTooLong n = false := by
  unfold Builtin.List.listTooLong
  exact decide_eq_false (by omega)
end

section
variable {X : Cx}

/-! ### methods -/
def rAppend : V → List V → Hp → VK → Prop := fun x vs H Q => ∃ l xs y, x = .ref l ∧ vs = [y] ∧ H l = some (.lst xs) ∧ xs.length < sizeLine ∧ Q .non (upd H l (.lst (xs ++ [y])))
theorem mt_append : MtM X "list.append" rAppend := by
  intro pins s σ H x vs v us Q I rx rv h
  obtain ⟨l, xs, y, rfl, rfl, hH, hz, q⟩ := h
  cases rx
  obtain ⟨u, rfl, ru⟩ := rv.one
  obtain ⟨z, its, n, r, hl, e⟩ := I.lstM hH
  refine call_meets F.slot_list_append ⟨_, e, rfl⟩ F.entry_list_append (F.args_list_append_2 _ _) (PySem.list_append l its.toArray n u (by rw [List.size_toArray]; omega)) ⟨e, ?_⟩
  refine ⟨.non, _, I.lset (its' := its ++ [u]) hH e (by simp) (r.append (.cons ru .nil)) ?_, rfl, q⟩
  rw [List.length_append, List.length_singleton]
  omega

def rExtend : V → List V → Hp → VK → Prop := fun x vs H Q => ∃ l b xs zs, x = .ref l ∧ vs = [.ref b] ∧ H l = some (.lst xs) ∧ H b = some (.lst zs) ∧ xs.length + zs.length ≤ sizeLine ∧ Q .non (upd H l (.lst (xs ++ zs)))
theorem mt_extend : MtM X "list.extend" rExtend := by
  intro pins s σ H x vs v us Q I rx rv h
  obtain ⟨l, b, xs, zs, rfl, rfl, hH, hB, hz, q⟩ := h
  cases rx
  obtain ⟨u, rfl, ru⟩ := rv.one
  cases ru
  obtain ⟨z, its, n, r, hl, e⟩ := I.lstM hH
  obtain ⟨z2, its2, n2, r2, hl2, e2⟩ := I.lstM hB
  have hsz : its.toArray.size + its2.toArray.size ≤ sizeLine := by rw [List.size_toArray, List.size_toArray]; omega
  have hlong : ¬ (!its.toArray.isEmpty && Builtin.List.listTooLong (its.toArray.size + its2.toArray.size)) = true := by
    rw [notLongL hsz, Bool.and_false]
    exact Bool.false_ne_true
  refine call_meets F.slot_list_extend ⟨_, e, rfl⟩ F.entry_list_extend (F.args_list_extend_2 _ _)
    (AutoSeq1.list_extend_list_list_0 l its.toArray n b its2.toArray n2 hlong (by rw [List.size_toArray]; omega) (by omega)) ⟨e, e2, ?_⟩
  refine ⟨.non, _, I.lset (its' := its ++ its2) hH e (by simp) (r.append r2) ?_, rfl, q⟩
  rw [List.length_append]
  omega

def rPop : V → List V → Hp → VK → Prop := fun x vs H Q => ∃ l xs y, x = .ref l ∧ vs = [] ∧ H l = some (.lst xs) ∧ xs[xs.length - 1]? = some y ∧ Q y (upd H l (.lst xs.dropLast))
def rPopAt : V → List V → Hp → VK → Prop := fun x vs H Q => ∃ l xs i k y, x = .ref l ∧ vs = [.int i] ∧ H l = some (.lst xs) ∧ -(2 ^ 63) ≤ i ∧ i < 2 ^ 63 ∧ seqIndex? i xs.length = some k ∧ xs[k]? = some y ∧ Q y (upd H l (.lst (xs.eraseIdx k)))
def rReverse : V → List V → Hp → VK → Prop := fun x vs H Q => ∃ l xs, x = .ref l ∧ vs = [] ∧ H l = some (.lst xs) ∧ Q .non (upd H l (.lst xs.reverse))
def rClear : V → List V → Hp → VK → Prop := fun x vs H Q => ∃ l xs, x = .ref l ∧ vs = [] ∧ H l = some (.lst xs) ∧ Q .non (upd H l (.lst []))
/-! ### list + list, list += list, list * int -/
def rCat : R2 := fun x y H Q => ∃ l b xs zs, x = .ref l ∧ y = .ref b ∧ H l = some (.lst xs) ∧ H b = some (.lst zs) ∧ xs.length + zs.length ≤ sizeLine ∧ ∀ p, H p = none → Q (.ref p) (upd H p (.lst (xs ++ zs)))
theorem op_cat : OpR X (binaryOp .Add) rCat := by
  intro pins s σ H x y v u Q I rx ry h
  obtain ⟨l, b, xs, zs, rfl, rfl, hH, hB, hz, q⟩ := h
  cases rx
  cases ry
  obtain ⟨z, its, n, r, hl, e⟩ := I.lstM hH
  obtain ⟨z2, its2, n2, r2, hl2, e2⟩ := I.lstM hB
  refine PySem.P.add_list e e2 ?_ (by rw [List.size_toArray, List.size_toArray]; omega)
  have ea : its.toArray ++ its2.toArray = (its ++ its2).toArray := by simp
  rw [ea]
  exact ⟨.ref _, _, I.lnew (t' := s.toks) (r.append r2) (by rw [List.length_append]; omega), rfl, q _ I.fresh⟩
/-- a list times an int (a negative one is nothing) -/
def rRep : R2 := fun x y H Q => ∃ l k xs, x = .ref l ∧ y = .int k ∧ H l = some (.lst xs) ∧ -(2 ^ 63) ≤ k ∧ k < 2 ^ 63 ∧ xs.length * k.toNat ≤ sizeLine ∧
  ∀ p, H p = none → Q (.ref p) (upd H p (.lst (List.replicate k.toNat xs).flatten))
theorem len_rep {α : Type} (xs : List α) (k : Nat) : (List.replicate k xs).flatten.length = k * xs.length := by
  induction k with
  | zero => simp
  | succ k ih => rw [List.replicate_succ, List.flatten_cons, List.length_append, ih, Nat.succ_mul, Nat.add_comm]
theorem op_rep : OpR X (binaryOp .Mult) rRep := by
  intro pins s σ H x y v u Q I rx ry h
  obtain ⟨l, k, xs, rfl, rfl, hH, h1, h2, hz, q⟩ := h
  cases rx
  obtain ⟨t, rfl⟩ := ry
  obtain ⟨z, its, n, r, hl, e⟩ := I.lstM hH
  have hlen : its.toArray.size * k.toNat ≤ sizeLine := by rw [List.size_toArray, ← hl]; exact hz
  have hcap : ¬ its.toArray.size * k.toNat > (2 ^ 63 - 1) / 8 := by
    have : (sizeLine : Nat) ≤ (2 ^ 63 - 1) / 8 := by decide
    omega
  have hfit : ¬ (!Builtin.List.listFitsIndex k) = true := by
    rw [fitsIndex_both h1 h2]
    exact Bool.false_ne_true
  have hlong : ¬ Builtin.List.listTooLong (its.toArray.size * k.toNat) = true := by
    rw [notLongL hlen]
    exact Bool.false_ne_true
  have hnew : List.foldl (fun x1 x2 => x1 ++ x2) #[] (List.replicate (if its.toArray.isEmpty = true then 0 else k.toNat) its.toArray) = (List.replicate k.toNat its).flatten.toArray := by
    have f0 : ∀ m : Nat, List.foldl (fun x1 x2 => x1 ++ x2) #[] (List.replicate m its.toArray) = (List.replicate m its).flatten.toArray := fun m => by
      have := foldl_rep its m []
      rw [List.nil_append] at this
      exact this
    rw [f0]
    cases its with
    | nil => simp
    | cons a r' => rw [if_neg (by simp)]
  refine wpAny_binaryOp_repeat_ref (T := "list") (U := "int") (by decide) ⟨_, e, rfl⟩ (fun s' => typeIs_int s' k t) noFill_list_mul F.fills_int_mul F.slot_int_rmul repeat_list F.slot_int_index.lookup
    (call_meets F.slot_int_rmul (typeIs_int s k t) F.entry_int_rmul (F.args_int_rmul_2 _ _) (int___rmul___int_list k t l its.toArray n)
      ⟨e, rfl, ⟨_, e, rfl⟩, call_meets F.slot_list_mul ⟨_, e, rfl⟩ F.entry_list_mul (F.args_list_mul_2 _ _) (AutoListH.list___mul___list_int_3 l its.toArray n k t hfit hcap hlong) ⟨e, ?_⟩⟩)
  rw [hnew]
  exact ⟨.ref _, _, I.lnew (t' := s.toks) (r.rep k.toNat) (by rw [len_rep, Nat.mul_comm]; exact hz), rfl, q _ I.fresh⟩

/-! ### del xs[i] -/
end

/-! ### xs[a:b] = ys -/
section
variable {prog : Program} {w : World} {A : Around} {E : Value → Shared → Prop} {s : Shared}
end

section
variable {X : Cx}
end
end L2

namespace Att
open PySem PySem.W PySem.Calls PyProof.Rows

/-! ### the script -/
theorem ints_of_wellAll {P : Params} {h : Heap} : ∀ (ns : List Int) (vs : List Value), WellAll P h vs (ns.map WData.int) → IntsAre vs ns := by
  intro ns
  induction ns with
  | nil =>
    intro vs w
    rw [List.map_nil] at w
    cases w
    exact .nil
  | cons n ns ih =>
    intro vs w
    rw [List.map_cons] at w
    cases w with
    | cons a b =>
      cases a
      exact .cons _ _ (ih _ b)

theorem script_of {l : OpenLaw} {n : Nat} (hn : l.most = some n) {P : Params} {h : Heap} {args : List WData} {vals : List Value}
    (hpre : l.row.toRowW.claim.pre args = true) (hwl : WellAll P h vals args) :
    ∃ a vs ns, vals = [Value.ref a] ∧ args = [WData.list (ns.map WData.int)] ∧ h.get? a = some { cls := .type "list", data := .seq vs.toArray } ∧ IntsAre vs ns ∧ ns.length ≤ n := by
  have hsh : WShape.hasAll [] args [.list .int] = true := (pre_splitW hpre).1
  have hc : l.pre.holds [] { args := args } = true := (pre_splitW hpre).2
  obtain ⟨d, r, rfl, h1, h2⟩ := hasAllW_cons hsh
  obtain rfl := hasAllW_nil h2
  obtain ⟨xs, rfl, h3⟩ := hasW_list h1
  obtain ⟨ns, rfl⟩ := items_int h3
  have hlen : ns.length ≤ n := by
    unfold OpenLaw.pre at hc
    have h4 : (WTm.not (.lt (.lit (.int (n : Int))) (.len (.arg 0)))).holds [] { args := [.list (ns.map .int)] } = true := by
      have h4 := (holds_andW hc).1
      rw [hn] at h4
      exact h4
    have h5 := condW_of h4 (w_not (w_lt w_lit (w_len_list (w_arg rfl))))
    rw [List.length_map] at h5
    refine Nat.le_of_not_lt fun q => ?_
    have q' : (n : Int) < ((ns.length : Nat) : Int) := by omega
    first
      | (rw [decide_eq_true q'] at h5; exact absurd h5 (by decide))
      | (simp at h5; omega)
  cases hwl with
  | cons w1 w2 =>
    cases w2
    cases w1 with
    | list ho hall => exact ⟨_, _, ns, rfl, rfl, ho, ints_of_wellAll ns _ hall, hlen⟩

theorem post_true (l : OpenLaw) (args : List WData) : l.row.toRowW.claim.post args (.bool true) args = true :=
  postW_of (r := l.row.toRowW) (X := (true == true))
    (show WShape.has [] (.bool true) .bool = true by first | rfl | decide | simp [WShape.has, WShape.arms, WShape.armsAll])
    (show (WTm.eq .res (.lit (.bool true))).value [] { args := args, res := some (.bool true), after := args } = some (.bool (true == true)) from w_eq_bool (w_res rfl) w_lit) rfl

/-! ### the attachment: holds_open's last premise (the goal 'hc' behind k_head) from a wpAny of the law's body -/
/-- the same from a codeAny of the CALL (for a layer whose function contracts speak of calls) -/
theorem attach_call {l : OpenLaw} {n : Nat} {q : Program} {loose : List Str} {XP : (Str → Option Value) → Heap → Prop} {YP : World → Heap → Prop} {d : DefRec}
    (hn : l.most = some n) (hdf : d.params.defaults = [])
    (call : ∀ (w : World) (s₀ s₁ : Shared) (mg mb : Str → Option Value) (fa : Addr) (o : Obj) (pm cd doc : Value) (a : Addr) (vs : List Value) (ns : List Int),
      Ground q loose [] XP w s₀ mg mb s₁.heap → YP w s₁.heap →
      s₁.heap.get? fa = some o → o.data = .func (docDef d.name d.params d.body d.scope pm cd doc) → s₁.heap.CodeRec cd d.name → mg d.name = some (.ref fa) →
      s₁.heap.get? a = some { cls := .type "list", data := .seq vs.toArray } → IntsAre vs ns → ns.length ≤ n → s₁.gens = #[] →
      codeAny (model l.prog w) callerA (.call (.ref fa) ⟨[.ref a], []⟩) (fun r s' => r = .ok (.ret (.bool true)) ∧ OldK s₁.heap s'.heap ∧ s'.os = s₁.os ∧ AllBare s'.gens) s₁) :
    WalkO q loose XP YP l.row.toRowW d [] (fun f vs => PySem.call f vs) := by
  intro w s₀ s₁ mg mb G Y fa o pm cd doc dV kV ho hd hcd hD hmg hg args vals as hpre hlay hrd hwl hlo
  obtain rfl : dV = .none := Dflts.none hD hdf
  obtain rfl : kV = .none := Dflts.noKw hD
  obtain ⟨a, vs, ns, rfl, rfl, hobj, hints, hlen⟩ := script_of hn hpre hwl
  refine enter_call (codeAny_mono (call w s₀ s₁ mg mb fa o pm cd doc a vs ns G Y ho (fd_plain hd) hcd hmg hobj hints hlen hg) fun r s' hq => ?_)
  obtain ⟨rfl, h2, h3, h4⟩ := hq
  exact ⟨.inl ⟨.bool true, .bool true, [], rfl, fun _ => rfl, .bool true, post_true l _, fun _ => ⟨List.Pairwise.nil, fun _ hm => (nomatch hm)⟩⟩, h2, h3, h4⟩

/-! ### rules over ANY heap (no ledger) from facts about the written part K: the library's own take a ledger (News) for what they write -/
section
variable {prog : Program} {w : World} {A : Around} {E : Value → Shared → Prop} {s : Shared} {K : Frag}

/-! the whole heap as the ledger: makes every rule that writes through a ledger a rule over any heap -/
def noObjs (h : Heap) : Heap := { h with objs := #[] }
def ledger (h : Heap) (L d : Addr) : List (Addr × Obj) := (List.range h.objs.size).filterMap fun a => if a = L ∨ a = d then none else (h.get? a).map fun o => (a, o)
end
end Att

namespace L2
open PySem PySem.Spec PyProof.Rows

theorem vals_ints : ∀ {vs : List Value} {ns : List Int}, IntsAre vs ns → Vals (ns.map V.int) vs
  | _, _, .nil => .nil
  | _, _, .cons n t h => .cons ⟨t, rfl⟩ (vals_ints h)

/-- nothing is tracked but the script, known to the object (or it is an object of the module) -/
def Only (H : Hp) : Prop := ∀ b, H b = none ∨ ∃ o xs, H b = some (.frz o (.lst xs))

/-- THE HEAD: the law's promise, at the heap behind the top. F, the promise of the law's def, may use that base is part of the heap (so K.In base, base.Ns mainGlobals mg stand in Mod) -/
theorem law_call {P : Program} {w : World} {K : PySem.W.Frag} {mg mb : Str → Option Value} {CX : CXT} {k : Nat} {fa a : Addr} {fd : FuncData} {x : Str} {sp : Sp} {s₁ : Shared} {vs : List Value} {ns : List Int}
    (KX : K.In s₁.heap) (hns : s₁.heap.Ns mainGlobals mg) (hb : s₁.heap.Ns builtinsNs mb) (hbb : ∀ x : Str, x ≠ "__name__" → mb x = bootBuiltins x) (hlim : s₁.heap.NoLimit) (hg : s₁.gens = #[])
    (ha : s₁.heap.get? a = some { cls := .type "list", data := .seq vs.toArray }) (hi : IntsAre vs ns) (hl : ns.length ≤ sizeLine) (hr : Room k callerA)
    (F : ∀ base : Heap, K.In base → base.Ns mainGlobals mg → FnOk P w K mg base CX k fa fd [x] sp) (hbind : ∀ (s : Shared) (u : Value), BindsTo s fd ⟨[u], []⟩ [(x, u)])
    (hsp : ∀ H : Hp, Only H → SqL K H a (ns.map V.int) → sp [.ref a] H (fun v _ => v = .bl true) fun _ _ _ => False)
    (hCX : ∀ H e s', CX [] H s₁ (fun _ _ _ => False) e s' → False) :
    codeAny (model P w) callerA (.call (.ref fa) ⟨[.ref a], []⟩) (fun r s' => r = .ok (.ret (.bool true)) ∧ OldK s₁.heap s'.heap ∧ s'.os = s₁.os ∧ AllBare s'.gens) s₁ := by
  have rv := vals_ints hi
  have lenV := hi.length
  -- from an abstract heap in which nothing but the script may be tracked
  have core : ∀ H : Hp, Only H → SqL K H a (ns.map V.int) → HOk P w H s₁.heap → (∀ b, H b ≠ none → b = a) → (H a ≠ none → K.lookup a = none) →
      codeAny (model P w) callerA (.call (.ref fa) ⟨[.ref a], []⟩) (fun r s' => r = .ok (.ret (.bool true)) ∧ OldK s₁.heap s'.heap ∧ s'.os = s₁.os ∧ AllBare s'.gens) s₁ := by
    intro H hO hS hok hA hK
    have base_of : ∀ {b : Addr} {o : Obj}, s₁.heap.get? b = some o → H b = none → (hidT s₁.heap H).get? b = some o := fun e n => hidT_get e n
    have noA : ∀ {b : Addr} {o : Obj} {es : Array DictEntry} {ep : Nat}, s₁.heap.get? b = some o → o.data = .dict es ep → H b = none := fun {b o es ep} e d => by
      cases q : H b with
      | none => rfl
      | some u =>
        have e' : b = a := hA b (by rw [q]; simp)
        subst e'
        rw [ha] at e; cases e
        have d' : Data.seq vs.toArray _ = Data.dict es ep := d
        cases d'
    have nsK : ∀ {b : Addr} {m : Str → Option Value}, s₁.heap.Ns b m → (hidT s₁.heap H).Ns b m := fun {b m} ⟨o, es, ep, e, d, r⟩ => ⟨o, es, ep, base_of e (noA e d), d, r⟩
    have hKb : K.In (hidT s₁.heap H) := fun b o e => base_of (KX b o e) (by
      cases q : H b with
      | none => rfl
      | some u =>
        have e' : b = a := hA b (by rw [q]; simp)
        subst e'
        rw [hK (by rw [q]; simp)] at e; cases e)
    have hM : Mod K mg (hidT s₁.heap H) := ⟨hKb, nsK hns, ⟨mb, nsK hb, hbb⟩, let ⟨mc, h1, h2⟩ := hlim; ⟨mc, nsK h1, h2⟩⟩
    have e0 : Env0 P w K mg (hidT s₁.heap H) callerA [] s₁ H := ⟨rfl, hM, fun b o e => of_hidT e, Nat.le_of_eq (hidT_size _ _), trivial, fun b hb => absurd (show b ∈ ([] : List Addr) from hb) (by simp), hok, .of_eq hg⟩
    refine codeAny_mono ((F _ hKb (nsK hns)).run callerA [] s₁ H ⟨[.ref a], []⟩ [.ref a] [.ref a] _ _ hr e0 (hbind s₁ (.ref a)) (.cons rfl .nil) (hsp H hO hS)) fun r s' h => ?_
    cases r with
    | error e => exact (hCX H e s' h).elim
    | ok fl =>
      cases fl with
      | next => exact False.elim h
      | brk => exact False.elim h
      | cont => exact False.elim h
      | ret u =>
        obtain ⟨v, H', os, bare, un, hok', r', q⟩ := h
        have q' : v = .bl true := q
        subst q'
        obtain rfl : u = Value.bool true := r'
        refine ⟨rfl, OldK.of_keep fun b o e => ?_, os, bare⟩
        cases q : H b with
        | none => exact un.keep b o e q (by intro z; exact absurd (show b ∈ ([] : List Addr) from z) (by simp)) (by simp)
        | some u =>
          rcases hO b with z | ⟨ob, xs, z⟩
          · rw [q] at z; cases z
          · have z2 := un.frzs b ob _ z
            obtain ⟨e1, _⟩ := hok b _ z
            obtain ⟨e2, _⟩ := hok' b _ z2
            rw [e] at e1; cases e1
            exact e2
  cases hk : K.lookup a with
  | some o =>
    -- the script is one of the module's own objects
    have e := KX a o hk
    rw [ha] at e
    cases e
    refine core (fun _ => none) (fun _ => .inl rfl) (.inr ⟨_, vs.toArray, _, hk, rfl, rfl, rfl, by rw [List.size_toArray, lenV]; exact hl, by simpa using rv⟩) (fun b u z => by have z' : (none : Option HO) = some u := z; cases z') (fun b z => absurd rfl z) fun z => absurd rfl z
  | none =>
    refine core (fun b => if b = a then some (.frz { cls := .type "list", data := .seq vs.toArray } (.lst (ns.map V.int))) else none) (fun b => ?_) (.inl (.inr ⟨{ cls := .type "list", data := .seq vs.toArray }, if_pos rfl⟩)) (fun b u z => ?_) (fun b z => ?_) fun _ => hk
    · by_cases hb : b = a
      · exact .inr ⟨_, _, if_pos hb⟩
      · exact .inl (if_neg hb)
    · by_cases hb : b = a
      · have z' := (if_pos hb).symm.trans z
        cases z'
        subst hb
        exact ⟨ha, by rw [List.length_map]; exact hl, vs, _, rv, ha⟩
      · have z' := (if_neg hb).symm.trans z
        cases z'
    · by_cases hb : b = a
      · exact hb
      · exact absurd (if_neg hb) z
end L2

namespace L2
open PySem PySem.Spec PyProof.Rows

abbrev KOf {K : PySem.W.Frag} {h : Heap} (_ : K.In h) : PySem.W.Frag := K

/-- the goal that k_head leaves (case hc), from the law's promise. F gives the function object fd (K's own) once, then the promise over every base -/
theorem walk_of {l : PySem.W.OpenLaw} {n k : Nat} {q : Program} {loose : List Str} {XP : (Str → Option Value) → Heap → Prop} {YP : World → Heap → Prop} {d : DefRec} {K : Params → PySem.W.Frag} {CX : World → CXT} {sp : World → Sp} {x : Str}
    (hn : l.most = some n) (hn2 : n ≤ sizeLine) (hdf : d.params.defaults = []) (hr : Room k callerA)
    (hY : ∀ (w : World) (h : Heap), YP w h → (K w.params).In h)
    (F : ∀ (w : World) (mg : Str → Option Value) (fa : Addr) (h : Heap), (K w.params).In h → h.Ns mainGlobals mg → mg d.name = some (.ref fa) →
      ∃ fd : FuncData, (∀ (s : Shared) (u : Value), BindsTo s fd ⟨[u], []⟩ [(x, u)]) ∧
        ∀ base : Heap, (K w.params).In base → base.Ns mainGlobals mg → FnOk l.prog w (K w.params) mg base (CX w) k fa fd [x] (sp w))
    (hsp : ∀ (w : World) (H : Hp) (a : Addr) (ns : List Int), ns.length ≤ n → Only H → SqL (K w.params) H a (ns.map V.int) → sp w [.ref a] H (fun v _ => v = .bl true) fun _ _ _ => False)
    (hCX : ∀ (w : World) (H : Hp) (s : Shared) (e : Value) (s' : Shared), CX w [] H s (fun _ _ _ => False) e s' → False) :
    PySem.W.WalkO q loose XP YP l.row.toRowW d [] (fun f vs => PySem.call f vs) := by
  refine Att.attach_call hn hdf fun w s₀ s₁ mg mb fa o pm cd doc a vs ns G Y ho hd hcd hmg hobj hints hlen hg => ?_
  have KX := hY w _ Y
  obtain ⟨fd, hb, hF⟩ := F w mg fa _ KX G.T.g hmg
  exact law_call KX G.T.g G.T.b G.T.builtins G.T.nolimit hg hobj hints (Nat.le_trans hlen hn2) hr hF hb (fun H hO hS => hsp w H a ns hlen hO hS) fun H e s' => hCX w H s₁ e s'
end L2

/- THE LAST THEOREM (shape; LID, My.* are yours):
   My.Adr: a structure of the addresses that your layer names (classes, functions); My.Txt K t: a structure (Prop) of the equations over K;
   My.txt_mk : {K} {implicit addresses ..} (e1 : nsIn K mainGlobals "law" = some (some (.ref f))) (e2 : K.lookup f = some ⟨oc, od, .func (fnOf "law" "law" params body scope dV kV doc pm an cdv ct), sl⟩) (e3 : codeIn K cdv "law" = true) .. : ∃ t, My.Txt K t

set_option maxRecDepth 100000 in
set_option maxHeartbeats 0 in
theorem PySem.Challenge.cw_LID_holds : PySem.Challenge.rw_LID.Holds := by
  w_on; o_law; k_head; (case hw => w_witness2)
  k_fill
  refine L2.walk_of (l := PySem.Challenge.rw_LID) (n := 63) (k := 40) (x := "script") (CX := fun w => ..) (sp := fun _ => My.sp_law) rfl (by decide) rfl ⟨rfl, by decide, by decide⟩ (fun w h Y => PySem.W.kIn_of Y) ?F ?S ?C
  case F =>
    intro w mg fa h KX G hmg
    have T : ∃ t, My.Txt (L2.KOf KX) t := by
      dsimp only [L2.KOf]                          -- K must stand as «<heap const> w.params» for k_is
      refine' My.txt_mk ?e1 ?e2 ?e3 ..
      (case e1 => PySem.W.k_is)                    -- in the order: a name -> its address -> its object -> its parts
      (case e2 => PySem.W.k_is)
      ..
    obtain ⟨t, T⟩ := T
    have e0 := hmg.symm.trans (PySem.W.mg_of KX G T.law)
    cases e0                                       -- fa is the law's own address
    exact ⟨_, fun s u => .of_eq rfl, fun base kb nb => My.law_fn T kb nb⟩     -- if «.of_eq rfl» comes too early: refine' ⟨_, ?b, fun base kb nb => My.law_fn T kb nb⟩; exact fun s u => .of_eq rfl
  case S => exact fun w H a ns hl hO hS => ..
  case C => exact ..
(the tactic k_is has no namespace: write k_is) -/

/-! SHORT WORDS over the layer: a def of the text, its body, what a loop and a test want. -/
namespace L2
open PySem PySem.Spec PyProof.Rows

/-! ### the text by places -/
/-- the j-th statement of a class's body -/
def inClass (s : Stmt) (j : Nat) : Stmt := match s with
  | .ClassDef _ _ _ body _ _ _ _ _ _ _ => body.getD j (.Pass ⟨0, 0, 0, 0⟩)
  | _ => .Pass ⟨0, 0, 0, 0⟩
def defArgs (s : Stmt) : Arguments := match s with
  | .FunctionDef _ a _ _ _ _ _ _ _ _ => a
  | _ => { posonlyargs := [], args := [], vararg := none, kwonlyargs := [], kw_defaults := [], kwarg := none, defaults := [] }
def defBody (s : Stmt) : List Stmt := match s with
  | .FunctionDef _ _ b _ _ _ _ _ _ _ => b
  | _ => []
def defScope (s : Stmt) : Scope := match s with
  | .FunctionDef _ _ _ _ _ _ sc _ _ _ => sc
  | _ => { kind := .function, names := [], isGenerator := false, isCoroutine := false }

/-! ### no exception leaves a def -/
abbrev CX0 : CXT := fun _ _ _ _ _ _ => False
abbrev E0 : XK := fun _ _ _ => False
theorem pass0 {X : Cx} : Passes CX0 X E0 := fun _ _ _ _ _ _ _ h => h.elim

/-! ### a def (or method) of the text as it stands behind the top -/
structure Fun (K : PySem.W.Frag) (x qual : Str) (st : Stmt) (f : Addr) (fd : FuncData) : Prop where
  ex : ∃ (oc : Value) (od : Option Addr) (kV doc pm : Value) (an : Option Addr) (cdv ct : Value) (osl : Array (Option Value)),
    fd = PySem.W.fnOf x qual (defArgs st) (defBody st) (defScope st) .none kV doc pm an cdv ct ∧ K.lookup f = some ⟨oc, od, .func fd, osl⟩ ∧ PySem.W.codeIn K cdv qual = true
  kp : PySem.W.keepIn K (.ref f) = true
section
variable {P : Program} {w : World} {K : PySem.W.Frag} {mg : Str → Option Value} {base : Heap}
/-- THE RULE for a def: its body as a term of rules, and the reading of that term -/
theorem Fun.ok {x qual : Str} {st : Stmt} {f : Addr} {fd : FuncData} {N ps : List Str} {k : Nat} {sp : Sp} (F : Fun K x qual st f fd) (S : FnScope N ps (defScope st)) (len : ∀ vs H Q E, sp vs H Q E → vs.length = ps.length)
    (hbody : ∀ (cdv : Value) (A : Around) (outer : List Env) (s : Shared) (H : Hp) (vs : List V) (Q : VK) (E : XK), Room k (A.deeper (envOfC qual (defScope st) s.heap.objs.size f cdv)) → sp vs H Q E →
      ∃ t, PSs (cxOf CX0 P w K mg base N qual (defScope st) f cdv A outer s H E).nox (defBody st) t ∧ t { nx := fun _ H' => Q .non H', rt := Q } (start N vs) H) : FnOk P w K mg base CX0 (k + 1) f fd ps sp := by
  obtain ⟨oc, od, kV, doc, pm, an, cdv, ct, osl, rfl, lk, hcd⟩ := F.ex
  refine fn_of lk hcd S len fun A outer s H vs Q E hr hsp => ?_
  obtain ⟨t, h, q⟩ := hbody cdv A outer s H vs Q E hr hsp
  exact ⟨t, h.nox, q⟩
/-- how its arguments bind (no defaults): h is «fun _ _ _ _ _ _ us hl => match us, hl with | [_, _], _ => rfl», one _ a parameter -/
theorem Fun.binds {x qual : Str} {st : Stmt} {f : Addr} {fd : FuncData} {ps : List Str} (F : Fun K x qual st f fd)
    (h : ∀ (kV doc pm : Value) (an : Option Addr) (cdv ct : Value) (us : List Value), us.length = ps.length → bindArgs (PySem.W.fnOf x qual (defArgs st) (defBody st) (defScope st) .none kV doc pm an cdv ct) ⟨us, []⟩ = pure (ps.zip us)) : Binds K fd ps [] := by
  obtain ⟨oc, od, kV, doc, pm, an, cdv, ct, osl, rfl, lk, hcd⟩ := F.ex
  exact .all (h kV doc pm an cdv ct)
theorem fun_mk {x qual : Str} {st : Stmt} {f : Addr} {oc : Value} {od an : Option Addr} {osl : Array (Option Value)} {kV doc pm cdv ct : Value} (l : K.lookup f = some ⟨oc, od, .func (PySem.W.fnOf x qual (defArgs st) (defBody st) (defScope st) .none kV doc pm an cdv ct), osl⟩)
    (c : PySem.W.codeIn K cdv qual = true) (k : PySem.W.keepIn K (.ref f) = true) : Fun K x qual st f (PySem.W.fnOf x qual (defArgs st) (defBody st) (defScope st) .none kV doc pm an cdv ct) := ⟨⟨oc, od, kV, doc, pm, an, cdv, ct, osl, rfl, l, c⟩, k⟩
end
/-! ### expressions in short: the name that stands in the i-th slot -/
section
variable {X : Cx}
theorem pv (i : Nat) {x : Str} {pos : Pos} (hN : X.N[i]? = some x := by rfl) (hv : Vis X.env.scope x := by first | exact Or.inl rfl | exact Or.inr (Or.inl rfl) | exact Or.inr (Or.inr rfl)) (hd : (x == ("__debug__" : Str)) = false := by decide)
    (hcd : (x == ("__classdict__" : Str)) = false := by decide) : PE X (.Name x pos) (tVar i) := pe_var hN hv hd hcd
end

/-! ### tests -/
theorem iteF {A B : Prop} (h : B) : if false = true then A else B := by
  rw [if_neg Bool.false_ne_true]
  exact h
theorem iteT {A B : Prop} (h : A) : if true = true then A else B := by
  rw [if_pos rfl]
  exact h
/-! ### heaps -/
/-- all that was tracked is as it was -/
def Same (H H' : Hp) : Prop := ∀ b o, H b = some o → H' b = some o
theorem Same.refl (H : Hp) : Same H H := fun _ _ h => h
theorem Same.trans {H H1 H2 : Hp} (a : Same H H1) (b : Same H1 H2) : Same H H2 := fun c o h => b c o (a c o h)
theorem Same.free {H H' : Hp} (e : Same H H') {l : Addr} (h : H' l = Option.none) : H l = Option.none := by
  cases q : H l with
  | none => rfl
  | some o =>
    rw [e l o q] at h
    cases h
theorem Same.seq {K : PySem.W.Frag} {H H' : Hp} {a : Addr} {xs : List V} (e : Same H H') (h : SqL K H a xs) : SqL K H' a xs := by
  rcases h with (h | ⟨o, h⟩) | h
  · exact .inl (.inl (e _ _ h))
  · exact .inl (.inr ⟨o, e _ _ h⟩)
  · exact .inr h

end L2

set_option Elab.async false
set_option linter.all false
set_option maxRecDepth 100000
namespace L2
open PySem PySem.Spec PyProof.Rows

/-! ### what a value stands for, read off the abstract heap; equality at any depth -/
def PdAt (K : PySem.W.Frag) (H : Hp) : Nat → PyData → V → Prop
  | 0, d, v => match d with
    | .none => v = .non
    | .bool b => v = .bl b
    | .int i => v = .int i
    | .str x => v = .str x ∧ PyData.strOk x = true
    | _ => False
  | n + 1, d, v => match d with
    | .none => v = .non
    | .bool b => v = .bl b
    | .int i => v = .int i
    | .str x => v = .str x ∧ PyData.strOk x = true
    | .list ds => ∃ a xs, v = .ref a ∧ SqL K H a xs ∧ Paired (PdAt K H n) ds xs
    | .tuple ds => ∃ a xs, v = .ref a ∧ SqT K H a xs ∧ Paired (PdAt K H n) ds xs
    | .dict _ => False
section
variable {X : Cx} {pins : List (Addr × Obj)} {σ : St} {H : Hp} {s : Shared}
theorem pd_reads (I : Inv X pins σ H s) : ∀ (n : Nat) (d : PyData) (v : V) (u : Value), PdAt X.K H n d v → RelV v u → ∃ as, Reads s.heap u d as := by
  intro n
  induction n with
  | zero =>
    intro d v u h r
    cases d with
    | none => cases (show v = .non from h); cases (show u = Value.none from r); exact ⟨_, Reads.none⟩
    | bool b => cases (show v = .bl b from h); cases (show u = Value.bool b from r); exact ⟨_, Reads.bool b⟩
    | int i => cases (show v = .int i from h); obtain ⟨t, rfl⟩ := (show ∃ t, u = Value.int i t from r); exact ⟨_, Reads.int i t⟩
    | str x => cases (show v = .str x ∧ _ from h).1; obtain ⟨t, rfl⟩ := (show ∃ t, u = Value.str x t from r); exact ⟨_, Reads.str x t⟩
    | list _ => exact (show False from h).elim
    | tuple _ => exact (show False from h).elim
    | dict _ => exact (show False from h).elim
  | succ n ih =>
    have all : ∀ (ds : List PyData) (xs : List V) (us : List Value), Paired (PdAt X.K H n) ds xs → Vals xs us → ∃ as, ReadsAll s.heap us ds as := by
      intro ds xs us p
      induction p generalizing us with
      | nil => intro r; cases r; exact ⟨_, ReadsAll.nil⟩
      | cons q _ hi =>
        intro r
        cases r with
        | cons r1 rr =>
          obtain ⟨as, h1⟩ := ih _ _ _ q r1
          obtain ⟨bs, h2⟩ := hi _ rr
          exact ⟨_, ReadsAll.cons h1 h2⟩
    intro d v u h r
    cases d with
    | none => cases (show v = .non from h); cases (show u = Value.none from r); exact ⟨_, Reads.none⟩
    | bool b => cases (show v = .bl b from h); cases (show u = Value.bool b from r); exact ⟨_, Reads.bool b⟩
    | int i => cases (show v = .int i from h); obtain ⟨t, rfl⟩ := (show ∃ t, u = Value.int i t from r); exact ⟨_, Reads.int i t⟩
    | str x => cases (show v = .str x ∧ _ from h).1; obtain ⟨t, rfl⟩ := (show ∃ t, u = Value.str x t from r); exact ⟨_, Reads.str x t⟩
    | list ds =>
      obtain ⟨a, xs, rfl, hq, hp⟩ := (show ∃ a xs, v = .ref a ∧ SqL X.K H a xs ∧ Paired (PdAt X.K H n) ds xs from h)
      cases (show u = Value.ref a from r)
      obtain ⟨its, rv, pl, hz⟩ := I.list hq
      obtain ⟨as, ra⟩ := all _ _ _ hp rv
      obtain ⟨o, ho, hc, k, hd⟩ := pl.isList
      exact ⟨_, reads_list_at ho hc hd (by simpa using ra)⟩
    | tuple ds =>
      obtain ⟨a, xs, rfl, hq, hp⟩ := (show ∃ a xs, v = .ref a ∧ SqT X.K H a xs ∧ Paired (PdAt X.K H n) ds xs from h)
      cases (show u = Value.ref a from r)
      obtain ⟨its, rv, pl, hz⟩ := I.tuple hq
      obtain ⟨as, ra⟩ := all _ _ _ hp rv
      obtain ⟨o, ho, hc, k, hd⟩ := (show s.heap.IsTuple a its.toArray from pl)
      exact ⟨_, reads_tuple_at ho hc hd (by simpa using ra)⟩
    | dict _ => exact (show False from h).elim
end
theorem pd_shape {K : PySem.W.Frag} {H : Hp} : ∀ (n : Nat) (d : PyData) (v : V), PdAt K H n d v → d.canLay0 = true ∧ d.depth ≤ n := by
  intro n
  induction n with
  | zero =>
    intro d v h
    cases d with
    | str x => simp [PyData.canLay0, PyData.depth, (show v = .str x ∧ PyData.strOk x = true from h).2]
    | list _ => exact (show False from h).elim
    | tuple _ => exact (show False from h).elim
    | dict _ => exact (show False from h).elim
    | _ => simp [PyData.canLay0, PyData.depth]
  | succ n ih =>
    have all : ∀ (ds : List PyData) (xs : List V), Paired (PdAt K H n) ds xs → PyData.canLayAll0 ds = true ∧ PyData.depthAll ds ≤ n := by
      intro ds xs p
      induction p with
      | nil => simp [PyData.canLayAll0, PyData.depthAll]
      | cons q _ hi =>
        have h1 := ih _ _ q
        simp only [PyData.canLayAll0, PyData.depthAll, h1.1, hi.1, Bool.and_self, true_and]
        have a1 := h1.2
        have a2 := hi.2
        omega
    intro d v h
    cases d with
    | str x => simp [PyData.canLay0, PyData.depth, (show v = .str x ∧ PyData.strOk x = true from h).2]
    | list ds =>
      obtain ⟨a, xs, rfl, hq, hp⟩ := (show ∃ a xs, v = .ref a ∧ SqL K H a xs ∧ Paired (PdAt K H n) ds xs from h)
      have q := all _ _ hp
      have q2 := q.2
      simp only [PyData.canLay0, PyData.depth, q.1, true_and]
      omega
    | tuple ds =>
      obtain ⟨a, xs, rfl, hq, hp⟩ := (show ∃ a xs, v = .ref a ∧ SqT K H a xs ∧ Paired (PdAt K H n) ds xs from h)
      have q := all _ _ hp
      have q2 := q.2
      simp only [PyData.canLay0, PyData.depth, q.1, true_and]
      omega
    | dict _ => exact (show False from h).elim
    | _ => simp [PyData.canLay0, PyData.depth]
def rEqP (K : PySem.W.Frag) : R2 := fun x y H Q => ∃ d e, PdAt K H 9 d x ∧ PdAt K H 9 e y ∧ Q (.bl (PyData.eqv d e)) H
def rNeP (K : PySem.W.Frag) : R2 := fun x y H Q => ∃ d e, PdAt K H 9 d x ∧ PdAt K H 9 e y ∧ Q (.bl (!PyData.eqv d e)) H
section
variable {X : Cx}
theorem pd_shaped {K : PySem.W.Frag} {H : Hp} {d : PyData} {v : V} (h : PdAt K H 9 d v) : SeqAt.shaped d = true := by
  have q := pd_shape 9 d v h
  unfold SeqAt.shaped
  rw [q.1, Bool.true_and]
  exact decide_eq_true (Nat.le_trans q.2 (by decide))
theorem op_eqP (hu : X.A.units + 64 < cLine) : OpR X (compareOp .Eq) (rEqP X.K) := by
  intro pins s σ H x y v u Q I rx ry h
  obtain ⟨d, e, hd, he, q⟩ := h
  obtain ⟨as, ra⟩ := pd_reads I 9 d x v hd rx
  obtain ⟨bs, rb⟩ := pd_reads I 9 e y u he ry
  exact eq_dataH ra rb (pd_shaped hd) (pd_shaped he) hu ⟨.bl _, H, I, rfl, q⟩
theorem op_neP (hu : X.A.units + 64 < cLine) : OpR X (compareOp .NotEq) (rNeP X.K) := by
  intro pins s σ H x y v u Q I rx ry h
  obtain ⟨d, e, hd, he, q⟩ := h
  obtain ⟨as, ra⟩ := pd_reads I 9 d x v hd rx
  obtain ⟨bs, rb⟩ := pd_reads I 9 e y u he ry
  exact ne_dataH ra rb (pd_shaped hd) (pd_shaped he) hu ⟨.bl _, H, I, rfl, q⟩
end
abbrev iL (ns : List Int) : List V := ns.map V.int
abbrev pL (ns : List Int) : PyData := .list (ns.map PyData.int)
theorem eqvAll_ints : ∀ (xs ys : List Int), PyData.eqvAll (xs.map PyData.int) (ys.map PyData.int) = decide (xs = ys)
  | [], [] => by simp [PyData.eqvAll]
  | [], y :: ys => by simp [PyData.eqvAll]
  | x :: xs, [] => by simp [PyData.eqvAll]
  | x :: xs, y :: ys => by
    simp only [List.map_cons, PyData.eqvAll, PyData.eqv, eqvAll_ints xs ys, List.cons.injEq]
    by_cases h1 : x = y <;> by_cases h2 : xs = ys <;> simp [h1, h2]
theorem eqv_pints (xs ys : List Int) : PyData.eqv (pL xs) (pL ys) = decide (xs = ys) := by
  show PyData.eqvAll _ _ = _
  exact eqvAll_ints xs ys
theorem paired_ints {K : PySem.W.Frag} {H : Hp} {n : Nat} : ∀ ns : List Int, Paired (PdAt K H n) (ns.map PyData.int) (iL ns)
  | [] => .nil
  | i :: ns => .cons (by cases n <;> exact (rfl : V.int i = V.int i)) (paired_ints ns)
theorem pd_ints {K : PySem.W.Frag} {H : Hp} {n : Nat} {a : Addr} {ns : List Int} (h : SqL K H a (iL ns)) : PdAt K H (n + 1) (pL ns) (.ref a) := ⟨a, iL ns, rfl, h, paired_ints ns⟩
theorem pd_int {K : PySem.W.Frag} {H : Hp} {n : Nat} {i : Int} : PdAt K H n (.int i) (.int i) := by cases n <;> exact (rfl : V.int i = V.int i)
theorem pd_bl {K : PySem.W.Frag} {H : Hp} {n : Nat} {b : Bool} : PdAt K H n (.bool b) (.bl b) := by cases n <;> exact (rfl : V.bl b = V.bl b)
/-! ### intro rules -/
section
variable {K : PySem.W.Frag} {σ : St} {H : Hp} {Q : VK}
theorem i_var {i : Nat} {v : V} (h : σ[i]? = some (some v)) (q : Q v H) : tVar i σ H Q := ⟨v, h, q⟩
theorem i_I0 {g : Int → Int → V} {i j : Int} (q : Q (g i j) H) : rI0 g (.int i) (.int j) H Q := ⟨i, j, rfl, rfl, q⟩
theorem i_U {g : Int → V} {i : Int} (q : Q (g i) H) : rU g (.int i) H Q := ⟨i, rfl, q⟩
theorem beq_dec (i j : Int) : (i == j) = decide (i = j) := by
  by_cases h : i = j <;> simp [h]
theorem i_eqI {i j : Int} (q : Q (.bl (decide (i = j))) H) : rEqP K (.int i) (.int j) H Q := ⟨_, _, pd_int, pd_int, by rw [← beq_dec] at q; simpa [PyData.eqv] using q⟩
theorem i_neI {i j : Int} (q : Q (.bl (!decide (i = j))) H) : rNeP K (.int i) (.int j) H Q := ⟨_, _, pd_int, pd_int, by rw [← beq_dec] at q; simpa [PyData.eqv] using q⟩
theorem i_eqB {i j : Bool} (q : Q (.bl (decide (i = j))) H) : rEqP K (.bl i) (.bl j) H Q := ⟨_, _, pd_bl, pd_bl, by
  have e : (decide (i = j)) = (i == j) := by cases i <;> cases j <;> rfl
  rw [e] at q; simpa [PyData.eqv] using q⟩
theorem i_neB {i j : Bool} (q : Q (.bl (!decide (i = j))) H) : rNeP K (.bl i) (.bl j) H Q := ⟨_, _, pd_bl, pd_bl, by
  have e : (decide (i = j)) = (i == j) := by cases i <;> cases j <;> rfl
  rw [e] at q; simpa [PyData.eqv] using q⟩
theorem i_eqL {a b : Addr} {xs ys : List Int} (ha : SqL K H a (iL xs)) (hb : SqL K H b (iL ys)) (q : Q (.bl (decide (xs = ys))) H) : rEqP K (.ref a) (.ref b) H Q := ⟨_, _, pd_ints ha, pd_ints hb, by rw [eqv_pints]; exact q⟩
theorem i_neL {a b : Addr} {xs ys : List Int} (ha : SqL K H a (iL xs)) (hb : SqL K H b (iL ys)) (q : Q (.bl (!decide (xs = ys))) H) : rNeP K (.ref a) (.ref b) H Q := ⟨_, _, pd_ints ha, pd_ints hb, by rw [eqv_pints]; exact q⟩
end

/-! ### + and * of more kinds, an item -/
def rAddP : R2 := fun x y H Q => rI0 (fun i j => .int (i + j)) x y H Q ∨ rCat x y H Q
def rIxP (K : PySem.W.Frag) : R2 := fun x y H Q => rIxL K x y H Q ∨ rIxT K x y H Q
def rMulP : R2 := fun x y H Q => rI CMul (fun i j => .int (i * j)) x y H Q ∨ rRep x y H Q
section
variable {X : Cx}
theorem op_addP : OpR X (binaryOp .Add) rAddP := op_add.or op_cat
theorem op_mulP : OpR X (binaryOp .Mult) rMulP := op_mul.or op_rep
theorem ix_P : IxR X (rIxP X.K) := ix_list.or ix_tup
end
section
variable {K : PySem.W.Frag} {σ : St} {H : Hp} {Q : VK}
theorem i_addI {i j : Int} (q : Q (.int (i + j)) H) : rAddP (.int i) (.int j) H Q := .inl ⟨i, j, rfl, rfl, q⟩
theorem i_addL {a b : Addr} {xs ys : List V} (ha : H a = some (.lst xs)) (hb : H b = some (.lst ys)) (hl : xs.length + ys.length ≤ sizeLine) (q : ∀ p, H p = none → Q (.ref p) (upd H p (.lst (xs ++ ys)))) : rAddP (.ref a) (.ref b) H Q := .inr ⟨a, b, xs, ys, rfl, rfl, ha, hb, hl, q⟩
theorem i_mulI {i j : Int} (c : CMul i j) (q : Q (.int (i * j)) H) : rMulP (.int i) (.int j) H Q := .inl ⟨i, j, rfl, rfl, c, q⟩
theorem atI_ints {ns : List Int} {i : Int} (h0 : 0 ≤ i) (h1 : i < ns.length) : ∃ v, atI (iL ns) i = some (.int v) ∧ ns[i.toNat]? = some v ∧ v ∈ ns := by
  have hl : i.toNat < ns.length := by omega
  refine ⟨ns[i.toNat], ?_, by simp [hl], List.getElem_mem hl⟩
  have := atI_nat (xs := iL ns) (j := i.toNat) (v := .int ns[i.toNat]) (by simp [iL, hl])
  rwa [Int.toNat_of_nonneg h0] at this
/-- an item of a list of iL, in bounds -/
theorem i_ixL {p : Addr} {ns : List Int} {i : Int} (h : SqL K H p (iL ns)) (h0 : 0 ≤ i) (h1 : i < ns.length) (q : ∀ v, ns[i.toNat]? = some v → v ∈ ns → Q (.int v) H) : rIxP K (.ref p) (.int i) H Q := by
  obtain ⟨v, e1, e2, e3⟩ := atI_ints h0 h1
  exact .inl ⟨p, _, i, _, rfl, rfl, h, e1, q v e2 e3⟩
/-- an item of any list, at a place from the front -/
theorem i_ixN {p : Addr} {xs : List V} {i : Int} {v : V} (h : SqL K H p xs) (h0 : 0 ≤ i) (e : xs[i.toNat]? = some v) (q : Q v H) : rIxP K (.ref p) (.int i) H Q := by
  have := atI_nat (xs := xs) (j := i.toNat) (v := v) e
  rw [Int.toNat_of_nonneg h0] at this
  exact .inl ⟨p, _, i, _, rfl, rfl, h, this, q⟩
theorem i_ixT {p : Addr} {xs : List V} {i : Int} {v : V} (h : SqT K H p xs) (h0 : 0 ≤ i) (e : xs[i.toNat]? = some v) (q : Q v H) : rIxP K (.ref p) (.int i) H Q := by
  have := atI_nat (xs := xs) (j := i.toNat) (v := v) e
  rw [Int.toNat_of_nonneg h0] at this
  exact .inr ⟨p, _, i, _, rfl, rfl, h, this, q⟩
theorem i_ixLast {p : Addr} {xs : List V} {v : V} (h : SqL K H p (xs ++ [v])) (q : Q v H) : rIxP K (.ref p) (.int (-1)) H Q := .inl ⟨p, _, _, _, rfl, rfl, h, atI_last xs v, q⟩
end

/-! ### calls of the text's own defs -/
def Callee (P : Program) (w : World) (K : PySem.W.Frag) (mg : Str → Option Value) (base : Heap) (x : Str) (k : Nat) (sp : Sp) : Prop :=
  ∃ f fd ps, FnOk P w K mg base CX0 k f fd ps sp ∧ mg x = some (.ref f) ∧ PySem.W.keepIn K (.ref f) = true ∧ Binds K fd ps []
def Def (K : PySem.W.Frag) (mg : Str → Option Value) (x : Str) (st : Stmt) : Prop := ∃ f fd, Fun K x x st f fd ∧ mg x = some (.ref f)
section
variable {X : Cx} {x : Str} {k : Nat} {sp : Sp} {e : Expr} {es : List Expr} {t : TA} {p pos : Pos}
theorem pe_callN (C : Callee X.prog X.w X.K X.mg X.base x k sp) (hr : Room k X.A) (hg : Gl X x) (ha : PA X (e :: es) t)
    (he : starEach (e :: es) X.env = (false, eval e X.env) :: starEach es X.env := by rfl) (hpl : (backTo pos (starEach es X.env)).any (·.1) = false := by rfl)
    (hdb : (x == ("__debug__" : Str)) = false := by decide) : PE X (.Call (.Name x p) (e :: es) [] pos) (tCall sp [] E0 t) := by
  obtain ⟨f, fd, ps, F, hm, hk, hb⟩ := C
  exact pe_call F hr hg hm hk hb .nil pass0 ha (hdb := hdb) (he := he) (hpl := hpl)
def rTru (K : PySem.W.Frag) (x : V) (H : Hp) (Q : Bool → Hp → Prop) : Prop := ∃ k, TruV K x H k ∧ Q k H
def tTru (K : PySem.W.Frag) (ta : TE) : TT := fun σ H Q => ta σ H fun x H' => rTru K x H' Q
theorem pt_truthN {a : Expr} {ta : TE} (ha : PE X a ta) (he : ∀ whole, isTrue a X.env whole = (do let v ← whole; standAt a.pos; holding [v] (truthy v))) :
    PT X a (tTru X.K ta) := pt_truth ha he
end
theorem Def.ok {P : Program} {w : World} {K : PySem.W.Frag} {mg : Str → Option Value} {base : Heap} {x : Str} {st : Stmt} {N ps : List Str} {k : Nat} {sp : Sp} (D : Def K mg x st) (S : FnScope N ps (defScope st))
    (bd : ∀ (kV doc pm : Value) (an : Option Addr) (cdv ct : Value) (us : List Value), us.length = ps.length → bindArgs (PySem.W.fnOf x x (defArgs st) (defBody st) (defScope st) .none kV doc pm an cdv ct) ⟨us, []⟩ = pure (ps.zip us))
    (len : ∀ vs H Q E, sp vs H Q E → vs.length = ps.length)
    (hbody : ∀ (f : Addr) (cdv : Value) (A : Around) (outer : List Env) (s : Shared) (H : Hp) (vs : List V) (Q : VK) (E : XK), Room k (A.deeper (envOfC x (defScope st) s.heap.objs.size f cdv)) → sp vs H Q E →
      ∃ t, PSs (cxOf CX0 P w K mg base N x (defScope st) f cdv A outer s H E).nox (defBody st) t ∧ t { nx := fun _ H' => Q .non H', rt := Q } (start N vs) H) : Callee P w K mg base x (k + 1) sp := by
  obtain ⟨f, fd, F, hm⟩ := D
  exact ⟨f, fd, ps, F.ok S len fun cdv A outer s H vs Q E hr h => hbody f cdv A outer s H vs Q E hr h, hm, F.kp, F.binds bd⟩

/-! ### built-ins -/
def rLen (K : PySem.W.Frag) : List V → Hp → VK → Prop := fun xs H Q => ∃ x n, xs = [x] ∧ LenV K x H n ∧ Q (.int n) H
def rIsi (K : PySem.W.Frag) : List V → Hp → VK → Prop := fun xs H Q => ∃ x t n b, xs = [x, .ty n] ∧ TyOf K H x t ∧ PySem.W.kitOne K t (.type n) = some b ∧ Q (.bl b) H
def rIntOf : List V → Hp → VK → Prop := fun xs H Q => (∃ i, xs = [.int i] ∧ Q (.int i) H) ∨ ∃ k, xs = [.bl k] ∧ Q (.int (if k then 1 else 0)) H
def rAbs : List V → Hp → VK → Prop := fun xs H Q => ∃ i, xs = [.int i] ∧ Q (.int (if i < 0 then -i else i)) H
def rListOf (K : PySem.W.Frag) : List V → Hp → VK → Prop := fun xs H Q => ∃ p ys, xs = [.ref p] ∧ (SqL K H p ys ∨ SqT K H p ys) ∧ ∀ l, H l = none → Q (.ref l) (upd H l (.lst ys))
section
variable {X : Cx}
theorem call_lenN : CallR X (.builtin "len") (rLen X.K) := call_len
theorem call_intN : CallR X (.type "int") rIntOf := call_int1
theorem call_listN : CallR X (.type "list") (rListOf X.K) := call_list_of
theorem call_isinstanceN : CallR X (.builtin "isinstance") (rIsi X.K) := by
  intro pins s σ H xs us Q I r h
  obtain ⟨x, t, n, b, rfl, ty, e, q⟩ := h
  obtain ⟨u, c, rfl, rx, rc⟩ := vals2 r
  cases (show c = Value.type n from rc)
  exact isinst_ok I rx ty e fun tk => ⟨.bl b, H, I.tok tk, rfl, q⟩
end
section
variable {K : PySem.W.Frag} {σ : St} {H : Hp} {Q : VK}
theorem i_lenI {p : Addr} {ns : List Int} (h : SqL K H p (iL ns)) (q : Q (.int ns.length) H) : rLen K [.ref p] H Q := ⟨_, _, rfl, .inl ⟨_, h, rfl⟩, by simpa [iL] using q⟩
theorem i_intB {k : Bool} (q : Q (.int (if k then 1 else 0)) H) : rIntOf [.bl k] H Q := .inr ⟨k, rfl, q⟩
theorem i_abs {i : Int} (q : Q (.int (if i < 0 then -i else i)) H) : rAbs [.int i] H Q := ⟨i, rfl, q⟩
theorem i_listL {p : Addr} {ys : List V} (h : SqL K H p ys) (q : ∀ l, H l = none → Q (.ref l) (upd H l (.lst ys))) : rListOf K [.ref p] H Q := ⟨p, ys, rfl, .inl h, q⟩
theorem isi_ii : PySem.W.kitOne K (.type "int") (.type "int") = some true := by kernel_rfl
theorem isi_ib : PySem.W.kitOne K (.type "int") (.type "bool") = some false := by kernel_rfl
theorem isi_ll : PySem.W.kitOne K (.type "list") (.type "list") = some true := by kernel_rfl
theorem isi_il : PySem.W.kitOne K (.type "int") (.type "list") = some false := by kernel_rfl
theorem isi_id : PySem.W.kitOne K (.type "int") (.type "dict") = some false := by kernel_rfl
theorem isi_it : PySem.W.kitOne K (.type "int") (.type "tuple") = some false := by kernel_rfl
theorem isi_bb : PySem.W.kitOne K (.type "bool") (.type "bool") = some true := by kernel_rfl
theorem i_isiII {i : Int} (q : Q (.bl true) H) : rIsi K [.int i, .ty "int"] H Q := ⟨_, _, _, true, rfl, .int i, isi_ii, q⟩
theorem i_isiIB {i : Int} (q : Q (.bl false) H) : rIsi K [.int i, .ty "bool"] H Q := ⟨_, _, _, false, rfl, .int i, isi_ib, q⟩
theorem i_isiIL {i : Int} (q : Q (.bl false) H) : rIsi K [.int i, .ty "list"] H Q := ⟨_, _, _, false, rfl, .int i, isi_il, q⟩
theorem i_isiID {i : Int} (q : Q (.bl false) H) : rIsi K [.int i, .ty "dict"] H Q := ⟨_, _, _, false, rfl, .int i, isi_id, q⟩
theorem i_isiIT {i : Int} (q : Q (.bl false) H) : rIsi K [.int i, .ty "tuple"] H Q := ⟨_, _, _, false, rfl, .int i, isi_it, q⟩
theorem i_isiBB {b : Bool} (q : Q (.bl true) H) : rIsi K [.bl b, .ty "bool"] H Q := ⟨_, _, _, true, rfl, .bl b, isi_bb, q⟩
end

/-! ### tests, sizes -/
theorem i_if {p : Prop} [Decidable p] {A B : Prop} (h1 : p → A) (h2 : ¬ p → B) : if decide p = true then A else B := by
  by_cases h : p
  · rw [decide_eq_true h]; exact iteT (h1 h)
  · rw [decide_eq_false h]; exact iteF (h2 h)
theorem i_ifn {p : Prop} [Decidable p] {A B : Prop} (h1 : ¬ p → A) (h2 : p → B) : if (!decide p) = true then A else B := by
  by_cases h : p
  · rw [decide_eq_true h]; exact iteF (h2 h)
  · rw [decide_eq_false h]; exact iteT (h1 h)
theorem iteNT {A B : Prop} (h : B) : if (!true) = true then A else B := iteF h
theorem iteNF {A B : Prop} (h : A) : if (!false) = true then A else B := iteT h
theorem szl {n : Nat} (h : n ≤ 100000) : n ≤ sizeLine := Nat.le_trans h (by rw [sizeLine_eq]; decide)
theorem szlt {n : Nat} (h : n ≤ 100000) : n < sizeLine := Nat.lt_of_le_of_lt h (by rw [sizeLine_eq]; decide)
theorem same_upd {H : Hp} {l : Addr} {o : HO} (h : H l = none) : Same H (upd H l o) := fun b u e => by rw [upd_ne (ne_of_none e h)]; exact e
/-- all but one address as it was -/
def SameBut (l : Addr) (H H' : Hp) : Prop := ∀ b o, b ≠ l → H b = some o → H' b = some o
theorem cmul_l {i j : Int} (h1 : -(2 ^ 64) < i) (h2 : i < 2 ^ 64) : CMul i j := .inl ⟨h1, h2⟩
theorem cmul_r {i j : Int} (h1 : -(2 ^ 64) < j) (h2 : j < 2 ^ 64) : CMul i j := .inr ⟨h1, h2⟩
end L2

namespace L2
open PySem PySem.Spec PyProof.Rows
theorem bt_int : bootBuiltins "int" = some (.type "int") := by first | exact PySem.boot_int | exact PySem.Pv.boot_int | exact PyProof.Rows.boot_int
theorem bt_bool : bootBuiltins "bool" = some (.type "bool") := by first | exact PySem.boot_bool | exact PySem.Pv.boot_bool | exact PyProof.Rows.boot_bool
theorem bt_list : bootBuiltins "list" = some (.type "list") := by first | exact PySem.boot_list | exact PySem.Pv.boot_list | exact PyProof.Rows.boot_list
theorem bt_isinstance : bootBuiltins "isinstance" = some (.builtin "isinstance") := by first | exact PySem.boot_isinstance | exact PySem.Pv.boot_isinstance | exact PyProof.Rows.boot_isinstance
theorem bt_min : bootBuiltins "min" = some (.builtin "min") := by first | exact PySem.boot_min | exact PySem.Pv.boot_min | exact PyProof.Rows.boot_min
theorem bt_max : bootBuiltins "max" = some (.builtin "max") := by first | exact PySem.boot_max | exact PySem.Pv.boot_max | exact PyProof.Rows.boot_max
theorem bt_sorted : bootBuiltins "sorted" = some (.builtin "sorted") := by first | exact PySem.boot_sorted | exact PySem.Pv.boot_sorted | exact PyProof.Rows.boot_sorted
theorem bt_len : bootBuiltins "len" = some (.builtin "len") := by first | exact PySem.boot_len | exact PySem.Pv.boot_len | exact PyProof.Rows.boot_len
section
variable {X : Cx} {pos p1 p2 : Pos} {k1 k2 : Nat}
theorem pe_powK {i j r : Int} (h : 0 ≤ j ∧ j ≤ 1000000 ∧ i.natAbs < 2 ^ 64 ∧ i ^ j.toNat = r) : PE X (.BinOp (.Constant (.int i) k1 p1) .Pow (.Constant (.int j) k2 p2) pos) (tC (.int r)) := by
  intro pins s σ H Q I q
  refine pe_op op_pow pe_int pe_int pins s σ H Q I ?_
  exact ⟨i, j, rfl, rfl, ⟨h.1, h.2.1, h.2.2.1⟩, by have e := h.2.2.2; subst e; exact q⟩
theorem pe_negK {i r : Int} (h : -i = r) : PE X (.UnaryOp .USub (.Constant (.int i) k1 p1) pos) (tC (.int r)) := by
  intro pins s σ H Q I q
  refine pe_un un_neg pe_int pins s σ H Q I ?_
  exact ⟨i, rfl, by subst h; exact q⟩
end
section
variable {K : PySem.W.Frag} {σ : St} {H : Hp} {Q : VK} {i j : Int}
theorem i_div (h0 : 0 < j) (h1 : j < 1073741824) (q : Q (.int (i / j)) H) : rI CDiv (fun i j => .int (i / j)) (.int i) (.int j) H Q := ⟨i, j, rfl, rfl, ⟨h0, h1⟩, q⟩
theorem i_mod (h0 : 0 < j) (q : Q (.int (i % j)) H) : rI (fun _ j => 0 < j) (fun i j => .int (i % j)) (.int i) (.int j) H Q := ⟨i, j, rfl, rfl, h0, q⟩
theorem i_app {l : Addr} {xs : List V} {y : V} (h : H l = some (.lst xs)) (hl : xs.length < sizeLine) (q : Q .non (upd H l (.lst (xs ++ [y])))) : rAppend (.ref l) [y] H Q := ⟨l, xs, y, rfl, rfl, h, hl, q⟩
end
end L2

namespace L2
open PySem PySem.Spec PyProof.Rows
/-! ### loops, kept folded -/
def LoopI (J : It) (g : TG) (tb : TS) (D : Ends) (σ : St) (H1 : Hp) : Prop := ∃ W : Nat → Nat → St → Hp → Prop, (∃ m, W 0 m σ H1) ∧ ∀ i m σ H, W i m σ H →
  (J.stop i H ∧ D.nx σ H) ∨ (J.go i H ∧ ∃ N : St → Hp → Prop, (∀ σ' H', N σ' H' → ∃ m', m' < m ∧ W (i + 1) m' σ' H') ∧ ∀ x H', J.yld i H x H' → g x σ H' fun σ2 H2 => tb { D with nx := N, ct := N, bk := D.nx } σ2 H2)
theorem tFor_eq (wi : TI) (g : TG) (tb : TS) : tFor wi g tb = fun D σ H => wi σ H fun J H1 => LoopI J g tb D σ H1 := rfl
theorem lp_ints {K : PySem.W.Frag} {a : Addr} {ns : List Int} {g : TG} {tb : TS} {D : Ends} {σ : St} {H : Hp} (Pv : Nat → St → Hp → Prop) (h0 : Pv 0 σ H) (hl : ∀ i σ H, i ≤ ns.length → Pv i σ H → SqL K H a (iL ns))
    (hs : ∀ i x σ H, ns[i]? = some x → Pv i σ H → g (.int x) σ H fun σ2 H2 => tb { D with nx := Pv (i + 1), ct := Pv (i + 1), bk := D.nx } σ2 H2) (hd : ∀ σ H, Pv ns.length σ H → D.nx σ H) : LoopI (Itl K a) g tb D σ H := by
  have e : (iL ns).length = ns.length := by simp [iL]
  refine for_list (xs := iL ns) Pv h0 (fun i σ H h p => hl i σ H (by rw [e] at h; exact h) p) (fun i x σ H hx p => ?_) (fun σ H p => hd σ H (by rw [e] at p; exact p))
  rw [List.getElem?_map] at hx
  cases q : ns[i]? with
  | none => rw [q] at hx; cases hx
  | some z =>
    rw [q] at hx
    cases hx
    exact hs i z σ H q p
theorem lp_range {lo : Int} {n : Nat} {g : TG} {tb : TS} {D : Ends} {σ : St} {H : Hp} (Pv : Nat → St → Hp → Prop) (h0 : Pv 0 σ H)
    (hs : ∀ i σ H, i < n → Pv i σ H → g (.int (lo + i)) σ H fun σ2 H2 => tb { D with nx := Pv (i + 1), ct := Pv (i + 1), bk := D.nx } σ2 H2) (hd : ∀ σ H, Pv n σ H → D.nx σ H) : LoopI (Itr lo n) g tb D σ H := for_range Pv h0 hs hd
theorem i_truB {K : PySem.W.Frag} {b : Bool} {H : Hp} {Q : Bool → Hp → Prop} (q : Q b H) : rTru K (.bl b) H Q := ⟨b, rfl, q⟩
theorem i_truL {K : PySem.W.Frag} {p : Addr} {xs : List V} {H : Hp} {Q : Bool → Hp → Prop} (h : SqL K H p xs) (q : Q (!xs.isEmpty) H) : rTru K (.ref p) H Q := ⟨_, .inl ⟨xs, h, rfl⟩, q⟩
end L2

namespace L2
open PySem PySem.Spec PyProof.Rows
/-! ### [a, b, ..][i]: the list is not tracked -/
def rMenu (xs : List V) (y : V) (H : Hp) (Q : VK) : Prop := ∃ i v, y = .int i ∧ atI xs i = some v ∧ Q v H
def tMenu (t : TA) (ti : TE) : TE := fun σ H Q => t σ H fun xs H1 => xs.length ≤ sizeLine ∧ ti σ H1 fun y H2 => rMenu xs y H2 Q
section
variable {X : Cx} {es : List Expr} {b : Expr} {t : TA} {tb : TE} {p1 pos : Pos}
theorem item_raw {X : Cx} {value slice : Expr} {pins : List (Addr × Obj)} {s : Shared} {σ : St} {H : Hp} {p : Addr} {its : List Value} {xs : List V} {i : Int} {tk : Tok} {z : V} {Q : VK} (I : Inv X pins σ H s) (r : Vals xs its) (hz : xs.length ≤ sizeLine)
    (pl : s.heap.IsList p its.toArray) (he : atI xs i = some z) (q : Q z H) (hs : subscripted slice false (.ref p) (.int i tk) = operate [.ref p, .int i tk] (getItem (.ref p) (.int i tk))) :
    wpAny (model X.prog X.w) X.A (subscriptTail value slice (.ref p) (.int i tk)) (EP X pins σ Q) X.xe s := by
  obtain ⟨j, h1, h2, h3, h4, h5⟩ := atI_get he
  obtain ⟨w, ew, rw'⟩ := r.get h2
  have hl := r.length
  have hn := line63
  have fin : EP X pins σ Q w s := ⟨z, H, I, rw', q⟩
  by_cases h0 : 0 ≤ i
  · have hj : i.toNat = j := by
      rw [seqIndex_of h0 h5] at h1
      exact Option.some.inj h1
    exact item_listR pl h0 (by omega) (by rw [hj]; simpa using ew) fin hs
  · have hj : (i + (its.toArray.size : Int)).toNat = j := by
      rw [seqIndex_neg (by omega) h4] at h1
      rw [List.size_toArray, ← hl]
      exact Option.some.inj h1
    exact subscriptTail_builtinR (x := w) pl.typeIs slot_list_getitem.lookup
      (wpAny_getItem_list_neg (Q := fun r s' => r = w ∧ EP X pins σ Q r s') pl (by omega) (by rw [List.size_toArray] <;> omega) (by omega) (by rw [hj]; simpa using ew) ⟨rfl, fin⟩) hs
theorem pe_menu (h : PA X es t) (hb : PE X b tb) (hs : PlainIx b) : PE X (.Subscript (.List es p1) b pos) (tMenu t tb) := by
  intro pins s σ H Q I hq
  refine Subscript_ (wpAny_List_spliced (thn (h p1 pins s σ H _ I hq) fun us s1 ⟨xs, H1, I1, r, z, q⟩ => ⟨by rw [← r.length]; exact z, ?_⟩))
  have hf : H1 s1.heap.objs.size = none := I1.hok.fresh (Nat.le_refl _)
  have I2 := I1.kept (t' := s1.toks) (h' := s1.heap.push { cls := .type "list", data := .seq us.toArray 0 }) (fun b u e => Heap.get?_push_of_some _ e)
  have I3 := I2.pins_of (pins' := pins ++ [(s1.heap.objs.size, { cls := .type "list", data := .seq us.toArray 0 })]) (fun p hp => by
    rcases List.mem_append.mp hp with hp | hp
    · exact I2.pin p (List.mem_append_right _ hp)
    · have e : p = (s1.heap.objs.size, ({ cls := .type "list", data := .seq us.toArray 0 } : Obj)) := by simpa using hp
      subst e
      refine ⟨Heap.get?_push_size _ rfl, hf, Nat.ne_of_gt I1.lt, I1.nofs (Nat.le_refl _), fun v e => ?_⟩
      have e' : Data.seq us.toArray 0 = Data.cell v := e
      cases e')
  refine thn (hb _ _ σ H1 _ I3 q) fun u s2 ⟨y, H2, I4, r4, i, v, hy, hv, qq⟩ => ?_
  subst hy
  obtain ⟨tk, rfl⟩ := r4
  have pn := (I4.pin (s1.heap.objs.size, { cls := .type "list", data := .seq us.toArray 0 }) (by simp)).1
  exact item_raw I4.unpinned r z ⟨_, pn, rfl, _, rfl⟩ hv qq (hs _ _)
end
section
variable {H : Hp} {Q : VK} {i : Int}
theorem i_menu2 {xa xb : Int} (h0 : 0 ≤ i) (h1 : i < 2) (q : ∀ z, (i = 0 ∧ z = xa) ∨ (i = 1 ∧ z = xb) → Q (.int z) H) : rMenu [.int xa, .int xb] (.int i) H Q := by
  have hi : i = 0 ∨ i = 1 := by omega
  rcases hi with h | h
  · subst h; exact ⟨0, _, rfl, rfl, q _ (by simp)⟩
  · subst h; exact ⟨1, _, rfl, rfl, q _ (by simp)⟩
theorem i_menu3 {xa xb xc : Int} (h0 : 0 ≤ i) (h1 : i < 3) (q : ∀ z, (i = 0 ∧ z = xa) ∨ (i = 1 ∧ z = xb) ∨ (i = 2 ∧ z = xc) → Q (.int z) H) : rMenu [.int xa, .int xb, .int xc] (.int i) H Q := by
  have hi : i = 0 ∨ i = 1 ∨ i = 2 := by omega
  rcases hi with h | h | h
  · subst h; exact ⟨0, _, rfl, rfl, q _ (by simp)⟩
  · subst h; exact ⟨1, _, rfl, rfl, q _ (by simp)⟩
  · subst h; exact ⟨2, _, rfl, rfl, q _ (by simp)⟩
theorem i_menu4 {xa xb xc xd : Int} (h0 : 0 ≤ i) (h1 : i < 4) (q : ∀ z, (i = 0 ∧ z = xa) ∨ (i = 1 ∧ z = xb) ∨ (i = 2 ∧ z = xc) ∨ (i = 3 ∧ z = xd) → Q (.int z) H) : rMenu [.int xa, .int xb, .int xc, .int xd] (.int i) H Q := by
  have hi : i = 0 ∨ i = 1 ∨ i = 2 ∨ i = 3 := by omega
  rcases hi with h | h | h | h
  · subst h; exact ⟨0, _, rfl, rfl, q _ (by simp)⟩
  · subst h; exact ⟨1, _, rfl, rfl, q _ (by simp)⟩
  · subst h; exact ⟨2, _, rfl, rfl, q _ (by simp)⟩
  · subst h; exact ⟨3, _, rfl, rfl, q _ (by simp)⟩
end
theorem cxOf_K (CX : CXT) (P : Program) (w : World) (K : PySem.W.Frag) (mg : Str → Option Value) (base : Heap) (N : List Str) (qual : Str) (scope : Scope) (f : Addr) (cd : Value) (A : Around) (outer : List Env) (s : Shared) (H : Hp) (E : XK) : (cxOf CX P w K mg base N qual scope f cd A outer s H E).K = K := rfl
end L2

namespace L2
open PySem PySem.Spec PyProof.Rows
/-! ### a statement with a word behind it: what follows is read once -/
def tJoin (t u : TS) : TS := fun D σ H => ∃ Pj : St → Hp → Prop, t { D with nx := Pj } σ H ∧ ∀ σ' H', Pj σ' H' → u D σ' H'
theorem pss_join {X : Cx} {st : Stmt} {rest : List Stmt} {t u : TS} (h1 : PS X st t) (h2 : PSs X rest u) : PSs X (st :: rest) (tJoin t u) := by
  intro pins s σ H D I h
  obtain ⟨Pj, ht, hu⟩ := h
  refine wpAny_execs_cons (thn (h1 pins s σ H _ I ht) fun f s1 q => ?_)
  cases f with
  | next =>
    obtain ⟨σ1, H1, I1, q1⟩ := q
    exact h2 pins s1 σ1 H1 D I1 (hu _ _ q1)
  | brk => exact q
  | cont => exact q
  | ret u => exact q
end L2

namespace L2
open PySem PySem.Spec PyProof.Rows
/-! ### slices of lists of ints -/
theorem take_min {α : Type} (xs : List α) (k : Nat) : xs.take (min k xs.length) = xs.take k := by
  by_cases h : k ≤ xs.length
  · rw [Nat.min_eq_left h]
  · rw [Nat.min_eq_right (by omega), List.take_of_length_le (by omega), List.take_of_length_le (by omega)]
theorem drop_min {α : Type} (xs : List α) (k : Nat) : xs.drop (min k xs.length) = xs.drop k := by
  by_cases h : k ≤ xs.length
  · rw [Nat.min_eq_left h]
  · rw [Nat.min_eq_right (by omega), List.drop_of_length_le (by omega), List.drop_of_length_le (by omega)]
theorem sIx_pos (n d : Nat) {b : Int} (h : 0 ≤ b) : HT.sIx n d (some b) = min b.toNat n := by
  have := HT.sIx_nat n d b.toNat
  rwa [Int.toNat_of_nonneg h] at this
theorem cut_to {xs : List V} {b : Int} (h : 0 ≤ b) : cutV xs none (some b) = xs.take b.toNat := by
  unfold cutV
  rw [HT.sIx_none, sIx_pos _ _ h, Nat.sub_zero, List.drop_zero, take_min]
theorem cut_from {xs : List V} {a : Int} (h : 0 ≤ a) : cutV xs (some a) none = xs.drop a.toNat := by
  unfold cutV
  rw [HT.sIx_none, sIx_pos _ _ h, drop_min, List.take_of_length_le]
  rw [List.length_drop]; omega
theorem cut_mid {xs : List V} {a b : Int} (h : 0 ≤ a) (h2 : 0 ≤ b) : cutV xs (some a) (some b) = (xs.drop a.toNat).take (b.toNat - a.toNat) := by
  unfold cutV
  rw [sIx_pos _ _ h, sIx_pos _ _ h2, drop_min]
  by_cases e : b.toNat ≤ xs.length
  · by_cases e2 : a.toNat ≤ xs.length
    · rw [Nat.min_eq_left e, Nat.min_eq_left e2]
    · rw [List.drop_of_length_le (by omega)]; simp
  · rw [Nat.min_eq_right (by omega)]
    by_cases e2 : a.toNat ≤ xs.length
    · rw [Nat.min_eq_left e2, List.take_of_length_le (by rw [List.length_drop]; omega), List.take_of_length_le (by rw [List.length_drop]; omega)]
    · rw [List.drop_of_length_le (by omega)]; simp
section
variable {K : PySem.W.Frag} {H : Hp} {Q : VK} {a : Addr} {ns : List Int}
theorem i_slTo {b : Int} (h : SqL K H a (iL ns)) (hb : 0 ≤ b) (q : ∀ p, H p = none → Q (.ref p) (upd H p (.lst (iL (ns.take b.toNat))))) : rSlL K (.ref a) none (some b) H Q :=
  ⟨a, _, rfl, h, fun p hp => by rw [cut_to hb, ← List.map_take]; exact q p hp⟩
theorem i_slFrom {b : Int} (h : SqL K H a (iL ns)) (hb : 0 ≤ b) (q : ∀ p, H p = none → Q (.ref p) (upd H p (.lst (iL (ns.drop b.toNat))))) : rSlL K (.ref a) (some b) none H Q :=
  ⟨a, _, rfl, h, fun p hp => by rw [cut_from hb, ← List.map_drop]; exact q p hp⟩
theorem i_slMid {b c : Int} (h : SqL K H a (iL ns)) (hb : 0 ≤ b) (hc : 0 ≤ c) (q : ∀ p, H p = none → Q (.ref p) (upd H p (.lst (iL ((ns.drop b.toNat).take (c.toNat - b.toNat)))))) : rSlL K (.ref a) (some b) (some c) H Q :=
  ⟨a, _, rfl, h, fun p hp => by rw [cut_mid hb hc, ← List.map_drop, ← List.map_take]; exact q p hp⟩
end
end L2

set_option Elab.async false
set_option linter.all false
set_option maxRecDepth 100000
namespace L2
open PySem PySem.Spec PyProof.Rows

/-! ### an untracked list of ours is tracked from now on -/
theorem Inv.track {X : Cx} {pins : List (Addr × Obj)} {σ : St} {H : Hp} {s : Shared} {D : Addr} {o : HO} (I : Inv X pins σ H s) (hn : H D = none) (hL : D ≠ X.env.locals) (h1 : X.s₀.heap.objs.size ≤ D)
    (h2 : ∀ x c, X.env.cells.lookup x = some c → c ≠ D) (h3 : ∀ p ∈ X.pn ++ pins, p.1 ≠ D) (new : ObjOk X.prog X.w (upd H D o) s.heap D o) : Inv X pins σ (upd H D o) s := by
  have up : ∀ b u, H b = some u → upd H D o b = some u := fun b u e => by rw [upd_ne (ne_of_none e hn)]; exact e
  have un : ∀ b, b ≠ D → H b = none → upd H D o b = none := fun b hb e => by rw [upd_ne hb]; exact e
  refine ⟨I.ok, I.os, I.bare, ⟨I.base.keep, I.base.slot, fun b ob e n hx => un b (Nat.ne_of_lt (Nat.lt_of_lt_of_le (Heap.lt_size e) h1)) (I.base.free b ob e n hx), I.base.there, fun b xs e => up _ _ (I.base.tups b xs e), fun b ob u e => up _ _ (I.base.frzs b ob u e), fun b ps e => ?_⟩,
    I.loc, I.cell, un _ (Ne.symm hL) I.free, fun x c e => un _ (h2 x c e) (I.freeC x c e), fun p hp => ?_, fun b u e => ?_, I.len⟩
  · obtain ⟨m, e'⟩ := I.base.tbls b ps e
    exact ⟨m, up _ _ e'⟩
  · obtain ⟨e, n, r⟩ := I.pin p hp
    exact ⟨e, un _ (h3 p hp) n, r⟩
  · by_cases hb : b = D
    · subst hb
      rw [upd_same] at e
      cases e
      exact new
    · rw [upd_ne hb] at e
      exact (I.hok b u e).stay (fun _ _ _ q => q) (fun c q => up _ _ q) fun c xs q => up _ _ q

/-! ### the closure of a comprehension's block -/
def clOf (env : Env) : List (Str × NameKind) → List (Str × Addr) → List (Str × Addr)
  | [], acc => acc
  | (n, k) :: r, acc => clOf env r (if (k == .free) = true then (n, (env.cells.lookup n).getD 0) :: acc else acc)
theorem closure_go {env : Env} : ∀ (names : List (Str × NameKind)) (acc : List (Str × Addr)), (∀ y ∈ names, y.2 = .free → ∃ c, env.cells.lookup y.1 = some c) →
    (forIn names acc fun (x : Str × NameKind) (r : List (Str × Addr)) => match x with
      | (name, kind) => if (kind == .free) = true then do
          let a ← cellOf env name
          pure (ForInStep.yield ((name, a) :: r))
        else pure (ForInStep.yield r) : Sem (List (Str × Addr))) = pure (clOf env names acc)
  | [], acc, _ => rfl
  | (n, k) :: r, acc, h => by
    rw [List.forIn_cons, clOf]
    by_cases hk : (k == NameKind.free) = true
    · obtain ⟨c, hc⟩ := h (n, k) (List.mem_cons_self) (by simpa using hk)
      have hc' : env.cells.lookup n = some c := hc
      simp only [hk, if_true, cellOf, hc', Option.getD_some]
      exact closure_go r _ fun y hy => h y (List.mem_cons_of_mem _ hy)
    · simp only [hk, Bool.false_eq_true, if_false]
      exact closure_go r _ fun y hy => h y (List.mem_cons_of_mem _ hy)
theorem closure_eq {env : Env} {scope : Scope} (h : ∀ y ∈ scope.names, y.2 = .free → ∃ c, env.cells.lookup y.1 = some c) : closureFor scope env = pure (clOf env scope.names []) := by
  have q := closure_go scope.names [] h
  unfold closureFor
  exact (congrArg (fun z => z >>= fun r => pure r) q).trans rfl
theorem clOf_get {env : Env} {x : Str} {c : Addr} : ∀ (names : List (Str × NameKind)) (acc : List (Str × Addr)), (∀ y ∈ names, y.2 = .free → ∃ c, env.cells.lookup y.1 = some c) → (∀ x c, acc.lookup x = some c → env.cells.lookup x = some c) →
    (clOf env names acc).lookup x = some c → env.cells.lookup x = some c
  | [], acc, _, ha, e => ha x c e
  | (n, k) :: r, acc, h, ha, e => by
    rw [clOf] at e
    refine clOf_get r _ (fun y hy => h y (List.mem_cons_of_mem _ hy)) ?_ e
    intro y d hd
    by_cases hk : (k == NameKind.free) = true
    · rw [if_pos hk] at hd
      obtain ⟨c', hc⟩ := h (n, k) List.mem_cons_self (by simpa using hk)
      have hc' : env.cells.lookup n = some c' := hc
      rw [List.lookup_cons] at hd
      cases hy : y == n with
      | true =>
        rw [hy] at hd
        have e1 : y = n := by simpa using hy
        subst e1
        rw [hc'] at hd ⊢
        exact hd
      | false =>
        rw [hy] at hd
        exact ha y d hd
    · rw [if_neg hk] at hd
      exact ha y d hd
theorem clOf_has {env : Env} {x : Str} : ∀ (names : List (Str × NameKind)) (acc : List (Str × Addr)), ((x, NameKind.free) ∈ names ∨ ∃ c, acc.lookup x = some c) → ∃ c, (clOf env names acc).lookup x = some c
  | [], acc, h => by
    rcases h with h | h
    · exact absurd h (by simp)
    · exact h
  | (n, k) :: r, acc, h => by
    rw [clOf]
    refine clOf_has r _ ?_
    rcases h with h | ⟨c, h⟩
    · rcases List.mem_cons.mp h with e | e
      · cases e
        exact .inr ⟨_, by rw [if_pos (by rfl), List.lookup_cons, beq_self_eq_true]⟩
      · exact .inl e
    · refine .inr ?_
      by_cases hk : (k == NameKind.free) = true
      · rw [if_pos hk, List.lookup_cons]
        cases x == n with
        | true => exact ⟨_, rfl⟩
        | false => exact ⟨c, h⟩
      · rw [if_neg hk]; exact ⟨c, h⟩
/-- what a relabelled scope says of a name -/
theorem relabel_get {scope : Scope} {env : Env} {x : Str} {k : NameKind} (h : (relabel scope env).names.lookup x = some k) : (x, k) ∈ scope.names ∨ (k = .cell ∧ (x, NameKind.free) ∈ scope.names) := by
  have m := PySem.mem_of_lookup h
  unfold relabel at m
  obtain ⟨⟨n, k0⟩, hm, e⟩ := List.mem_map.mp m
  dsimp only at e
  split at e
  · rename_i hc
    cases e
    have : k0 = .free := by
      have := (Bool.and_eq_true _ _ ▸ (Bool.and_eq_true _ _ ▸ hc).1 : _ ∧ _).1
      simpa using this
    subst this
    exact .inr ⟨rfl, hm⟩
  · cases e
    exact .inl hm

theorem relabel_freeN {env : Env} : ∀ {names : List (Str × NameKind)} {x : Str}, names.lookup x = some .free →
    (names.map fun (n, k) => if (k == NameKind.free && env.scope.kind == .function && env.kindOf n == some .cell) then (n, NameKind.cell) else (n, k)).lookup x = some .cell ∨
    (names.map fun (n, k) => if (k == NameKind.free && env.scope.kind == .function && env.kindOf n == some .cell) then (n, NameKind.cell) else (n, k)).lookup x = some .free
  | [], _, h => by simp at h
  | (n, k) :: r, x, h => by
    have ih := @relabel_freeN env r x
    show List.lookup x ((if (k == NameKind.free && env.scope.kind == .function && env.kindOf n == some .cell) = true then (n, NameKind.cell) else (n, k)) :: _) = _ ∨ List.lookup x ((if (k == NameKind.free && env.scope.kind == .function && env.kindOf n == some .cell) = true then (n, NameKind.cell) else (n, k)) :: _) = _
    cases hx : x == n with
    | true =>
      simp only [List.lookup_cons, hx] at h
      cases h
      by_cases hc : (NameKind.free == NameKind.free && env.scope.kind == .function && env.kindOf n == some .cell) = true
      · rw [if_pos hc]; left; simp [List.lookup_cons, hx]
      · rw [if_neg hc]; right; simp [List.lookup_cons, hx]
    | false =>
      simp only [List.lookup_cons, hx] at h
      by_cases hc : (k == NameKind.free && env.scope.kind == .function && env.kindOf n == some .cell) = true
      · rw [if_pos hc]; simp only [List.lookup_cons, hx]; exact ih h
      · rw [if_neg hc]; simp only [List.lookup_cons, hx]; exact ih h
theorem relabel_free {scope : Scope} {env : Env} {x : Str} (h : scope.names.lookup x = some .free) : (relabel scope env).names.lookup x = some .cell ∨ (relabel scope env).names.lookup x = some .free := relabel_freeN h

/-! ### the block's context -/
def cxC (X : Cx) (scope : Scope) (C : Addr) (N : List Str) (s₂ : Shared) (H₂ : Hp) (ex : List Addr) : Cx :=
  { X with N := N, s₀ := s₂, H₀ := H₂, env := compEnvC scope (clOf X.env scope.names []) C X.env, outer := X.stack, stack := X.stack, ex := ex, fn := fun _ => false, pn := [], xe := fun _ _ => False }
/-- the names: a slot of the def's for each that is free in the block -/
def FrOk (X : Cx) (scope : Scope) : List Str → List (Option Nat) → Prop
  | [], [] => True
  | _ :: N, none :: fr => FrOk X scope N fr
  | x :: N, some j :: fr => (X.N[j]? = some x ∧ (X.env.kindOf x = some .cell ∨ X.env.kindOf x = some .free) ∧ scope.names.lookup x = some .free) ∧ FrOk X scope N fr
  | _, _ => False
def stC (fr : List (Option Nat)) (σ : St) : St := fr.map fun o => o.bind fun j => (σ[j]?).join
structure CompOk (X : Cx) (scope : Scope) (N : List Str) (fr : List (Option Nat)) : Prop where
  kind : scope.kind = .function
  ncell : ∀ y ∈ scope.names, y.2 ≠ .cell
  names : ∀ y ∈ scope.names, y.2 = .local → scope.names.lookup y.1 = some .local
  frees : ∀ y ∈ scope.names, y.2 = .free → X.env.kindOf y.1 = some .cell ∨ X.env.kindOf y.1 = some .free
  fr : FrOk X scope N fr
theorem FrOk.len {X : Cx} {scope : Scope} : ∀ {N : List Str} {fr : List (Option Nat)}, FrOk X scope N fr → fr.length = N.length
  | [], [], _ => rfl
  | _ :: N, none :: fr, h => by simp [FrOk.len (N := N) (fr := fr) h]
  | _ :: N, some j :: fr, h => by simp [FrOk.len (N := N) (fr := fr) h.2]
  | [], _ :: _, h => h.elim
  | _ :: _, [], h => h.elim
theorem FrOk.get {X : Cx} {scope : Scope} : ∀ {N : List Str} {fr : List (Option Nat)} {i j : Nat} {x : Str}, FrOk X scope N fr → N[i]? = some x → fr[i]? = some (some j) → X.N[j]? = some x ∧ (X.env.kindOf x = some .cell ∨ X.env.kindOf x = some .free) ∧ scope.names.lookup x = some .free
  | [], _, i, j, x, h, e, _ => by simp at e
  | y :: N, [], _, _, _, h, _, _ => h.elim
  | y :: N, none :: fr, 0, j, x, h, e, e2 => by simp at e2
  | y :: N, none :: fr, i + 1, j, x, h, e, e2 => FrOk.get (N := N) (fr := fr) (i := i) h (by simpa using e) (by simpa using e2)
  | y :: N, some k :: fr, 0, j, x, h, e, e2 => by
    simp at e e2
    subst e e2
    exact h.1
  | y :: N, some k :: fr, i + 1, j, x, h, e, e2 => FrOk.get (N := N) (fr := fr) (i := i) h.2 (by simpa using e) (by simpa using e2)
theorem stC_get {fr : List (Option Nat)} {σ : St} {i : Nat} {v : V} (h : (stC fr σ)[i]? = some (some v)) : ∃ j, fr[i]? = some (some j) ∧ σ[j]? = some (some v) := by
  unfold stC at h
  rw [List.getElem?_map] at h
  cases e : fr[i]? with
  | none => rw [e] at h; cases h
  | some o =>
    rw [e] at h
    cases o with
    | none => cases h
    | some j =>
      refine ⟨j, rfl, ?_⟩
      have h' : (σ[j]?).join = some v := by simpa using h
      cases e2 : σ[j]? with
      | none => rw [e2] at h'; cases h'
      | some w => rw [e2] at h'; cases w with
        | none => cases h'
        | some z => cases h'; rfl
section
variable {X : Cx} {scope : Scope} {N : List Str} {fr : List (Option Nat)}
theorem CompOk.cells (c : CompOk X scope N fr) (ok : X.Ok) : ∀ y ∈ scope.names, y.2 = .free → ∃ c, X.env.cells.lookup y.1 = some c := fun y hy e => ok.has y.1 (c.frees y hy e)
theorem CompOk.get (c : CompOk X scope N fr) (ok : X.Ok) {x : Str} {a : Addr} (h : (clOf X.env scope.names []).lookup x = some a) : X.env.cells.lookup x = some a :=
  clOf_get scope.names [] (c.cells ok) (fun _ _ z => by simp at z) h
theorem comp_ok {pins : List (Addr × Obj)} {σ : St} {H : Hp} {s₂ : Shared} {C : Addr} {fp : List Addr} (c : CompOk X scope N fr) (I : Inv X pins σ H s₂) (hC : s₂.heap.objs.size ≤ C) (hfp : ∀ b ∈ fp, FpOk X pins H b ∧ b < s₂.heap.objs.size) :
    (cxC X scope C N s₂ H fp).Ok where
  mod := I.ok.mod
  kind := c.kind
  glob := I.ok.glob
  blt := I.ok.blt
  above := hC
  inj := fun x y a h1 h2 => I.ok.inj x y a (c.get I.ok h1) (c.get I.ok h2)
  has := fun x h => by
    have hm : (x, NameKind.free) ∈ scope.names := by
      rcases h with h | h
      · rcases relabel_get h with z | ⟨_, z⟩
        · exact absurd rfl (c.ncell _ z)
        · exact z
      · rcases relabel_get h with z | ⟨z, _⟩
        · exact z
        · cases z
    exact clOf_has scope.names [] (.inl hm)
  cab := fun x a h => by cases h
  hd := I.ok.hd
  frames := I.ok.frames
  stk := .inl rfl
  exf := fun b hb => ⟨Nat.ne_of_lt (Nat.lt_of_lt_of_le (hfp b hb).2 hC), fun x a h => (hfp b hb).1.2.2.2.2.1 x a (c.get I.ok h)⟩
  bs := I.bs
  bsz := Nat.le_trans I.ok.bsz I.sz
  noex := fun b o e hb => by
    rcases (hfp b hb).1.2.2.2.1 with z | z
    · exact I.ok.noex b o e z
    · have h1 : b < X.base.objs.size := Heap.lt_size e
      have h2 := I.ok.bsz
      exact absurd (Nat.lt_of_lt_of_le h1 (Nat.le_trans h2 z)) (Nat.lt_irrefl _)
  exfs := fun b hb z => by
    rcases List.mem_cons.mp (I.stkSub b z) with e | e
    · exact (hfp b hb).1.2.1 e
    · exact (hfp b hb).1.2.2.1 e
  funs := I.stack
  frf := I.stkFree
theorem comp_inv {pins : List (Addr × Obj)} {σ : St} {H : Hp} {s₂ : Shared} {C : Addr} {fp : List Addr} {h₄ : Heap} {tk : Nat} (c : CompOk X scope N fr) (I : Inv X pins σ H s₂) (hC : s₂.heap.objs.size ≤ C) (hfp : ∀ b ∈ fp, FpOk X pins H b ∧ b < s₂.heap.objs.size)
    (hk : ∀ b o, s₂.heap.get? b = some o → h₄.get? b = some o) (hn : h₄.Ns C fun _ => none) : Inv (cxC X scope C N s₂ H fp) [] (stC fr σ) H { s₂ with heap := h₄, toks := tk } := by
  refine ⟨comp_ok c I hC hfp, rfl, I.bare, Un.kept hk, ⟨_, hn, fun i x v e1 e2 e3 => ?_⟩, fun x a e => ?_, I.hok.fresh hC, fun x a e => I.freeC x a (c.get I.ok e), fun p hp => absurd (show p ∈ ([] : List (Addr × Obj)) from hp) (by simp), I.hok.kept hk, ?_⟩
  · obtain ⟨j, f1, f2⟩ := stC_get e2
    obtain ⟨g1, g2, g3⟩ := c.fr.get e1 f1
    obtain ⟨m, hm, hl⟩ := I.loc
    have vis : Vis X.env.scope x := by
      rcases g2 with g | g
      · exact .inr (.inl g)
      · exact .inr (.inr g)
    obtain ⟨u, ru, lk⟩ := hl j x v g1 f2 vis
    refine ⟨u, ru, ?_⟩
    rcases lk with ⟨k, _⟩ | ⟨_, a, ea, o, ho, hd⟩
    · rcases g2 with g | g <;> (rw [k] at g; cases g)
    · obtain ⟨a', ea'⟩ := clOf_has (env := X.env) scope.names [] (.inl (PySem.mem_of_lookup g3))
      have e5 := c.get I.ok ea'
      rw [ea] at e5
      cases e5
      have kd : (cxC X scope C N s₂ H fp).env.kindOf x = some .cell ∨ (cxC X scope C N s₂ H fp).env.kindOf x = some .free := relabel_free g3
      exact .inr ⟨kd, a, ea', o, hk _ _ ho, hd⟩
  · obtain ⟨v, o, ho, hd⟩ := I.cell x a (c.get I.ok e)
    exact ⟨v, o, hk _ _ ho, hd⟩
  · unfold stC
    rw [List.length_map]
    exact c.fr.len
end

section
variable {prog : Program} {w : World} {A : Around} {E : Value → Shared → Prop} {R : Result → Shared → Prop} {s : Shared}
/-- a turn of the block's loop, whatever the target is -/
theorem compLoop_any {elt target iter : Expr} {ifs : List Expr} {scope : Scope} {pos : Pos} {it acc : Value} {env : Env} (I : Nat → Shared → Prop)
    (turn : ∀ n s, I n s → wpAny (model prog w) A (pyNext it) (fun r s₁ => match r with
      | none => R (.ok .next) s₁
      | some v => wpAny (model prog w) A (letOwnedTupleGo target it v) (fun _ s₀ => wpAny (model prog w) A (assign target env v) (fun _ s₂ =>
          wpAny (model prog w) A (forIn ifs true fun c r => if r = true then do let ok ← isTrue c env (eval c env); pure (ForInStep.yield ok) else pure (ForInStep.yield r)) (fun ok s₃ =>
            if ok = true then wpAny (model prog w) A (eval elt env) (fun x s₄ =>
              wpAny (model prog w) A (call (.builtin "list.append") [acc, x]) (fun _ s₅ => ∃ m, m < n ∧ I m s₅) (fun _ _ => False) s₄) (fun _ _ => False) s₃
            else ∃ m, m < n ∧ I m s₃) (fun _ _ => False) s₂) (fun _ _ => False) s₀) (fun _ _ => False) s₁) (fun _ _ => False) s)
    (n : Nat) (h : I n s) :
    codeAny (model prog w) A (.compLoop (.ListComp elt [⟨target, iter, ifs, 0⟩] scope pos) 0 it acc env) R s := by
  refine codeAny_loop rfl I (fun n s hI => ?_) n h
  show wpAny _ A ((compTurn (.ListComp elt [⟨target, iter, ifs, 0⟩] scope pos) 0 it acc env).onRaise (fun x => do noteFrame x env; theTreesLotGoes x)) _ _ s
  refine wpAny_noted ?_
  rw [compTurn_list]
  have nf : ∀ {α : Type} {m : Sem α} {Q : α → Shared → Prop} {F : Value → Shared → Prop} {s : Shared}, wpAny (model prog w) A m Q (fun _ _ => False) s → wpAny (model prog w) A m Q F s := fun h => wpAny_mono h (fun _ _ x => x) fun _ _ x => x.elim
  refine wpAny_bind (wpAny_standAt (wpAny_bind (wpAny_mono (nf (turn n s hI)) (fun r s₁ h₁ => ?_) fun _ _ h' => h')))
  cases r with
  | none => exact wpAny_pure h₁
  | some v =>
    refine wpAny_bind (wpAny_mono (nf h₁) (fun _ s₀ h₀ => ?_) fun _ _ h' => h')
    refine wpAny_bind (wpAny_mono (nf h₀) (fun _ s₂ h₂ => wpAny_bind (wpAny_mono (nf h₂) (fun ok s₃ h₃ => ?_) fun _ _ h' => h')) fun _ _ h' => h')
    cases ok with
    | false => exact wpAny_pure ⟨rfl, h₃⟩
    | true =>
      exact wpAny_bind (wpAny_bind (wpAny_mono (nf h₃) (fun x s₄ h₄ => wpAny_bind (wpAny_mono (nf h₄) (fun _ s₅ h₅ => wpAny_pure (wpAny_pure ⟨rfl, h₅⟩)) fun _ _ h' => h')) fun _ _ h' => h'))
end

/-! ### targets that leave the free names -/
def Wk (fr : List (Option Nat)) (σ σ2 : St) : Prop := σ2.length = σ.length ∧ ∀ (i j : Nat), fr[i]? = some (some j) → σ2[i]? = σ[i]?
theorem Wk.trans {fr : List (Option Nat)} {a b c : St} (h1 : Wk fr a b) (h2 : Wk fr b c) : Wk fr a c := ⟨h2.1.trans h1.1, fun i j e => (h2.2 i j e).trans (h1.2 i j e)⟩
def GW (fr : List (Option Nat)) (g : TG) : Prop := ∀ x σ H (Q Q' : St → Hp → Prop), (∀ σ2 H2, Wk fr σ σ2 → Q σ2 H2 → Q' σ2 H2) → g x σ H Q → g x σ H Q'
def GWs (fr : List (Option Nat)) (g : TGs) : Prop := ∀ x σ H (Q Q' : St → Hp → Prop), (∀ σ2 H2, Wk fr σ σ2 → Q σ2 H2 → Q' σ2 H2) → g x σ H Q → g x σ H Q'
theorem gw_name {fr : List (Option Nat)} {i : Nat} (h : fr[i]? = some none) : GW fr (gName i) := fun x σ H Q Q' k q => by
  refine k _ _ ⟨by simp, fun a j e => ?_⟩ q
  have : i ≠ a := fun z => by subst z; rw [h] at e; cases e
  rw [List.getElem?_set_ne this]
theorem gws_nil {fr : List (Option Nat)} : GWs fr gNil := fun x σ H Q Q' k q => ⟨q.1, k _ _ ⟨rfl, fun _ _ _ => rfl⟩ q.2⟩
theorem gws_cons {fr : List (Option Nat)} {t : TG} {u : TGs} (h1 : GW fr t) (h2 : GWs fr u) : GWs fr (gCons t u) := fun x σ H Q Q' k q => by
  obtain ⟨v, r, e, q⟩ := q
  exact ⟨v, r, e, h1 v σ H _ _ (fun σ' H' w1 q1 => h2 r σ' H' _ _ (fun σ2 H2 w2 q2 => k _ _ (w1.trans w2) q2) q1) q⟩
theorem gw_tup {fr : List (Option Nat)} {K : PySem.W.Frag} {n : Nat} {t : TGs} (h : GWs fr t) : GW fr (gTup K n t) := fun x σ H Q Q' k q => by
  obtain ⟨a, xs, e1, e2, e3, q⟩ := q
  exact ⟨a, xs, e1, e2, e3, h xs σ H _ _ k q⟩

/-! ### the tests -/
def PIfs (X : Cx) (ifs : List Expr) (t : TT) : Prop :=
  ∀ (pins : List (Addr × Obj)) (s : Shared) (σ : St) (H : Hp) (Q : Bool → Hp → Prop), Inv X pins σ H s → t σ H Q →
    wpAny (model X.prog X.w) X.A (forIn ifs true fun c r => if r = true then do let ok ← isTrue c X.env (eval c X.env); pure (ForInStep.yield ok) else pure (ForInStep.yield r)) (TP X pins σ Q) X.xe s
def tNoIf : TT := fun _ H Q => Q true H
theorem pifs_nil {X : Cx} : PIfs X [] tNoIf := fun _ _ _ H _ I h => wpAny_tests_nil ⟨H, I, h⟩
theorem pifs_one {X : Cx} {c : Expr} {t : TT} (h : PT X c t) : PIfs X [c] t := fun pins s σ H Q I q => wpAny_tests_one (h pins s σ H Q I q)

/-! ### the comprehension -/
def CompI (J : It) (g : TG) (ti : TT) (te : TE) (σc : St) (H1 : Hp) (Q : VK) : Prop := ∃ W : Nat → Nat → List V → Hp → Prop, (∃ m, W 0 m [] H1) ∧ ∀ i m ys H, W i m ys H → ys.length < sizeLine ∧
  ((J.stop i H ∧ ∀ l, H l = none → Q (.ref l) (upd H l (.lst ys))) ∨ (J.go i H ∧ ∃ M : List V → Hp → Prop, (∀ ys' H', M ys' H' → ∃ m', m' < m ∧ W (i + 1) m' ys' H') ∧
    ∀ x H', J.yld i H x H' → g x σc H' fun σ2 H2 => ti σ2 H2 fun b H3 => if b = true then te σ2 H3 fun y H4 => M (ys ++ [y]) H4 else M ys H3))
def tComp (fr : List (Option Nat)) (wi : TI) (g : TG) (ti : TT) (te : TE) : TE := fun σ H Q => wi σ H fun J H1 => CompI J g ti te (stC fr σ) H1 Q
structure Aside (X : Cx) (pins : List (Addr × Obj)) (H : Hp) (C : Addr) : Prop where
  fr : H C = none
  ne : C ≠ X.env.locals
  ab : X.s₀.heap.objs.size ≤ C
  cl : ∀ x c, X.env.cells.lookup x = some c → c ≠ C
  pn : ∀ p ∈ X.pn ++ pins, p.1 ≠ C
theorem Inv.aside {X : Cx} {pins : List (Addr × Obj)} {σ : St} {H H' : Hp} {s : Shared} {C : Addr} (I : Inv X pins σ H s) (hC : s.heap.objs.size ≤ C) (hn : H' C = none) : Aside X pins H' C := by
  obtain ⟨a, b, c, d, e, f⟩ := I.fpOk hC hn
  exact ⟨hn, b, Nat.le_trans I.sz hC, e, f⟩
def lob (us : List Value) (n : Nat) : Obj := { cls := .type "list", dict := none, data := .seq us.toArray n }
section
variable {X : Cx} {scope : Scope} {N : List Str} {fr : List (Option Nat)} {tg iter elt : Expr} {ifs : List Expr} {pos : Pos} {J : It} {g : TG} {ti : TT} {te : TE}
theorem comp_core {pins : List (Addr × Obj)} {σ : St} {H : Hp} {s₂ : Shared} {it : Addr} {fp : List Addr} {tn : Nat → Heap → Prop} {Q : VK} {E : Value → Shared → Prop} (c : CompOk X scope N fr) (hc : X.calm = true) (I : Inv X pins σ H s₂)
    (T : Turn X.prog X.w X.K tg J fp it tn) (st : tn 0 s₂.heap) (hfp : ∀ b ∈ fp, FpOk X pins H b)
    (hg : ∀ C, PG (cxC X scope C N s₂ H fp) tg g) (hi : ∀ C, PIfs (cxC X scope C N s₂ H fp) ifs ti) (he : ∀ C, PE (cxC X scope C N s₂ H fp) elt te) (gw : GW fr g) (hq : CompI J g ti te (stC fr σ) H Q)
    {RR : Value → Addr → Result → Shared → Prop}
    (hRR : ∀ D C H' ys s', Inv X pins σ (upd H' D (.lst ys)) s' → Aside X pins (upd H' D (.lst ys)) C → (∃ m, s'.heap.Ns C m) → Q (.ref D) (upd H' D (.lst ys)) → RR (.ref D) C (.ok .next) s') :
    wpAny (model X.prog X.w) X.A (newList []) (fun acc s₃ => wpAny (model X.prog X.w) X.A (newFunctionEnv scope X.env.globals (clOf X.env scope.names []) [] X.env.qual none .none (some X.env)) (fun cenv s₄ =>
      codeAny (model X.prog X.w) X.A (.compStart (.ListComp elt [⟨tg, iter, ifs, 0⟩] scope pos) 0 (.ref it) acc { cenv with scope := relabel scope X.env }) (RR acc cenv.locals) s₄) E s₃) E s₂ := by
  refine wpAny_newObj_type (wpAny_newFunctionEnv c.ncell (by intro y hy; simp at hy) (fun h₁ hns₁ hsb₁ => ?_) c.kind)
  dsimp only at hns₁ hsb₁ ⊢
  generalize hH2 : s₂.heap.push { cls := .type "list", dict := none, data := .seq ([] : List Value).toArray } = H2 at hns₁ hsb₁ ⊢
  have hC : H2.objs.size = s₂.heap.objs.size + 1 := by rw [← hH2, Heap.size_push]
  have hCle : s₂.heap.objs.size ≤ H2.objs.size := by rw [hC]; exact Nat.le_succ _
  have hDC : s₂.heap.objs.size ≠ H2.objs.size := by rw [hC]; exact Nat.ne_of_lt (Nat.lt_succ_self _)
  have old : ∀ b o, s₂.heap.get? b = some o → h₁.get? b = some o := fun b o e => hsb₁.extBut b o (by rw [hC]; exact Nat.ne_of_lt (Nat.lt_succ_of_lt (Heap.lt_size e))) (Heap.get?_push_of_some _ (hH2 ▸ Heap.get?_push_of_some _ e))
  have hacc : h₁.get? s₂.heap.objs.size = some (lob [] 0) := hsb₁.extBut _ _ hDC (Heap.get?_push_of_some _ (hH2 ▸ Heap.get?_push_size _ rfl))
  generalize hD : s₂.heap.objs.size = D at *
  generalize hCC : H2.objs.size = C at *
  have hfp2 : ∀ b ∈ fp, FpOk X pins H b ∧ b < s₂.heap.objs.size := fun b hb => ⟨hfp b hb, by obtain ⟨o, e, _⟩ := T.obj _ _ st b hb; exact Heap.lt_size e⟩
  have hns₂ : h₁.Ns C fun _ => none := hns₁
  have I0 : Inv (cxC X scope C N s₂ H fp) [] (stC fr σ) H { s₂ with heap := h₁, toks := s₂.toks + ([] : List (Str × Value)).length } := comp_inv c I (by rw [hD]; exact hCle) hfp2 old hns₂
  have st₁ : tn 0 h₁ := T.keep _ _ _ st fun b hb o e => old b o e
  have hDn : ∀ b ∈ fp, b ≠ D := fun b hb => by rw [← hD]; exact Nat.ne_of_lt (hfp2 b hb).2
  -- what is true of the list that grows
  have dAs : ∀ {H' : Hp}, H' D = none → (D ≠ (cxC X scope C N s₂ H fp).env.locals ∧ (cxC X scope C N s₂ H fp).s₀.heap.objs.size ≤ D ∧ ∀ x a, (cxC X scope C N s₂ H fp).env.cells.lookup x = some a → a ≠ D) := fun hn => ⟨hDC, Nat.le_of_eq hD, fun x a e z => by
    obtain ⟨v, o, ho, _⟩ := I.cell x a (c.get I.ok e)
    have := Heap.lt_size ho
    rw [z, ← hD] at this
    exact Nat.lt_irrefl _ this⟩
  obtain ⟨W, ⟨m0, w0⟩, turn⟩ := hq
  have loop : codeAny (model X.prog X.w) X.A (.compLoop (.ListComp elt [⟨tg, iter, ifs, 0⟩] scope pos) 0 (.ref it) (.ref D) (compEnvC scope (clOf X.env scope.names []) C X.env)) (RR (.ref D) C) { s₂ with heap := h₁, toks := s₂.toks + ([] : List (Str × Value)).length } := by
    refine compLoop_any (fun n s' => ∃ i ys us k H', Inv (cxC X scope C N s₂ H fp) [] (stC fr σ) H' s' ∧ tn i s'.heap ∧ (∀ b ∈ fp, H' b = none) ∧ s'.heap.get? D = some (lob us k) ∧ Vals ys us ∧ H' D = none ∧ W i n ys H') ?_ m0
      ⟨0, [], [], 0, H, I0, st₁, fun b hb => (hfp b hb).1, hacc, .nil, by rw [← hD]; exact I.hok.fresh (Nat.le_refl _), w0⟩
    rintro n s3 ⟨i, ys, us, k, H3, I3, st3, fr3, hD3, rv3, hDn3, w3⟩
    obtain ⟨hlen, alt⟩ := turn i n ys H3 w3
    obtain ⟨d1, d2, d3⟩ := dAs hDn3
    -- the list pinned
    have I3p : Inv (cxC X scope C N s₂ H fp) [(D, lob us k)] (stC fr σ) H3 s3 := I3.pins_of fun p hp => by
      have e : p = (D, lob us k) := by simpa using hp
      subst e
      refine ⟨hD3, hDn3, d1, fun z => ?_, fun v e => by cases (show Data.seq us.toArray k = Data.cell v from e)⟩
      have z' : D ∈ frs X.stack := z
      rcases List.mem_cons.mp (I.stkSub D z') with e | e
      · have := I.lt
        rw [← e, ← hD] at this
        exact Nat.lt_irrefl _ this
      · exact I.nofs (Nat.le_of_eq hD) e
    have stat : ∀ {H' : Hp}, (∀ b ∈ fp, H' b = none) → ∀ b ∈ fp, FpOk (cxC X scope C N s₂ H fp) [(D, lob us k)] H' b := fun hn b hb => by
      obtain ⟨q1, q2⟩ := hfp2 b hb
      refine ⟨hn b hb, Nat.ne_of_lt (Nat.lt_of_lt_of_le q2 (by rw [hD]; exact hCle)), fun z => ?_, .inl hb, fun x a e => q1.2.2.2.2.1 x a (c.get I.ok e), fun p hp => ?_⟩
      · exact (comp_ok c I (by rw [hD]; exact hCle) hfp2).exfs b hb z
      · have e : p = (D, lob us k) := by simpa [cxC] using hp
        subst e
        exact (hDn b hb).symm
    rcases alt with ⟨stop, qn⟩ | ⟨go, M, hM, step⟩
    · refine thn (T.done (cxC X scope C N s₂ H fp) rfl rfl rfl hc i _ s3 _ H3 _ I3p (stat fr3) st3 stop) fun r s4 ⟨hr, I4⟩ => ?_
      subst hr
      have pD := (I4.pin (D, lob us k) (by simp)).1
      have I4' : Inv (cxC X scope C N s₂ H fp) [] (stC fr σ) H3 s4 := I4.pins_of fun p hp => absurd hp (by simp)
      have IX : Inv X pins σ H3 s4 := I.call' I4'.os I4'.base I4'.hok I4'.bare fun b hb => by
        obtain ⟨q1, q2, q3, q4, q5, q6⟩ := hfp b hb
        exact ⟨q4, q2, q5, q6⟩
      have aD : Aside X pins H3 D := I.aside (Nat.le_of_eq hD) hDn3
      have IT : Inv X pins σ (upd H3 D (.lst ys)) s4 := IX.track hDn3 aD.ne aD.ab aD.cl aD.pn ⟨Nat.le_of_lt hlen, us, k, rv3, pD⟩
      refine hRR D C H3 ys s4 IT ?_ ?_ (qn D hDn3)
      · refine I.aside (by rw [hD]; exact hCle) ?_
        rw [upd_ne (Ne.symm hDC)]
        exact I4'.free
      · obtain ⟨m, hm, _⟩ := I4'.loc
        exact ⟨m, hm⟩
    · refine thn (T.item (cxC X scope C N s₂ H fp) rfl rfl rfl hc i _ s3 _ H3 _ I3p (stat fr3) st3 go) fun r s4 ⟨u, hr, h4⟩ => ?_
      subst hr
      refine thn h4 fun _ s5 ⟨x, H5, I5, r5, y5, st5, fr5⟩ => ?_
      have I5' := I5.pinned (stat fr5) (T.obj _ _ st5)
      refine thn (hg C _ s5 _ H5 x u _ I5' r5 (gw x _ H5 _ _ (fun σ2 H2 wk q => And.intro wk q) (step x H5 y5))) fun _ s6 ⟨σ6, H6, I6, wk6, q6⟩ => ?_
      refine thn (hi C _ s6 σ6 H6 _ I6 q6) fun ok s7 ⟨H7, I7, q7⟩ => ?_
      have back : ∀ {σ8 : St} {H8 : Hp} {s8 : Shared}, σ8 = σ6 → Inv (cxC X scope C N s₂ H fp) ([(D, lob us k)] ++ pinsAt fp s5.heap) σ8 H8 s8 → Inv (cxC X scope C N s₂ H fp) [] (stC fr σ) H8 s8 ∧ tn (i + 1) s8.heap ∧ (∀ b ∈ fp, H8 b = none) ∧ s8.heap.get? D = some (lob us k) ∧ H8 D = none := fun {σ8 H8 s8} e8 I8 => by
        subst e8
        have pf : ∀ b o, b ∈ fp → s5.heap.get? b = some o → s8.heap.get? b = some o ∧ H8 b = none := fun b o hb e => by
          have := I8.pin (b, o) (List.mem_append_right _ (List.mem_append_right _ (mem_pinsAt hb e)))
          exact ⟨this.1, this.2.1⟩
        refine ⟨(I8.pins_of (pins' := []) fun p hp => absurd hp (by simp)).weak wk6.1.symm fun a v e => ?_, T.keep _ _ _ st5 fun b hb o e => (pf b o hb e).1, fun b hb => ?_, (I8.pin (D, lob us k) (by simp)).1, (I8.pin (D, lob us k) (by simp)).2.1⟩
        · obtain ⟨j, f1, _⟩ := stC_get e
          rw [wk6.2 a j f1]
          exact e
        · obtain ⟨o, e, _⟩ := T.obj _ _ st5 b hb
          exact (pf b o hb e).2
      cases ok with
      | false =>
        obtain ⟨m', hm, w7⟩ := hM _ _ (by simpa using q7)
        obtain ⟨a1, a2, a3, a4, a5⟩ := back rfl I7
        exact ⟨m', hm, i + 1, ys, us, k, H7, a1, a2, a3, a4, rv3, a5, w7⟩
      | true =>
        have q7' : te σ6 H7 fun y H4 => M (ys ++ [y]) H4 := by simpa using q7
        refine thn (he C _ s7 σ6 H7 _ I7 q7') fun v s8 ⟨y, H8, I8, ry, q8⟩ => ?_
        obtain ⟨m', hm, w8⟩ := hM _ _ q8
        obtain ⟨a1, a2, a3, a4, a5⟩ := back rfl I8
        have hus : us.toArray.size ≤ sizeLine := by
          rw [List.size_toArray, ← rv3.length]
          exact Nat.le_of_lt hlen
        refine wpAny_list_append_plain (hsz := hus) (l := D) (items := us.toArray) ⟨_, a4⟩ fun h₅ hl₅ hs₅ => ?_
        obtain ⟨k', hl₅'⟩ := hl₅
        obtain ⟨e1, e2, e3⟩ := dAs a5
        refine ⟨m', hm, i + 1, ys ++ [y], us ++ [v], k', H8, a1.turned (t' := s8.toks) (fun b o hb e => (hs₅.2 b hb).trans e) a5 e1 (.inr e2) e3 (fun p hp => absurd (show p ∈ ([] : List (Addr × Obj)) from hp) (by simp)), T.keep _ _ _ a2 fun b hb o e => (hs₅.2 b (hDn b hb)).trans e, a3, ?_, rv3.append (.cons ry .nil), a5, w8⟩
        show h₅.get? D = _
        rw [hl₅']
        simp [lob]
  exact codeAny_compStart_list loop (T.self _ _ _ _ _ st₁ loop)

theorem pe_comp {wi : TI} (c : CompOk X scope N fr) (hc : X.calm = true) (hi : PI X tg iter wi) (hg : ∀ C s₂ H fp, PG (cxC X scope C N s₂ H fp) tg g) (hf : ∀ C s₂ H fp, PIfs (cxC X scope C N s₂ H fp) ifs ti) (he : ∀ C s₂ H fp, PE (cxC X scope C N s₂ H fp) elt te) (gw : GW fr g)
    (hs : ∀ x, foldedSetIterable iter X.env x = pure x := by intro _; rfl) : PE X (.ListComp elt [⟨tg, iter, ifs, 0⟩] scope pos) (tComp fr wi g ti te) := by
  intro pins s σ H Q I h
  rw [eval_ListComp]
  refine wpAny_comprehension_free (use := none) rfl hs (closure_eq (c.cells I.ok)) c.kind c.names (thn (hi pins s σ H _ I h) fun v s1 h1 => thn h1 fun itv s2 h2 => ?_)
  obtain ⟨it, fp, tn, J, H2, e, I2, T, st2, f2, q⟩ := h2
  subst e
  refine comp_core (RR := fun acc C => compPost (model X.prog X.w) X.A X.xe none (EP X pins σ Q) acc C) c hc I2 T st2 f2 (fun C => hg C _ _ _) (fun C => hf C _ _ _) (fun C => he C _ _ _) gw q ?_
  intro D C H' ys s' IT as hm q
  obtain ⟨m, hm⟩ := hm
  exact ⟨m, hm, fun h' sb => ⟨.ref D, _, IT.turned (t' := s'.toks) (fun b o hb e => (sb.2 b hb).trans e) as.fr as.ne (.inr as.ab) as.cl as.pn, rfl, q⟩⟩
theorem ps_setC {wi : TI} {i : Nat} {x : Str} {pos' spos : Pos} (hN : X.N.Nodup) (hn : X.N[i]? = some x) (hx : Loc X.env.scope x) (c : CompOk X scope N fr) (hc : X.calm = true) (hi : PI X tg iter wi) (hg : ∀ C s₂ H fp, PG (cxC X scope C N s₂ H fp) tg g) (hf : ∀ C s₂ H fp, PIfs (cxC X scope C N s₂ H fp) ifs ti) (he : ∀ C s₂ H fp, PE (cxC X scope C N s₂ H fp) elt te) (gw : GW fr g)
    (hsw : swapsWith (.ListComp elt [⟨tg, iter, ifs, 0⟩] scope pos) (some (.Name x pos')) spos.line X.env = pure true := by rfl) (hs : ∀ x, foldedSetIterable iter X.env x = pure x := by intro _; rfl)
    (hfl : X.fn x = true ∨ X.env.scope.names.lookup x = some .local := by first | exact .inl rfl | exact .inr rfl | assumption) :
    PS X (.Assign [.Name x pos'] (.ListComp elt [⟨tg, iter, ifs, 0⟩] scope pos) spos) (tAsg (tComp fr wi g ti te) (gName i)) := by
  intro pins s σ H Q I h
  rw [exec_Assign_Name_used _ _ _ _ hsw]
  refine wpAny_bind (wpAny_standAt (wpAny_bind ?_))
  show wpAny _ X.A (do let _ ← comprehension (.ListComp elt [⟨tg, iter, ifs, 0⟩] scope pos) scope X.env _ (newList []) false (eval iter X.env) (some (assign (.Name x pos') X.env))) _ _ s
  refine wpAny_bind (wpAny_mono (wpAny_comprehension_free (use := some (assign (.Name x pos') X.env)) (Q := fun _ s' => SP X pins Q .next s') rfl hs (closure_eq (c.cells I.ok)) c.kind c.names
    (thn (hi pins s σ H _ I h) fun v s1 h1 => thn h1 fun itv s2 h2 => ?_)) (fun _ s' hq => wpAny_pure (wpAny_pure hq)) fun _ _ e => e)
  obtain ⟨it, fp, tn, J, H2, e, I2, T, st2, f2, q⟩ := h2
  subst e
  refine comp_core (RR := fun acc C => compPost (model X.prog X.w) X.A X.xe (some (assign (.Name x pos') X.env)) (fun _ s' => SP X pins Q .next s') acc C) c hc I2 T st2 f2 (fun C => hg C _ _ _) (fun C => hf C _ _ _) (fun C => he C _ _ _) gw q ?_
  intro D C H' ys s' IT as hm q
  obtain ⟨m, hm⟩ := hm
  show wpAny _ X.A (assign (.Name x pos') X.env (.ref D)) _ _ _
  refine wpAny_assign_Name (store_ok2 IT hN hn hx (v := .ref D) rfl (fun s2 I3 hsb => ?_) hfl)
  obtain ⟨a, sb, ha⟩ := hsb
  have hne : C ≠ a := by
    rcases ha with ha | ha
    · rw [ha]; exact as.ne
    · exact (as.cl _ _ ha).symm
  refine ⟨m, hm.sameBut sb hne, fun h' sb' => ⟨_, _, I3.turned (t' := s2.toks) (fun b o hb e => (sb'.2 b hb).trans e) as.fr as.ne (.inr as.ab) as.cl as.pn, q⟩⟩
end
end L2

set_option Elab.async false
set_option linter.all false
set_option maxRecDepth 100000
namespace L2
open PySem PySem.Spec PyProof.Rows

/-- several untracked records of ours have turned -/
theorem Inv.turnedL {X : Cx} {pins : List (Addr × Obj)} {σ : St} {H : Hp} {s : Shared} {h' : Heap} {t' : Nat} {fp : List Addr} (I : Inv X pins σ H s) (hf : ∀ b ∈ fp, FpOk X pins H b) (k : ∀ b o, b ∉ fp → s.heap.get? b = some o → h'.get? b = some o) :
    Inv X pins σ H { s with heap := h', toks := t' } := by
  have nit : ∀ b u, H b = some u → b ∉ fp := fun b u e z => by rw [(hf b z).1] at e; cases e
  refine I.step (g' := s.gens) (d' := s.drawn) (ch := fp) (fun b hb => ?_) (fun b o _ _ hc e _ => k b o hc e) (fun b o _ _ hc e _ => ⟨o.slots, k b o hc e⟩) (fun _ _ _ _ n => n)
    (fun b o hc e => ⟨o, k b o hc e⟩) (fun _ _ e => e) (fun _ _ _ e => e) (fun b ps e => ⟨#[], by rw [e]; simp⟩) (fun m hm => ?_) (fun b u e => ?_) I.bare
  · obtain ⟨q1, q2, q3, q4, q5, q6⟩ := hf b hb
    exact ⟨q4, q2, q5, q6⟩
  · obtain ⟨o, es, ep, ho, r⟩ := hm
    exact ⟨o, es, ep, k _ o (fun z => (hf _ z).2.1 rfl) ho, r⟩
  · refine (I.hok b u e).stay (fun c v hc q => k c v ?_ q) (fun _ q => q) fun _ _ q => q
    rcases hc with z | z
    · rw [z]; exact nit b u e
    · exact nit c _ z
/-- .. and a tuple is new -/
theorem Inv.turnT {X : Cx} {pins : List (Addr × Obj)} {σ : St} {H : Hp} {s : Shared} {h' : Heap} {t' : Nat} {fp : List Addr} {T : Addr} {xs : List V} {its : List Value} (I : Inv X pins σ H s) (hf : ∀ b ∈ fp, FpOk X pins H b) (k : ∀ b o, b ∉ fp → s.heap.get? b = some o → h'.get? b = some o)
    (hT : s.heap.objs.size ≤ T) (hz : xs.length ≤ sizeLine) (r : Vals xs its) (it : IsTup h' T its.toArray) : Inv X pins σ (upd H T (.tup xs)) { s with heap := h', toks := t' } := by
  have hn : H T = none := I.hok.fresh hT
  have a := I.aside hT hn
  exact (I.turnedL (t' := t') hf k).track hn a.ne a.ab a.cl a.pn ⟨hz, its, r, it⟩

/-! ### zip of two lists -/
def Itz (K : PySem.W.Frag) (a b : Addr) : It :=
  ⟨fun i H => ∃ xs ys x y, SqL K H a xs ∧ SqL K H b ys ∧ xs[i]? = some x ∧ ys[i]? = some y,
   fun i H v H' => ∃ T x y, v = .ref T ∧ H T = none ∧ H' = upd H T (.tup [x, y]) ∧ (∀ xs, SqL K H a xs → xs[i]? = some x) ∧ ∀ ys, SqL K H b ys → ys[i]? = some y,
   fun i H => ∃ xs ys, SqL K H a xs ∧ SqL K H b ys ∧ (xs.length ≤ i ∨ ys.length ≤ i)⟩
def ZipSt (z TI TO i1 i2 a b : Addr) (i : Nat) (h : Heap) : Prop := IsZip h z TI TO .none ∧ IsPair h TI (.ref i1) (.ref i2) ∧ (∃ u v, IsPair h TO u v) ∧ h.IsListIter i1 a i ∧ h.IsListIter i2 b i
theorem turn_zip {P : Program} {w : World} {K : PySem.W.Frag} {elts : List Expr} {kk : Nat} {tp : Pos} {z TI TO i1 i2 a b : Addr} (D : ZipApart z TI TO i1 i2 a b) :
    Turn P w K (.Tuple elts kk tp) (Itz K a b) [z, TI, TO, i1, i2] z (ZipSt z TI TO i1 i2 a b) where
  mem := by simp
  obj := fun i h st c hc => by
    obtain ⟨h1, h2, ⟨u, v, h3⟩, ⟨o1, e1, _, d1⟩, ⟨o2, e2, _, d2⟩⟩ := st
    simp only [List.mem_cons, List.not_mem_nil, or_false] at hc
    rcases hc with rfl | rfl | rfl | rfl | rfl
    · exact ⟨_, h1, fun v z => by cases (show Data.fields _ = Data.cell v from z)⟩
    · exact ⟨_, h2, fun v z => by cases (show Data.seq _ _ = Data.cell v from z)⟩
    · exact ⟨_, h3, fun v z => by cases (show Data.seq _ _ = Data.cell v from z)⟩
    · exact ⟨_, e1, fun v z => by rw [d1] at z; cases z⟩
    · exact ⟨_, e2, fun v z => by rw [d2] at z; cases z⟩
  keep := fun i h h' st k => by
    obtain ⟨h1, h2, ⟨u, v, h3⟩, h4, h5⟩ := st
    exact ⟨k _ (by simp) _ h1, k _ (by simp) _ h2, ⟨u, v, k _ (by simp) _ h3⟩, h4.at fun o e => k _ (by simp) o e, h5.at fun o e => k _ (by simp) o e⟩
  item := by
    intro X hP hw hK hc i pins s σ H E I hf st hg
    subst hP hw hK
    obtain ⟨xs, ys, x, y, hx, hy, ex, ey⟩ := hg
    obtain ⟨h1, h2, ⟨u, v, h3⟩, h4, h5⟩ := st
    obtain ⟨its, rv, p, hz⟩ := I.list hx
    obtain ⟨jts, rw', q, hz'⟩ := I.list hy
    obtain ⟨ux, hux, rux⟩ := rv.get ex
    obtain ⟨uy, huy, ruy⟩ := rw'.get ey
    refine wpAny_pyNext_zip_item D h1 h2 h3 h4 h5 p.isList q.isList (x := ux) (y := uy) (by simpa using hux) (by simpa using huy) fun h' a1 a2 a3 a4 a5 a6 a7 => ?_
    have lt : ∀ c ∈ [z, TI, TO, i1, i2], c < s.heap.objs.size := fun c hc => by
      obtain ⟨o1, e1, _⟩ := h4
      obtain ⟨o2, e2, _⟩ := h5
      simp only [List.mem_cons, List.not_mem_nil, or_false] at hc
      rcases hc with rfl | rfl | rfl | rfl | rfl
      · exact Heap.lt_size h1
      · exact Heap.lt_size h2
      · exact Heap.lt_size h3
      · exact Heap.lt_size e1
      · exact Heap.lt_size e2
    have zT : z ≠ s.heap.objs.size := Nat.ne_of_lt (lt z (by simp))
    refine ⟨_, rfl, wpAny_letOwnedTupleGo_zip a1 fun h2' b1 b2 => ?_⟩
    have hk : ∀ c o, c ∉ [z, TI, TO, i1, i2] → s.heap.get? c = some o → h2'.get? c = some o := fun c o hc e => by
      simp only [List.mem_cons, List.not_mem_nil, or_false, not_or] at hc
      exact (b2.2 c hc.1).trans (a7 c o hc.1 hc.2.2.1 hc.2.2.2.1 hc.2.2.2.2 e)
    have I1 := I.turnT (h' := h2') (t' := s.toks) (T := s.heap.objs.size) (xs := [x, y]) (its := [ux, uy]) hf hk (Nat.le_refl _) (szl (Nat.le_of_ble_eq_true rfl)) (.cons rux (.cons ruy .nil)) ⟨_, (b2.2 _ zT.symm).trans a5, rfl, _, rfl⟩
    refine ⟨.ref s.heap.objs.size, _, I1, rfl, ⟨_, x, y, rfl, I.hok.fresh (Nat.le_refl _), rfl, fun xs' h => by rw [I.list_inj h hx]; exact ex, fun ys' h => by rw [I.list_inj h hy]; exact ey⟩, ?_, fun c hc => ?_⟩
    · exact ⟨b1, (b2.2 _ D.TIz).trans (a7 _ _ D.TIz D.TITO D.TIi1 D.TIi2 h2), ⟨_, _, (b2.2 _ D.TOz).trans a2⟩, a3.at fun o e => (b2.2 _ D.i1z).trans e, a4.at fun o e => (b2.2 _ D.i2z).trans e⟩
    · rw [upd_ne (Nat.ne_of_lt (lt c hc))]
      exact (hf c hc).1
  done := by
    intro X hP hw hK hc i pins s σ H E I hf st hg
    subst hP hw hK
    obtain ⟨xs, ys, hx, hy, hl⟩ := hg
    obtain ⟨h1, h2, ⟨u, v, h3⟩, h4, h5⟩ := st
    obtain ⟨its, rv, p, hz⟩ := I.list hx
    obtain ⟨jts, rw', q, hz'⟩ := I.list hy
    have l1 := rv.length
    have l2 := rw'.length
    refine wpAny_pyNext_zip_end (I.ok.hd hc) D h1 h2 h3 h4 h5 p.isList q.isList ?_ fun h' hk => ⟨rfl, ?_⟩
    · rcases hl with hl | hl
      · left; simp; omega
      · right; simp; omega
    · exact I.turnedL (t' := s.toks) hf fun c o hc e => by
        simp only [List.mem_cons, List.not_mem_nil, or_false, not_or] at hc
        exact hk c o hc.1 hc.2.2.1 hc.2.2.2.1 hc.2.2.2.2 e
  self := fun A i s Q E st h => wpAny_pyIter_zip st.1 h
def iZip2 (K : PySem.W.Frag) (ta : TA) : TI := fun σ H R => ta σ H fun vs H1 => ∃ a b, vs = [.ref a, .ref b] ∧ (∃ xs, SqL K H1 a xs) ∧ (∃ ys, SqL K H1 b ys) ∧ R (Itz K a b) H1
theorem bt_zip : bootBuiltins "zip" = some (.type "zip") := by first | exact PySem.boot_zip | exact PyProof.Rows.boot_zip
theorem bt_enumerate : bootBuiltins "enumerate" = some (.type "enumerate") := by first | exact PySem.boot_enumerate | exact PyProof.Rows.boot_enumerate
section
variable {X : Cx} {elts : List Expr} {kk : Nat} {tp : Pos}
end

/-! ### enumerate of a list -/
def Ite (K : PySem.W.Frag) (a : Addr) : It :=
  ⟨fun i H => ∃ xs x, SqL K H a xs ∧ xs[i]? = some x,
   fun i H v H' => ∃ T x, v = .ref T ∧ H T = none ∧ H' = upd H T (.tup [.int i, x]) ∧ (∀ xs, SqL K H a xs → xs[i]? = some x),
   fun i H => ∃ xs, SqL K H a xs ∧ xs.length ≤ i⟩
theorem turn_enum {P : Program} {w : World} {K : PySem.W.Frag} {elts : List Expr} {kk : Nat} {tp : Pos} {e it a : Addr} (hei : e ≠ it) :
    Turn P w K (.Tuple elts kk tp) (Ite K a) [e, it] e (fun i h => (∃ old, IsEnum h e it i old) ∧ h.IsListIter it a i) where
  mem := by simp
  obj := fun i h st c hc => by
    obtain ⟨⟨old, h1⟩, ⟨o1, e1, _, d1⟩⟩ := st
    simp only [List.mem_cons, List.not_mem_nil, or_false] at hc
    rcases hc with rfl | rfl
    · exact ⟨_, h1, fun v z => by cases (show Data.fields _ = Data.cell v from z)⟩
    · exact ⟨_, e1, fun v z => by rw [d1] at z; cases z⟩
  keep := fun i h h' st k => by
    obtain ⟨⟨old, h1⟩, h2⟩ := st
    exact ⟨⟨old, k _ (by simp) _ h1⟩, h2.at fun o e => k _ (by simp) o e⟩
  item := by
    intro X hP hw hK hc i pins s σ H E I hf st hg
    subst hP hw hK
    obtain ⟨xs, x, hx, ex⟩ := hg
    obtain ⟨⟨old, h1⟩, h2⟩ := st
    obtain ⟨its, rv, p, hz⟩ := I.list hx
    obtain ⟨ux, hux, rux⟩ := rv.get ex
    refine wpAny_pyNext_enum_item h1 h2 p.isList (x := ux) (by simpa using hux) hei fun h' a1 a2 a3 a4 a5 => ?_
    have lt : ∀ c ∈ [e, it], c < s.heap.objs.size := fun c hc => by
      obtain ⟨o1, e1, _⟩ := h2
      simp only [List.mem_cons, List.not_mem_nil, or_false] at hc
      rcases hc with rfl | rfl
      · exact Heap.lt_size h1
      · exact Heap.lt_size e1
    have eT : e ≠ s.heap.objs.size := Nat.ne_of_lt (lt e (by simp))
    refine ⟨_, rfl, wpAny_letOwnedTupleGo_enum (s := { s with heap := h', toks := s.toks + 1 }) a1 fun h2' b1 b2 => ?_⟩
    have hk : ∀ c o, c ∉ [e, it] → s.heap.get? c = some o → h2'.get? c = some o := fun c o hc q => by
      simp only [List.mem_cons, List.not_mem_nil, or_false, not_or] at hc
      exact (b2.2 c hc.1).trans (a5 c o hc.1 hc.2 q)
    have I1 := I.turnT (h' := h2') (t' := s.toks + 1) (T := s.heap.objs.size) (xs := [.int i, x]) (its := [.int i s.toks, ux]) hf hk (Nat.le_refl _) (szl (Nat.le_of_ble_eq_true rfl)) (.cons ⟨_, rfl⟩ (.cons rux .nil)) ⟨_, (b2.2 _ eT.symm).trans a3, rfl, _, rfl⟩
    refine ⟨.ref s.heap.objs.size, _, I1, rfl, ⟨_, x, rfl, I.hok.fresh (Nat.le_refl _), rfl, fun xs' h => by rw [I.list_inj h hx]; exact ex⟩, ?_, fun c hc => ?_⟩
    · exact ⟨⟨ux, by simpa using b1⟩, a2.at fun o q => (b2.2 _ hei.symm).trans q⟩
    · rw [upd_ne (Nat.ne_of_lt (lt c hc))]
      exact (hf c hc).1
  done := by
    intro X hP hw hK hc i pins s σ H E I hf st hg
    subst hP hw hK
    obtain ⟨xs, hx, hl⟩ := hg
    obtain ⟨⟨old, h1⟩, h2⟩ := st
    obtain ⟨its, rv, p, hz⟩ := I.list hx
    have l1 := rv.length
    refine wpAny_pyNext_enum_end (I.ok.hd hc) h1 h2 p.isList (by simp; omega) fun h' hk => ⟨rfl, ?_⟩
    exact I.turnedL (t' := s.toks) hf fun c o hc q => by
        simp only [List.mem_cons, List.not_mem_nil, or_false, not_or] at hc
        exact hk c o hc.2 q
  self := fun A i s Q E st h => by
    obtain ⟨⟨old, h1⟩, _⟩ := st
    exact wpAny_pyIter_enum h1 h
def iEnum (K : PySem.W.Frag) (ta : TA) : TI := fun σ H R => ta σ H fun vs H1 => ∃ a, vs = [.ref a] ∧ (∃ xs, H1 a = some (.lst xs)) ∧ R (Ite K a) H1
section
variable {X : Cx} {elts : List Expr} {kk : Nat} {tp : Pos}
theorem pi_enumerate1 {a : Expr} {ta : TA} {p pos : Pos} (hg : Gl X "enumerate") (hm : X.mg "enumerate" = none) (ha : PA X [a] ta) (hs : starEach [a] X.env = [(false, eval a X.env)] := by rfl) :
    PI X (.Tuple elts kk tp) (.Call (.Name "enumerate" p) [a] [] pos) (iEnum X.K ta) := by
  intro pins s σ H R I h
  refine Call_ (ld_blt I hg hm bt_enumerate (PyProof.Rows.callWith_type1 (thn (ha pos pins s σ H _ I h) fun us s1 ⟨vs, H1, I1, r1, q1⟩ => ?_) hs rfl))
  obtain ⟨x, e, ⟨xs, hx⟩, q⟩ := q1
  subst e
  cases r1 with
  | cons r rr =>
    cases rr
    cases r
    obtain ⟨hz, its, n, rv, hg⟩ := (show ObjOk X.prog X.w H1 s1.heap x (.lst xs) from I1.hok x _ hx)
    refine call_enumerate_1 hg fun h' b1 b2 b3 b4 => ?_
    have I2 : Inv X pins σ H1 { s1 with heap := h' } := I1.kept (t' := s1.toks) b4
    refine wpAny_pyIter_enum (s := { s1 with heap := h' }) b1 ⟨_, _, _, _, H1, rfl, I2, turn_enum (Nat.ne_of_gt (Nat.lt_succ_self _)), ⟨⟨_, b1⟩, b2⟩, fun c hc => ?_, q⟩
    have hc' : s1.heap.objs.size ≤ c := by
      simp only [List.mem_cons, List.not_mem_nil, or_false] at hc
      rcases hc with rfl | rfl
      · exact Nat.le_add_right _ _
      · exact Nat.le_refl _
    exact I1.fpOk hc' (I1.hok.fresh hc')
end
end L2

set_option Elab.async false
set_option linter.all false
set_option maxRecDepth 100000
namespace L2
open PySem PySem.Spec PyProof.Rows
section
variable {prog : Program} {w : World} {A : Around} {E : Value → Shared → Prop} {s : Shared}
theorem min_raw {l : Addr} {vs : List Value} {ns : List Int} {Q : Value → Shared → Prop} (hh : A.handled = none) (hl : s.heap.IsList l vs.toArray) (hi : IntsAre vs ns) (hne : 0 < ns.length)
    (h : ∀ h' M (t : Tok) tk, (∀ b o, s.heap.get? b = some o → h'.get? b = some o) → M ∈ ns → (∀ a, a ∈ ns → M ≤ a) → Q (.int M t) { s with heap := h', toks := tk }) : wpAny (model prog w) A (call (.builtin "min") [.ref l]) Q E s := by
  obtain ⟨xs, e⟩ := hi.allInts.items
  have hns : ns = xs.toList.map (·.1) := by
    rw [← hi.numsOf, ← nums_intItems, ← e]
  have hsz : 0 < xs.size := by
    have h3 := hne; rw [hns, List.length_map, Array.length_toList] at h3; exact h3
  rw [e] at hl
  refine min_intList hh hl hsz fun v h' tk hv hk => ?_
  obtain ⟨t, rfl⟩ := intItems_at hv
  obtain ⟨h1, h2⟩ := argBest_lt (numAt xs) (xs.size - 1)
  refine h _ _ t tk hk ?_ fun a ha => ?_
  · rw [hns, numAt_eq]; exact PySem.getD_mem (by rw [List.length_map, Array.length_toList]; omega)
  · rw [hns] at ha
    obtain ⟨j, hj, rfl⟩ := mem_getD ha
    rw [List.length_map, Array.length_toList] at hj
    rw [← numAt_eq]; exact h2 j (by omega)
theorem max_raw {l : Addr} {vs : List Value} {ns : List Int} {Q : Value → Shared → Prop} (hh : A.handled = none) (hl : s.heap.IsList l vs.toArray) (hi : IntsAre vs ns) (hne : 0 < ns.length)
    (h : ∀ h' M (t : Tok) tk, (∀ b o, s.heap.get? b = some o → h'.get? b = some o) → M ∈ ns → (∀ a, a ∈ ns → a ≤ M) → Q (.int M t) { s with heap := h', toks := tk }) : wpAny (model prog w) A (call (.builtin "max") [.ref l]) Q E s := by
  obtain ⟨xs, e⟩ := hi.allInts.items
  have hns : ns = xs.toList.map (·.1) := by
    rw [← hi.numsOf, ← nums_intItems, ← e]
  have hsz : 0 < xs.size := by
    have h3 := hne; rw [hns, List.length_map, Array.length_toList] at h3; exact h3
  rw [e] at hl
  refine max_intList hh hl hsz fun v h' tk hv hk => ?_
  obtain ⟨t, rfl⟩ := intItems_at hv
  obtain ⟨h1, h2⟩ := argBest_gt (numAt xs) (xs.size - 1)
  refine h _ _ t tk hk ?_ fun a ha => ?_
  · rw [hns, numAt_eq]; exact PySem.getD_mem (by rw [List.length_map, Array.length_toList]; omega)
  · rw [hns] at ha
    obtain ⟨j, hj, rfl⟩ := mem_getD ha
    rw [List.length_map, Array.length_toList] at hj
    rw [← numAt_eq]; exact h2 j (by omega)
end
def rSum (K : PySem.W.Frag) : List V → Hp → VK → Prop := fun xs H Q => ∃ p ns, xs = [.ref p] ∧ SqL K H p (iL ns) ∧ Q (.int ns.sum) H
def rMin (K : PySem.W.Frag) : List V → Hp → VK → Prop := fun xs H Q => (∃ i j, xs = [.int i, .int j] ∧ Q (.int (if j < i then j else i)) H) ∨ ∃ p ns, xs = [.ref p] ∧ SqL K H p (iL ns) ∧ 0 < ns.length ∧ ∀ m, m ∈ ns → (∀ a ∈ ns, m ≤ a) → Q (.int m) H
def rMax (K : PySem.W.Frag) : List V → Hp → VK → Prop := fun xs H Q => (∃ i j, xs = [.int i, .int j] ∧ Q (.int (if j > i then j else i)) H) ∨ ∃ p ns, xs = [.ref p] ∧ SqL K H p (iL ns) ∧ 0 < ns.length ∧ ∀ m, m ∈ ns → (∀ a ∈ ns, a ≤ m) → Q (.int m) H
def rSorted (K : PySem.W.Frag) : List V → Hp → VK → Prop := fun xs H Q => ∃ p ns, xs = [.ref p] ∧ SqL K H p (iL ns) ∧ ns.length < 64 ∧ ∀ l ms, H l = none → ms.Perm ns → ms.Pairwise (· ≤ ·) → Q (.ref l) (upd H l (.lst (iL ms)))
section
variable {X : Cx}
theorem call_minN (hc : X.calm = true) : CallR X (.builtin "min") (rMin X.K) := by
  intro pins s σ H xs us Q I r h
  rcases h with h | ⟨p, ns, rfl, hq, hne, q⟩
  · exact call_min2 hc pins s σ H xs us Q I r h
  · obtain ⟨u, rfl, ru⟩ := vals1 r
    cases ru
    obtain ⟨its, rv, pl, hz⟩ := I.list hq
    exact min_raw (I.ok.hd hc) pl.isList (intsAre_of rv) hne fun h' M t tk hk h1 h2 => ⟨.int M, H, I.kept (t' := tk) hk, ⟨_, rfl⟩, q M h1 h2⟩
theorem call_maxN (hc : X.calm = true) : CallR X (.builtin "max") (rMax X.K) := by
  intro pins s σ H xs us Q I r h
  rcases h with h | ⟨p, ns, rfl, hq, hne, q⟩
  · exact call_max2 hc pins s σ H xs us Q I r h
  · obtain ⟨u, rfl, ru⟩ := vals1 r
    cases ru
    obtain ⟨its, rv, pl, hz⟩ := I.list hq
    exact max_raw (I.ok.hd hc) pl.isList (intsAre_of rv) hne fun h' M t tk hk h1 h2 => ⟨.int M, H, I.kept (t' := tk) hk, ⟨_, rfl⟩, q M h1 h2⟩
end
section
variable {K : PySem.W.Frag} {H : Hp} {Q : VK} {p : Addr} {ns : List Int} {i j : Int}
theorem i_min2 (q : ∀ m, m = min i j → Q (.int m) H) : rMin K [.int i, .int j] H Q := .inl ⟨i, j, rfl, q _ (by split <;> omega)⟩
theorem i_max2 (q : ∀ m, m = max i j → Q (.int m) H) : rMax K [.int i, .int j] H Q := .inl ⟨i, j, rfl, q _ (by split <;> omega)⟩
theorem i_minL (h : SqL K H p (iL ns)) (hn : 0 < ns.length) (q : ∀ m, m ∈ ns → (∀ a ∈ ns, m ≤ a) → Q (.int m) H) : rMin K [.ref p] H Q := .inr ⟨p, ns, rfl, h, hn, q⟩
theorem i_maxL (h : SqL K H p (iL ns)) (hn : 0 < ns.length) (q : ∀ m, m ∈ ns → (∀ a ∈ ns, a ≤ m) → Q (.int m) H) : rMax K [.ref p] H Q := .inr ⟨p, ns, rfl, h, hn, q⟩
end

/-! ### loops over zip, enumerate; comprehensions by an invariant -/
section
variable {K : PySem.W.Frag} {g : TG} {tb : TS} {D : Ends} {σ : St} {H : Hp}
end
section
variable {K : PySem.W.Frag} {g : TG} {ti : TT} {te : TE} {σc : St} {H : Hp} {Q : VK}
theorem cp_list {a : Addr} {xs : List V} (Pv : Nat → List V → Hp → Prop) (h0 : Pv 0 [] H) (hl : ∀ i ys H, Pv i ys H → SqL K H a xs ∧ ys.length ≤ i) (hx : xs.length < sizeLine)
    (hs : ∀ i x ys H, xs[i]? = some x → Pv i ys H → g x σc H fun σ2 H2 => ti σ2 H2 fun b H3 => if b = true then te σ2 H3 fun y H4 => Pv (i + 1) (ys ++ [y]) H4 else Pv (i + 1) ys H3)
    (hd : ∀ l ys H, Pv xs.length ys H → H l = none → Q (.ref l) (upd H l (.lst ys))) : CompI (Itl K a) g ti te σc H Q := by
  refine ⟨fun i m ys H => m = xs.length - i ∧ i ≤ xs.length ∧ Pv i ys H, ⟨_, rfl, Nat.zero_le _, h0⟩, ?_⟩
  rintro i m ys H ⟨rfl, hi, p⟩
  obtain ⟨q, hy⟩ := hl i ys H p
  refine ⟨by omega, ?_⟩
  by_cases hlt : i < xs.length
  · refine .inr ⟨⟨xs, xs[i], q, by simp [hlt]⟩, Pv (i + 1), fun σ' H' p' => ⟨_, by omega, rfl, hlt, p'⟩, fun x H' y => ?_⟩
    obtain ⟨e, y⟩ := y
    subst e
    exact hs i x ys _ (y xs q) p
  · have e : i = xs.length := by omega
    subst e
    exact .inl ⟨⟨xs, q, Nat.le_refl _⟩, fun l hl => hd l ys H p hl⟩
end
end L2
namespace L2
open PySem PySem.Spec PyProof.Rows
theorem fr_nil {X : Cx} {sc : Scope} : FrOk X sc [] [] := trivial
theorem fr_none {X : Cx} {sc : Scope} {x : Str} {N : List Str} {fr : List (Option Nat)} (h : FrOk X sc N fr) : FrOk X sc (x :: N) (none :: fr) := h
theorem fr_some {X : Cx} {sc : Scope} {x : Str} {N : List Str} {fr : List (Option Nat)} {j : Nat} (h1 : X.N[j]? = some x) (h2 : X.env.kindOf x = some .cell ∨ X.env.kindOf x = some .free) (h3 : sc.names.lookup x = some .free) (h : FrOk X sc N fr) : FrOk X sc (x :: N) (some j :: fr) := ⟨⟨h1, h2, h3⟩, h⟩
theorem pe_globI {X : Cx} {x : Str} {n : Int} {pos : Pos} (h : ∃ t, X.mg x = some (.int n t)) (hg : Gl X x) (hd : (x == ("__debug__" : Str)) = false := by decide) : PE X (.Name x pos) (tC (.int n)) := by
  obtain ⟨t, h⟩ := h
  exact pe_glob hg h ⟨t, rfl⟩ hd
end L2
namespace L2
open PySem PySem.Spec PyProof.Rows
/-! ### the same rules with K said apart (a block's context hides it) -/
section
variable {X : Cx} (K : PySem.W.Frag) {tg l : Expr} {tl : TE} {pos p : Pos}
theorem op_eqK (hu : X.A.units + 64 < cLine) (hK : X.K = K := by rfl) : OpR X (compareOp .Eq) (rEqP K) := by subst hK; exact op_eqP hu
theorem op_neK (hu : X.A.units + 64 < cLine) (hK : X.K = K := by rfl) : OpR X (compareOp .NotEq) (rNeP K) := by subst hK; exact op_neP hu
theorem ix_K (hK : X.K = K := by rfl) : IxR X (rIxP K) := by subst hK; exact ix_P
theorem sl_listK (hK : X.K = K := by rfl) : SlR X (rSlL K) := by subst hK; exact sl_list
theorem call_lenK (hK : X.K = K := by rfl) : CallR X (.builtin "len") (rLen K) := by subst hK; exact call_lenN
theorem call_isinstanceK (hK : X.K = K := by rfl) : CallR X (.builtin "isinstance") (rIsi K) := by subst hK; exact call_isinstanceN
theorem call_listK (hK : X.K = K := by rfl) : CallR X (.type "list") (rListOf K) := by subst hK; exact call_listN
theorem call_minK (hc : X.calm = true := by rfl) (hK : X.K = K := by rfl) : CallR X (.builtin "min") (rMin K) := by subst hK; exact call_minN hc
theorem call_maxK (hc : X.calm = true := by rfl) (hK : X.K = K := by rfl) : CallR X (.builtin "max") (rMax K) := by subst hK; exact call_maxN hc
theorem call_intK : CallR X (.type "int") rIntOf := call_intN
theorem pi_listK (hl : PE X l tl) (hK : X.K = K := by rfl) : PI X tg l (iList K tl) := by subst hK; exact pi_list hl
theorem pi_enumerate1K {elts : List Expr} {kk : Nat} {tp : Pos} {a : Expr} {ta : TA} (hg : Gl X "enumerate") (hm : X.mg "enumerate" = none) (ha : PA X [a] ta) (hs : starEach [a] X.env = [(false, eval a X.env)] := by rfl) (hK : X.K = K := by rfl) :
    PI X (.Tuple elts kk tp) (.Call (.Name "enumerate" p) [a] [] pos) (iEnum K ta) := by subst hK; exact pi_enumerate1 hg hm ha hs
theorem pg_tupK {es : List Expr} {k : Nat} {t : TGs} (n : Nat) (h : PGs X es t) (hc : X.calm = true := by rfl) (hn : (assignEach es X.env).length = n := by rfl) (hst : (assignEach es X.env).findIdx? (·.1) = none := by rfl) (hK : X.K = K := by rfl) : PG X (.Tuple es k pos) (gTup K n t) := by
  subst hK; exact pg_tup hc h hn hst
theorem pt_truthK {a : Expr} {ta : TE} (ha : PE X a ta) (he : ∀ whole, isTrue a X.env whole = (do let v ← whole; standAt a.pos; holding [v] (truthy v)) := by intro _; rfl) (hK : X.K = K := by rfl) : PT X a (tTru K ta) := by
  subst hK; exact pt_truthN ha he
theorem pe_bmK {o e : Expr} {es : List Expr} {to : TE} {t : TA} {name : Str} {apos cpos : Pos} {T id : String} {r : V → List V → Hp → VK → Prop} (pa : PlainAttrs T) (slot : Slot T name id) (hty : typeOf (.builtin id) = pure (.type "method_descriptor")) (hm : MtR X id r) (ho : PE X o to) (ha : PA X (e :: es) t)
    (hbase : attributeBase o name X.env (eval o X.env) = eval o X.env := by rfl)
    (hfew : ((backTo cpos (starEach (e :: es) X.env)).all (fun x => !x.1) && (backToKw cpos (keywordEach [] X.env)).all (fun x => x.1.isSome)
      && decide ((e :: es).length + ([] : List Keyword).length + (if ([] : List Keyword).isEmpty then 0 else 1) < 30)) = true := by rfl)
    (hline : (apos.endLine == cpos.line) = true := by rfl) (hs : starEach (e :: es) X.env = (false, eval e X.env) :: starEach es X.env := by rfl) (hplain : (backTo cpos (starEach es X.env)).any (·.1) = false := by rfl) (hK : X.K = K := by rfl) :
    PE X (.Call (.Attribute o name apos) (e :: es) [] cpos) (tBM K T r to t) := by
  subst hK; exact pe_bm pa slot hty hm ho ha hbase hfew hline hs hplain
end
end L2
namespace L2
open PySem PySem.Spec PyProof.Rows
section
variable {K : PySem.W.Frag} {H : Hp} {Q : VK} {n : Nat}
theorem pd_tup {t : Addr} {ds : List PyData} {xs : List V} (h : SqT K H t xs) (p : Paired (PdAt K H n) ds xs) : PdAt K H (n + 1) (.tuple ds) (.ref t) := ⟨t, xs, rfl, h, p⟩
theorem pd_lst {t : Addr} {ds : List PyData} {xs : List V} (h : SqL K H t xs) (p : Paired (PdAt K H n) ds xs) : PdAt K H (n + 1) (.list ds) (.ref t) := ⟨t, xs, rfl, h, p⟩
theorem i_neSame {x y : V} (d : PyData) (hx : PdAt K H 9 d x) (hy : PdAt K H 9 d y) (q : Q (.bl false) H) : rNeP K x y H Q := ⟨d, d, hx, hy, by
  rw [PySem.SeqAt.eqv_refl d (pd_shape 9 d x hx).1]; exact q⟩
end
end L2
namespace L2
open PySem PySem.Spec PyProof.Rows
end L2


set_option Elab.async false
set_option linter.all false
set_option maxRecDepth 100000
namespace L2
open PySem PySem.Spec PyProof.Rows
/-- lo, lo - 1, .. (n of them) -/
def Itd (lo : Int) (n : Nat) : It := ⟨fun i _ => i < n, fun i H x H' => H' = H ∧ x = .int (lo - i), fun i _ => n ≤ i⟩
section
variable {X : Cx} {tg : Expr}
def iRng3 (ta : TA) : TI := fun σ H R => ta σ H fun vs H1 => ∃ i j : Int, vs = [.int i, .int j, .int (-1)] ∧ (-(2 ^ 62) ≤ i ∧ i < 2 ^ 62 ∧ -(2 ^ 62) ≤ j ∧ j < 2 ^ 62) ∧ R (Itd i (i - j).toNat) H1
end
section
variable {K : PySem.W.Frag} {g : TG} {tb : TS} {D : Ends} {σ : St} {H : Hp}
theorem lp_tup {a : Addr} {xs : List V} (Pv : Nat → St → Hp → Prop) (h0 : Pv 0 σ H) (hl : ∀ i σ H, i ≤ xs.length → Pv i σ H → SqT K H a xs)
    (hs : ∀ i x σ H, xs[i]? = some x → Pv i σ H → g x σ H fun σ2 H2 => tb { D with nx := Pv (i + 1), ct := Pv (i + 1), bk := D.nx } σ2 H2) (hd : ∀ σ H, Pv xs.length σ H → D.nx σ H) : LoopI (Itt K a) g tb D σ H := by
  refine ⟨fun i m σ H => m = xs.length - i ∧ i ≤ xs.length ∧ Pv i σ H, ⟨_, rfl, Nat.zero_le _, h0⟩, ?_⟩
  rintro i m σ H ⟨rfl, hi, p⟩
  have q := hl i σ H hi p
  by_cases hlt : i < xs.length
  · refine .inr ⟨⟨xs, xs[i], q, by simp [hlt]⟩, Pv (i + 1), fun σ' H' p' => ⟨_, by omega, rfl, hlt, p'⟩, fun x H' y => ?_⟩
    obtain ⟨e, y⟩ := y
    subst e
    exact hs i x σ _ (y xs q) p
  · have e : i = xs.length := by omega
    subst e
    exact .inl ⟨⟨xs, q, Nat.le_refl _⟩, hd σ H p⟩
end
section
variable {X : Cx} (K : PySem.W.Frag)
theorem pi_tupK {tg l : Expr} {tl : TE} (hl : PE X l tl) (hK : X.K = K := by rfl) : PI X tg l (iTup K tl) := by subst hK; exact pi_tup hl
/-- all of a list of truths -/
def rAll (K : PySem.W.Frag) : List V → Hp → VK → Prop := fun xs H Q => ∃ (p : Addr) (bs : List Bool), xs = [.ref p] ∧ SqL K H p (bs.map V.bl) ∧ Q (.bl (bs.all id)) H
/-- is, is not of truths -/
def rIsB (neg : Bool) : R2 := fun x y H Q => ∃ a b : Bool, x = .bl a ∧ y = .bl b ∧ Q (.bl (if neg then !decide (a = b) else decide (a = b))) H
theorem i_isB {a b : Bool} {H : Hp} {Q : VK} (q : Q (.bl (decide (a = b))) H) : rIsB false (.bl a) (.bl b) H Q := ⟨a, b, rfl, rfl, q⟩
theorem i_isNotB {a b : Bool} {H : Hp} {Q : VK} (q : Q (.bl (!decide (a = b))) H) : rIsB true (.bl a) (.bl b) H Q := ⟨a, b, rfl, rfl, q⟩
end
end L2

set_option Elab.async false
set_option linter.all false
set_option maxRecDepth 100000
/-! An exception on its way through the frames, with its own dict known to be none. -/
namespace L2
open PySem PySem.Spec PyProof.Rows
theorem dict_mapFields (o : Obj) (g : Array Value → Array Value) : (o.mapFields g).dict = o.dict := by
  rcases o with ⟨c, d, dt, sl⟩
  cases dt <;> rfl
/-- the exception at e and the head of its trace -/
def TrD (h B : Heap) (e : Addr) (cls fl : Value) : Prop :=
  ∃ oe vs T oT ts, h.get? e = some oe ∧ (oe.cls = cls ∧ oe.dict = none) ∧ oe.data = .fields vs ∧ vs[1]? = some (.ref T) ∧ B.get? T = none ∧ T ≠ e ∧ h.get? T = some oT ∧ oT.data = .fields ts ∧ ts[3]? = some fl
structure FlyAt (B : Heap) (l : List Env) (e : Addr) (cls fl : Value) (h : Heap) : Prop where
  st : B.StaysIn h
  ne : B.get? e = none
  fr : h.FunFrames B l
  tr : TrD h B e cls fl
abbrev Fly (B : Heap) (l : List Env) (e : Addr) (cls : Value) (h : Heap) : Prop := FlyAt B l e cls .none h
theorem FlyAt.there {B : Heap} {l : List Env} {e : Addr} {cls fl : Value} {h : Heap} (x : FlyAt B l e cls fl h) : ∃ o vs, h.get? e = some o ∧ o.cls = cls ∧ o.dict = none ∧ o.data = .fields vs := by
  obtain ⟨oe, vs, T, oT, ts, h1, ⟨h2, h3⟩, h4, _⟩ := x.tr
  exact ⟨oe, vs, h1, h2, h3, h4⟩
section
variable {M : Model} {A : Around} {E : Value → Shared → Prop} {s : Shared} {B : Heap} {env : Env} {outer : List Env} {L e : Addr}
theorem fly_entry {oe : Obj} {vs : Array Value} {head : Value} {had : Bool} {Q : Unit → Shared → Prop} (hfr : A.frames = some (env :: outer)) (hl : s.heap.FunFrames B (env :: outer)) (hf : env.frame = some L) (he : s.heap.get? e = some oe) (hB : B.StaysIn s.heap) (hn : B.get? e = none) (hd : oe.data = .fields vs) (hz : 1 < vs.size) (hdn : oe.dict = none)
    (k : ∀ h', FlyAt B (env :: outer) e oe.cls (rawInt L) h' → s.heap.UpToSlots h' → Q () { s with heap := h' }) :
    wpAny M A (do let fr ← frameOf env; let pl ← entryPlaceOf L had; let tb ← EntryCells.newEntry head fr .none (rawInt L) .none pl; setField (.ref e) 1 tb) Q E s := by
  have noFr : e ∉ (env :: outer).filterMap (·.frame) := fun hm => by
    obtain ⟨_, ob, hob, hno⟩ := hl.mem hm
    rw [he] at hob
    cases hob
    exact hno vs hd
  refine wpAny_bind (wpAny_frameOf_fun hfr hl hf fun ha sa => ?_)
  refine wpAny_bind (wpAny_entryPlaceOf fun pl hpl => ?_)
  unfold EntryCells.newEntry newFields
  refine wpAny_bind (wpAny_newObj_type ?_ (hpl.sizeOk5 _ _ _ _ _))
  have ea : ha.get? e = some oe := by rw [sa.2.1 e noFr]; exact he
  have Ba : B.StaysIn ha := fun b o z => by
    rw [sa.2.1 b fun hm => by rw [(hl.mem hm).1] at z; cases z]
    exact hB b o z
  generalize hO : ({ cls := .type "traceback", dict := none, data := .fields ([head, .ref L, .none, rawInt L, .none] ++ (if pl.isEmpty then List.replicate 6 Value.none else pl)).toArray } : Obj) = oT
  have hOd : oT.data = .fields ([head, .ref L, .none, rawInt L, .none] ++ (if pl.isEmpty then List.replicate 6 Value.none else pl)).toArray := by rw [← hO]
  have hOf : oT.isFreed = false := Obj.isFreed_of_fields hOd
  have eb : (ha.push oT).get? e = some oe := Heap.get?_push_of_some _ ea
  have Tb : (ha.push oT).get? ha.objs.size = some oT := Heap.get?_push_size _ hOf
  have Te : ha.objs.size ≠ e := fun z => by rw [← z] at ea; exact absurd (Heap.lt_size ea) (Nat.lt_irrefl _)
  refine wpAny_setField eb hd hz (k _ ?_ ?_)
  · have md := Obj.data_mapFields hd (·.setIfInBounds 1 (Value.ref ha.objs.size))
    have ec := Heap.get?_update_self (Obj.mapFields (·.setIfInBounds 1 (Value.ref ha.objs.size))) eb (Obj.isFreed_of_fields md)
    have Tc : ((ha.push oT).update e (Obj.mapFields (·.setIfInBounds 1 (Value.ref ha.objs.size)))).get? ha.objs.size = some oT := by rw [Heap.get?_update_other _ _ (Ne.symm Te)]; exact Tb
    have kc : ∀ b o, b ≠ e → ha.get? b = some o → ((ha.push oT).update e (Obj.mapFields (·.setIfInBounds 1 (Value.ref ha.objs.size)))).get? b = some o := fun b o nb z => by
      rw [Heap.get?_update_other _ _ (Ne.symm nb)]
      exact Heap.get?_push_of_some _ z
    refine ⟨fun b o z => kc b o (fun q => by rw [q, hn] at z; cases z) (Ba b o z), hn, hl.of_keeps fun b o z hno => ?_, ⟨_, _, ha.objs.size, oT, _, ec, ⟨Obj.cls_mapFields _ _, (dict_mapFields _ _).trans hdn⟩, md, by simp [hz], ?_, Te, Tc, hOd, ?_⟩⟩
    · obtain ⟨sl, z2⟩ := sa.2.2 b o z
      exact ⟨_, kc b _ (fun q => by rw [q, he] at z; cases z; exact hno vs hd) z2, rfl⟩
    · cases q : B.get? ha.objs.size with
      | none => rfl
      | some o => exact absurd (Heap.lt_size (Ba _ _ q)) (Nat.lt_irrefl _)
    · rcases hpl with rfl | ⟨_, _, _, _, _, _, _, rfl⟩ <;> simp
  · intro b o z hno
    obtain ⟨sl, z2⟩ := sa.2.2 b o z
    refine ⟨sl, ?_⟩
    have nb : b ≠ e := fun q => by rw [q, he] at z; cases z; exact hno vs hd
    show ((ha.push oT).update e _).get? b = _
    rw [Heap.get?_update_other _ _ (Ne.symm nb)]
    exact Heap.get?_push_of_some _ z2
/-- the head's flight is set to none -/
theorem fly_lands {l : List Env} {cls fl : Value} {Q : Unit → Shared → Prop} (x : FlyAt B l e cls fl s.heap) (k : ∀ h', Fly B l e cls h' → s.heap.UpToSlots h' → Q () { s with heap := h' }) : wpAny M A (setFlight (.ref e) none) Q E s := by
  obtain ⟨x1, x2, x3, oe, vs, T, oT, ts, t1, t2, t3, t4, t5, t6, t7, t8, t9⟩ := x
  have sz : 3 < ts.size := (Array.getElem?_eq_some_iff.mp t9).1
  unfold setFlight
  refine wpAny_bind (wpAny_field t1 t3 t4 ?_)
  rw [if_pos (by simp)]
  have oth : ∀ b, b ≠ T → (s.heap.update T (Obj.mapFields (·.setIfInBounds 3 Value.none))).get? b = s.heap.get? b := fun b nb => Heap.get?_update_other _ _ (Ne.symm nb)
  have rec0 : ∀ b o, s.heap.get? b = some o → (∀ us, o.data ≠ .fields us) → b ≠ T := fun b o z hno q => by rw [q, t7] at z; cases z; exact hno ts t8
  refine wpAny_setField t7 t8 sz (k _ ⟨fun b o z => ?_, x2, x3.of_keeps fun b o z hno => ⟨o, (oth b (rec0 b o z hno)).trans z, rfl⟩, oe, vs, T, _, _, (oth e (Ne.symm t6)).trans t1, t2, t3, t4, t5, t6, Heap.get?_update_self _ t7 (Obj.isFreed_of_fields (Obj.data_mapFields t8 _)), Obj.data_mapFields t8 _, by simp [sz]⟩ fun b o z hno => ⟨o.slots, (oth b (rec0 b o z hno)).trans z⟩)
  exact (oth b fun q => by rw [q, t5] at z; cases z).trans (x1 b o z)
/-- a frame is noted, further on -/
theorem fly_looks {cls : Value} {Q : Unit → Shared → Prop} (hfr : A.frames = some (env :: outer)) (hf : env.frame = some L) (x : Fly B (env :: outer) e cls s.heap) (k : ∀ h', FlyAt B (env :: outer) e cls (rawInt L) h' → s.heap.UpToSlots h' → Q () { s with heap := h' }) : wpAny M A (noteFrame (.ref e) env) Q E s := by
  obtain ⟨x1, x2, x3, oe, vs, T, oT, ts, t1, ⟨rfl, tdn⟩, t3, t4, t5, t6, t7, t8, t9⟩ := x
  unfold noteFrame
  simp only [hf]
  refine wpAny_bind (wpAny_field t1 t3 t4 ?_)
  rw [if_pos (by simp)]
  refine wpAny_bind (wpAny_field t7 t8 t9 ?_)
  rw [if_neg (by simp [rawInt])]
  refine wpAny_bind (wpAny_setField t7 t8 (Array.getElem?_eq_some_iff.mp t9).1 ?_)
  have oth : ∀ b, b ≠ T → (s.heap.update T (Obj.mapFields (·.setIfInBounds 3 Value.none))).get? b = s.heap.get? b := fun b nb => Heap.get?_update_other _ _ (Ne.symm nb)
  have rec0 : ∀ b o, s.heap.get? b = some o → (∀ us, o.data ≠ .fields us) → b ≠ T := fun b o z hno q => by rw [q, t7] at z; cases z; exact hno ts t8
  refine fly_entry (s := { s with heap := s.heap.update T (Obj.mapFields (·.setIfInBounds 3 Value.none)) }) hfr (x3.of_keeps fun b o z hno => ⟨o, (oth b (rec0 b o z hno)).trans z, rfl⟩) hf ((oth e (Ne.symm t6)).trans t1)
    (fun b o z => (oth b fun q => by rw [q, t5] at z; cases z).trans (x1 b o z)) x2 t3 (Array.getElem?_eq_some_iff.mp t4).1 tdn fun h' f u => k h' f fun b o z hno => u b o ((oth b (rec0 b o z hno)).trans z) hno
theorem fly_out {l : List Env} {cls fl : Value} {h : Heap} (x : FlyAt B (env :: l) e cls fl h) : FlyAt B l e cls fl h := ⟨x.st, x.ne, x.fr.2.2, x.tr⟩
/-- an exception goes on through a frame -/
theorem fly_on {cls : Value} {Q : Unit → Shared → Prop} (hfr : A.frames = some (env :: outer)) (hf : env.frame = some L) (x : Fly B (env :: outer) e cls s.heap) (k : ∀ h', Fly B outer e cls h' → s.heap.UpToSlots h' → Q () { s with heap := h' }) : wpAny M A (leaving env (.ref e)) Q E s := by
  unfold leaving
  refine wpAny_bind (fly_looks hfr hf x fun h1 f1 u1 => ?_)
  exact fly_lands (s := { s with heap := h1 }) f1 fun h2 f2 u2 => k h2 (fly_out f2) (u1.trans u2)
/-- a new exception leaves its first frame -/
theorem fly_made {h : Heap} {cls : Value} {args : List Value} {Q : Unit → Shared → Prop} (hfr : A.frames = some (env :: outer)) (hf : env.frame = some L) (hB : B.StaysIn h) (hl : h.FunFrames B (env :: outer)) (hx : Heap.MadeExcOf h s.heap e cls args)
    (k : ∀ h', Fly B outer e cls h' → s.heap.UpToSlots h' → Q () { s with heap := h' }) : wpAny M A (leaving env (.ref e)) Q E s := by
  obtain ⟨t, he, _, _⟩ := hx.there
  have hn : B.get? e = none := by
    cases q : B.get? e with
    | none => rfl
    | some o =>
      have := hB e o q
      rw [hx.new] at this
      cases this
  unfold leaving noteFrame
  simp only [hf]
  refine wpAny_bind (wpAny_bind (wpAny_field he rfl (x := .none) rfl ?_))
  rw [if_neg (by decide)]
  refine fly_entry hfr (hl.of_keeps fun b o z _ => ⟨o, hx.keeps b o z, rfl⟩) hf he (fun b o z => hx.keeps b o (hB b o z)) hn rfl (by simp) rfl fun h1 f1 u1 => ?_
  exact fly_lands (s := { s with heap := h1 }) f1 fun h2 f2 u2 => k h2 (fly_out f2) (u1.trans u2)
end
end L2

set_option Elab.async false
set_option linter.all false
set_option maxRecDepth 100000
/-! Exceptions over the layer: an exception that a call lets out, and how it leaves the frames. (Part of a road that is not finished: see NOTES.md.) -/
namespace L2
open PySem PySem.Spec PyProof.Rows
section
variable {P : Program} {w : World} {H : Hp} {h h' : Heap} {a : Addr} {o : HO}
theorem ObjOk.there (x : ObjOk P w H h a o) : ∃ ob, h.get? a = some ob := by
  cases o with
  | lst xs => obtain ⟨_, _, _, _, e⟩ := x; exact ⟨_, e⟩
  | tup xs => obtain ⟨_, _, _, ob, e, _⟩ := x; exact ⟨_, e⟩
  | dK kvs => obtain ⟨_, _, _, _, o, _, _, e, _⟩ := x; exact ⟨_, e⟩
  | dT kvs => obtain ⟨_, _, _, _, o, _, _, e, _⟩ := x; exact ⟨_, e⟩
  | set S n => obtain ⟨o, _, _, _, e, _⟩ := x; exact ⟨_, e⟩
  | ins C dx fs => obtain ⟨_, _, _, e, _⟩ := x; exact ⟨_, e⟩
  | own y => obtain ⟨_, e⟩ := x; exact ⟨_, e⟩
  | xd fs => obtain ⟨_, ⟨_, _, _, e, _⟩, _⟩ := x; exact ⟨_, e⟩
  | rng lo hi => obtain ⟨_, _, _, e⟩ := x; exact ⟨_, e⟩
  | frz ob u => obtain ⟨e, _⟩ := x; exact ⟨_, e⟩
  | tbl ps => exact ⟨_, (show h.get? a = some _ from x)⟩
  | met f y => exact ⟨_, (show h.get? a = some _ from x)⟩
  | ext φ => obtain ⟨_, e, _⟩ := x; exact e
/-- only the tracked objects count -/
theorem HOk.tracked (x : HOk P w H h) (k : ∀ b u, H b ≠ none → h.get? b = some u → h'.get? b = some u) : HOk P w H h' := fun b u e =>
  (x b u e).stay (fun c v hc q => k c v (by rcases hc with z | z <;> rw [z] <;> simp_all) q) (fun _ z => z) (fun _ _ z => z)
end
/-- an exception behind a call: a new object e of class cls; B keeps all that was there but the frames -/
def CXE (P : Program) (w : World) : CXT := fun outer H s E v s' => ∃ (e : Addr) (cls : Value) (B : Heap) (H' : Hp), v = .ref e ∧ s'.os = s.os ∧ AllBare s'.gens ∧ Un (frs outer) [] H H' s.heap s'.heap ∧ HOk P w H' s'.heap ∧
  Fly B outer e cls s'.heap ∧ (∀ b o, s.heap.get? b = some o → b ∉ frs outer → ∃ o', B.get? b = some o') ∧ (∀ b, H' b ≠ none → ∃ o, B.get? b = some o) ∧ E cls none H'
section
variable {P : Program} {w : World} {K : PySem.W.Frag} {mg : Str → Option Value} {base : Heap} {N : List Str} {qual : Str} {scope : Scope} {f : Addr} {cd : Value} {A : Around} {outer : List Env} {s : Shared} {H : Hp} {E : XK}
/-- a new exception leaves the body -/
theorem xe_made {pins : List (Addr × Obj)} {σ : St} {H1 : Hp} {s1 : Shared} {h1 : Heap} {e : Addr} {cls : Value} {vs : List Value}
    (I : Inv ((cxOf (CXE P w) P w K mg base N qual scope f cd A outer s H E)) pins σ H1 s1) (hx : Heap.MadeExcOf s1.heap h1 e cls vs) (q : E cls none H1) :
    (cxOf (CXE P w) P w K mg base N qual scope f cd A outer s H E).xe (.ref e) { s1 with heap := h1 } := by
  have hst : s1.heap.FunFrames base (envOfC qual scope s.heap.objs.size f cd :: outer) := I.stack
  have hfr : (A.deeper (envOfC qual scope s.heap.objs.size f cd)).frames = some (envOfC qual scope s.heap.objs.size f cd :: outer) := I.ok.frames
  have hin : ∀ env ∈ (envOfC qual scope s.heap.objs.size f cd :: outer), ∀ b, env.frame = some b → b ∈ frs (envOfC qual scope s.heap.objs.size f cd :: outer) := fun env he b hb => List.mem_filterMap.mpr ⟨env, he, hb⟩
  have hB := PySem.W.funFrames_hide hst hin
  have hloc : (envOfC qual scope s.heap.objs.size f cd).frame = some s.heap.objs.size := rfl
  have hfree : ∀ b ∈ frs (envOfC qual scope s.heap.objs.size f cd :: outer), H1 b = none := I.stkFree
  have hcons : frs (envOfC qual scope s.heap.objs.size f cd :: outer) = s.heap.objs.size :: frs outer := by unfold frs; rw [List.filterMap_cons, hloc]
  refine fly_made (B := PySem.W.hideAll s1.heap (frs (envOfC qual scope s.heap.objs.size f cd :: outer))) hfr hloc (fun b o z => PySem.W.of_hideAll _ z) hB hx fun h2 k1 k4 => ?_
  generalize hBB : PySem.W.hideAll s1.heap (frs (envOfC qual scope s.heap.objs.size f cd :: outer)) = B at *
  have toB : ∀ b o, s1.heap.get? b = some o → b ∉ frs (envOfC qual scope s.heap.objs.size f cd :: outer) → B.get? b = some o := fun b o z n => by rw [← hBB]; exact PySem.W.hideAll_get _ z n
  have keepAll : ∀ b o, s1.heap.get? b = some o → b ∉ frs (envOfC qual scope s.heap.objs.size f cd :: outer) → h2.get? b = some o := fun b o z n => k1.st b o (toB b o z n)
  have base0 : Un (frs outer) [] H H1 s.heap s1.heap := I.base
  have notLoc : ∀ b o, s.heap.get? b = some o → b ∉ frs outer → b ∉ frs (envOfC qual scope s.heap.objs.size f cd :: outer) := fun b o z n hm => by
    rw [hcons] at hm
    rcases List.mem_cons.mp hm with e | e
    · exact absurd (Heap.lt_size z) (by rw [e]; exact Nat.lt_irrefl _)
    · exact n e
  have trackedB : ∀ b u, H1 b = some u → ∃ o, B.get? b = some o := fun b u z => by
    obtain ⟨o, ho⟩ := (I.hok b u z).there
    exact ⟨o, toB b o ho fun hm => by rw [hfree b hm] at z; cases z⟩
  refine ⟨e, cls, B, H1, rfl, I.os, I.bare, ?_, ?_, k1, ?_, ?_, q⟩
  · refine ⟨fun b o z n hb hx' => keepAll b o (base0.keep b o z n hb hx') (notLoc b o z hb), fun b o z n hb hx' => ?_, base0.free, fun b o z hx' => ?_, base0.tups, base0.frzs, base0.tbls⟩
    · obtain ⟨sl, z1⟩ := base0.slot b o z n hb hx'
      have hm : b ∈ frs (envOfC qual scope s.heap.objs.size f cd :: outer) := by rw [hcons]; exact List.mem_cons_of_mem _ hb
      obtain ⟨_, o', ho', hd⟩ := hst.mem hm
      rw [z1] at ho'
      cases ho'
      obtain ⟨sl2, z2⟩ := k4 b _ (hx.keeps b _ z1) hd
      exact ⟨sl2, z2⟩
    · obtain ⟨o1, z1⟩ := base0.there b o z hx'
      by_cases hm : b ∈ frs (envOfC qual scope s.heap.objs.size f cd :: outer)
      · obtain ⟨_, o', ho', hd⟩ := hst.mem hm
        rw [z1] at ho'
        cases ho'
        obtain ⟨sl2, z2⟩ := k4 b _ (hx.keeps b _ z1) hd
        exact ⟨_, z2⟩
      · exact ⟨o1, keepAll b o1 z1 hm⟩
  · exact HOk.tracked I.hok fun b u n z => keepAll b u z fun hm => n (hfree b hm)
  · intro b o z n
    obtain ⟨o1, z1⟩ := base0.there b o z (by simp)
    exact ⟨o1, toB b o1 z1 (notLoc b o z n)⟩
  · intro b n
    cases z : H1 b with
    | none => exact absurd z n
    | some u => exact trackedB b u z
/-- an exception of a callee leaves the body -/
theorem pass_exc {E' : XK} (hE : ∀ c d H', E' c d H' → E c d H') : Passes (CXE P w) (cxOf (CXE P w) P w K mg base N qual scope f cd A outer s H E) E' := by
  rintro pins σ H1 s1 v s2 I ⟨e, cls, B, H2, rfl, os, bare, un, hok, hfl, hfresh, htr, q⟩
  have hst : s1.heap.FunFrames base (envOfC qual scope s.heap.objs.size f cd :: outer) := I.stack
  have hfr : (A.deeper (envOfC qual scope s.heap.objs.size f cd)).frames = some (envOfC qual scope s.heap.objs.size f cd :: outer) := I.ok.frames
  have hloc : (envOfC qual scope s.heap.objs.size f cd).frame = some s.heap.objs.size := rfl
  have hcons : frs (envOfC qual scope s.heap.objs.size f cd :: outer) = s.heap.objs.size :: frs outer := by unfold frs; rw [List.filterMap_cons, hloc]
  have base0 : Un (frs outer) [] H H1 s.heap s1.heap := I.base
  have un' : Un (frs (envOfC qual scope s.heap.objs.size f cd :: outer)) [] H1 H2 s1.heap s2.heap := un
  have hfl' : Fly B (envOfC qual scope s.heap.objs.size f cd :: outer) e cls s2.heap := hfl
  have hfresh' : ∀ b o, s1.heap.get? b = some o → b ∉ frs (envOfC qual scope s.heap.objs.size f cd :: outer) → ∃ o', B.get? b = some o' := hfresh
  have hfree : ∀ b ∈ frs (envOfC qual scope s.heap.objs.size f cd :: outer), H1 b = none := I.stkFree
  refine fly_on (s := s2) hfr hloc hfl' fun h3 k1 k2 => ?_
  have notLoc : ∀ b o, s.heap.get? b = some o → b ∉ frs outer → b ∉ frs (envOfC qual scope s.heap.objs.size f cd :: outer) := fun b o z n hm => by
    rw [hcons] at hm
    rcases List.mem_cons.mp hm with e | e
    · exact absurd (Heap.lt_size z) (by rw [e]; exact Nat.lt_irrefl _)
    · exact n e
  have inB : ∀ b o, s2.heap.get? b = some o → (∃ o', B.get? b = some o') → h3.get? b = some o := fun b o z ⟨o', z'⟩ => by
    have := hfl'.st b o' z'
    rw [z] at this
    cases this
    exact k1.st b o z'
  refine ⟨e, cls, B, H2, rfl, os.trans I.os, bare, ?_, ?_, k1, ?_, htr, hE _ _ _ q⟩
  · refine ⟨fun b o z n hb hx' => ?_, fun b o z n hb hx' => ?_, fun b o z n hx' => ?_, fun b o z hx' => ?_, fun b xs z => un'.tups b xs (base0.tups b xs z), fun b o u z => un'.frzs b o u (base0.frzs b o u z), fun b ps z => ?_⟩
    · have z1 := base0.keep b o z n hb hx'
      have n1 := base0.free b o z n hx'
      have nb := notLoc b o z hb
      exact inB b o (un'.keep b o z1 n1 nb hx') (hfresh' b o z1 nb)
    · obtain ⟨sl, z1⟩ := base0.slot b o z n hb hx'
      have n1 := base0.free b o z n hx'
      have hm : b ∈ frs (envOfC qual scope s.heap.objs.size f cd :: outer) := by rw [hcons]; exact List.mem_cons_of_mem _ hb
      obtain ⟨sl2, z2⟩ := un'.slot b _ z1 n1 hm hx'
      obtain ⟨_, o', ho', hd⟩ := hst.mem hm
      rw [z1] at ho'
      cases ho'
      obtain ⟨sl3, z3⟩ := k2 b _ z2 hd
      exact ⟨sl3, z3⟩
    · obtain ⟨sl, z1⟩ := base0.any z n hx'
      exact un'.free b _ z1 (base0.free b o z n hx') hx'
    · obtain ⟨o1, z1⟩ := base0.there b o z hx'
      obtain ⟨o2, z2⟩ := un'.there b o1 z1 hx'
      by_cases hm : b ∈ frs (envOfC qual scope s.heap.objs.size f cd :: outer)
      · obtain ⟨_, o', ho', hd⟩ := hfl'.fr.mem hm
        rw [z2] at ho'
        cases ho'
        obtain ⟨sl3, z3⟩ := k2 b _ z2 hd
        exact ⟨_, z3⟩
      · exact ⟨o2, inB b o2 z2 (hfresh' b o1 z1 hm)⟩
    · obtain ⟨m1, z1⟩ := base0.tbls b ps z
      obtain ⟨m2, z2⟩ := un'.tbls b _ z1
      exact ⟨m1 ++ m2, by rw [z2, Array.append_assoc]⟩
  · exact HOk.tracked hok fun b u n z => inB b u z (htr b n)
  · intro b o z n
    obtain ⟨o1, z1⟩ := base0.there b o z (by simp)
    exact hfresh' b o1 z1 (notLoc b o z n)
end
end L2
namespace L2
open PySem PySem.Spec PyProof.Rows
/-! ### raise of an own class -/
theorem exc_obj {K : PySem.W.Frag} {h : Heap} {C : Addr} {bmB : List Value} {newId : String} (kin : K.In h) (hq : PySem.W.excIn K C bmB newId = true) :
    ∃ bm nsp nm qn bs hd sn sub ab col dd k0 k1 k2 k3 k5 mN, h.get? C = some (excClassObj nm qn C nsp bs bm hd sn sub ab col dd k0 k1 k2 k3 k5 newId) ∧ h.Ns nsp mN ∧ mN "__init__" = none ∧ OwnTail h bmB bm := by
  unfold PySem.W.excIn at hq
  split at hq
  case h_2 => cases hq
  case h_1 dd cd sl look =>
    split at hq
    case h_2 => cases hq
    case h_1 C' bm k0 k1 k2 k3 n k5 mroE slE =>
      simp only [Bool.and_eq_true, beq_iff_eq, Bool.not_eq_true'] at hq
      obtain ⟨⟨⟨⟨⟨c1, c2⟩, c3⟩, c4⟩, c5⟩, c6⟩ := hq
      subst c1 c2
      rcases cd with ⟨nm, bs, mro, nsp, qn, hd, sn, sub, ab, col, del⟩
      dsimp only at mroE c3 c5 c6
      subst mroE c3
      have slA : sl = #[k0, k1, k2, k3, some (.builtin n), k5] := by
        rcases sl with ⟨lst⟩
        exact congrArg Array.mk slE
      subst slA
      exact ⟨bm, nsp, nm, qn, bs, hd, sn, sub, ab, col, dd, k0, k1, k2, k3, k5, _, kin _ _ look, .of_isNs (PySem.W.isNs_of_in kin c5), PySem.W.nsMap_none_of_in kin c5 c6, PySem.W.tail_of_in kin c4⟩
/-- what holds of an own class under a built-in exception -/
structure ExcCls (K : PySem.W.Frag) (mg : Str → Option Value) (x : Str) (C : Addr) (bmB : List Value) (newId : String) : Prop where
  at_ : mg x = some (.ref C)
  obj : PySem.W.excIn K C bmB newId = true
/-- raise x(e, ..): E of the class -/
def tRaise (C : Addr) (E : XK) (t : TA) : TS := fun _ σ H => t σ H fun vs H1 => vs.length ≤ 3 ∧ E (.ref C) none H1
section
variable {P : Program} {w : World} {K : PySem.W.Frag} {mg : Str → Option Value} {base : Heap} {N : List Str} {qual : Str} {scope : Scope} {f : Addr} {cd : Value} {A : Around} {outer : List Env} {s : Shared} {H : Hp} {E : XK}
theorem ps_raise {x : Str} {C : Addr} {bmB : List Value} {B newId initId : String} {np cpos pos : Pos} {e0 : Expr} {es : List Expr} {t : TA} (hc : ExcCls K mg x C bmB newId) (F : ExcBaseFacts B newId initId bmB)
    (hg : Gl (cxOf (CXE P w) P w K mg base N qual scope f cd A outer s H E) x) (ha : PA (cxOf (CXE P w) P w K mg base N qual scope f cd A outer s H E) (e0 :: es) t)
    (he : starEach (e0 :: es) (envOfC qual scope s.heap.objs.size f cd) = (false, eval e0 (envOfC qual scope s.heap.objs.size f cd)) :: starEach es (envOfC qual scope s.heap.objs.size f cd) := by rfl)
    (hpl : (backTo cpos (starEach es (envOfC qual scope s.heap.objs.size f cd))).any (·.1) = false := by rfl) (hdb : (x == ("__debug__" : Str)) = false := by decide) :
    PS (cxOf (CXE P w) P w K mg base N qual scope f cd A outer s H E) (.Raise (some (.Call (.Name x np) (e0 :: es) [] cpos)) none pos) (tRaise C E t) := by
  intro pins s1 σ H1 D I q
  obtain ⟨bm, nsp, nm, qn, bs, hd, sn, sub, ab, col, dd, k0, k1, k2, k3, k5, mN, o1, o2, o3, o4⟩ := exc_obj I.ok.mod.kin hc.obj
  refine wpAny_Raise_call_subT F (o4.hasType F.hasBase) (I.ok.hd rfl) (by
    show (backTo cpos (starEach (e0 :: es) (envOfC qual scope s.heap.objs.size f cd))).any (·.1) = false
    rw [he]; show (false || (backTo cpos (starEach es (envOfC qual scope s.heap.objs.size f cd))).any (·.1)) = false; rw [hpl]; rfl) o3 ?_ (nm := nm) (q := qn) (C := C) (N := nsp) (bs := bs) (bm := bm) (hdct := hd) (sn := sn) (sub := sub) (ab := ab) (col := col) (dd := dd) (k0 := k0) (k1 := k1) (k2 := k2) (k3 := k3) (k5 := k5)
  refine ld_glob I hg hc.at_ ⟨rfl, ?_⟩ hdb
  have hs := ha cpos pins s1 σ H1 _ I q
  show wpAny _ _ (evalArgs (.ref C) true (backTo cpos (starEach (e0 :: es) (envOfC qual scope s.heap.objs.size f cd))) []) _ _ _
  change wpAny _ _ (spliced (backTo cpos (starEach (e0 :: es) (envOfC qual scope s.heap.objs.size f cd)))) _ _ _ at hs
  rw [he] at hs ⊢
  refine Calls.evalArgs_plain (wpAny_mono hs (fun us s2 h2 => ?_) fun _ _ z => z)
  obtain ⟨vs, H2, I2, r2, hl, q2⟩ := h2
  have hul : us.length ≤ 3 := by rw [← r2.length]; exact hl
  exact ⟨rfl, Nat.le_trans hul (by rw [sizeLine_eq]; decide), I2.bk _ _ o1, o2.keeps I2.bk, o4.keeps I2.bk, fun h' e hm => xe_made I2 hm q2⟩
/-- a call of a def that may raise, in such a def -/
def CalleeE (P : Program) (w : World) (K : PySem.W.Frag) (mg : Str → Option Value) (base : Heap) (x : Str) (k : Nat) (sp : Sp) : Prop :=
  ∃ f fd ps, FnOk P w K mg base (CXE P w) k f fd ps sp ∧ mg x = some (.ref f) ∧ PySem.W.keepIn K (.ref f) = true ∧ Binds K fd ps []
theorem Def.okE {x : Str} {st : Stmt} {N ps : List Str} {k : Nat} {sp : Sp} (D : Def K mg x st) (S : FnScope N ps (defScope st))
    (bd : ∀ (kV doc pm : Value) (an : Option Addr) (cdv ct : Value) (us : List Value), us.length = ps.length → bindArgs (PySem.W.fnOf x x (defArgs st) (defBody st) (defScope st) .none kV doc pm an cdv ct) ⟨us, []⟩ = pure (ps.zip us))
    (len : ∀ vs H Q E, sp vs H Q E → vs.length = ps.length)
    (hbody : ∀ (f : Addr) (cdv : Value) (A : Around) (outer : List Env) (s : Shared) (H : Hp) (vs : List V) (Q : VK) (E : XK), Room k (A.deeper (envOfC x (defScope st) s.heap.objs.size f cdv)) → sp vs H Q E →
      ∃ t, PSs (cxOf (CXE P w) P w K mg base N x (defScope st) f cdv A outer s H E) (defBody st) t ∧ t { nx := fun _ H' => Q .non H', rt := Q } (start N vs) H) : CalleeE P w K mg base x (k + 1) sp := by
  obtain ⟨f, fd, F, hm⟩ := D
  have Fk := F.kp
  have Fb := F.binds bd
  obtain ⟨oc, od, kV, doc, pm, an, cdv, ct, osl, rfl, lk, hcd⟩ := F.ex
  exact ⟨f, _, ps, fn_of lk hcd S len fun A outer s H vs Q E hr hsp => hbody f cdv A outer s H vs Q E hr hsp, hm, Fk, Fb⟩
theorem pe_callE {x : Str} {k : Nat} {sp : Sp} {e0 : Expr} {es : List Expr} {t : TA} {p pos : Pos} {E' : XK} (C : CalleeE P w K mg base x k sp) (hr : Room k (A.deeper (envOfC qual scope s.heap.objs.size f cd))) (hg : Gl (cxOf (CXE P w) P w K mg base N qual scope f cd A outer s H E) x)
    (ha : PA (cxOf (CXE P w) P w K mg base N qual scope f cd A outer s H E) (e0 :: es) t) (hE : ∀ c d H', E' c d H' → E c d H' := by exact fun _ _ _ z => z)
    (he : starEach (e0 :: es) (envOfC qual scope s.heap.objs.size f cd) = (false, eval e0 (envOfC qual scope s.heap.objs.size f cd)) :: starEach es (envOfC qual scope s.heap.objs.size f cd) := by rfl)
    (hpl : (backTo pos (starEach es (envOfC qual scope s.heap.objs.size f cd))).any (·.1) = false := by rfl) (hdb : (x == ("__debug__" : Str)) = false := by decide) :
    PE (cxOf (CXE P w) P w K mg base N qual scope f cd A outer s H E) (.Call (.Name x p) (e0 :: es) [] pos) (tCall sp [] E' t) := by
  obtain ⟨f', fd, ps, F, hm, hk, hb⟩ := C
  exact pe_call F hr hg hm hk hb .nil (pass_exc hE) ha (hdb := hdb) (he := he) (hpl := hpl)
end
end L2

set_option Elab.async false
set_option linter.all false
set_option maxRecDepth 100000
/-! A call within a try: the way of an exception up to the clause. (Not finished: the clause's suite, and calls within it, are to come; see NOTES.md.) -/
namespace L2
open PySem PySem.Spec PyProof.Rows
section
/-- what stays while the exception is looked at -/
theorem un_fly {l : List Env} {H1 H2 : Hp} {h1 h2 h3 B : Heap} (u : Un (frs l) [] H1 H2 h1 h2) (hs : B.StaysIn h2) (hf : h2.FunFrames B l) (hfresh : ∀ b o, h1.get? b = some o → b ∉ frs l → ∃ o', B.get? b = some o') (k1 : B.StaysIn h3) (k2 : h2.UpToSlots h3) : Un (frs l) [] H1 H2 h1 h3 := by
  have inB : ∀ b o, h2.get? b = some o → (∃ o', B.get? b = some o') → h3.get? b = some o := fun b o z ⟨o', z'⟩ => by
    have := hs b o' z'
    rw [z] at this
    cases this
    exact k1 b o z'
  refine ⟨fun b o z n hb hx => inB b o (u.keep b o z n hb hx) (hfresh b o z hb), fun b o z n hb hx => ?_, u.free, fun b o z hx => ?_, u.tups, u.frzs, u.tbls⟩
  · obtain ⟨sl, z1⟩ := u.slot b o z n hb hx
    obtain ⟨_, o', ho', hd⟩ := hf.mem hb
    rw [z1] at ho'
    cases ho'
    obtain ⟨sl2, z2⟩ := k2 b _ z1 hd
    exact ⟨sl2, z2⟩
  · obtain ⟨o2, z2⟩ := u.there b o z hx
    by_cases hm : b ∈ frs l
    · obtain ⟨_, o', ho', hd⟩ := hf.mem hm
      rw [z2] at ho'
      cases ho'
      obtain ⟨sl3, z3⟩ := k2 b _ z2 hd
      exact ⟨_, z3⟩
    · exact ⟨o2, inB b o2 z2 (hfresh b o z hm)⟩
theorem hok_fly {P : Program} {w : World} {H2 : Hp} {h2 h3 B : Heap} (x : HOk P w H2 h2) (hs : B.StaysIn h2) (htr : ∀ b, H2 b ≠ none → ∃ o, B.get? b = some o) (k1 : B.StaysIn h3) : HOk P w H2 h3 :=
  HOk.tracked x fun b u n z => by
    obtain ⟨o', z'⟩ := htr b n
    have := hs b o' z'
    rw [z] at this
    cases this
    exact k1 b _ z'
variable {X : Cx}
/-- the context within a try: what is pinned outside is kept, another wish -/
abbrev Cx.inTry (X : Cx) (pins : List (Addr × Obj)) (ξ : Value → Shared → Prop) : Cx := { X with pn := X.pn ++ pins, xe := ξ }
theorem Cx.Ok.inTry (ok : X.Ok) (pins : List (Addr × Obj)) (ξ : Value → Shared → Prop) : (X.inTry pins ξ).Ok :=
  ⟨ok.mod, ok.kind, ok.glob, ok.blt, ok.above, ok.inj, ok.has, ok.cab, ok.hd, ok.frames, ok.stk, ok.exf, ok.bs, ok.bsz, ok.noex, ok.exfs, ok.funs, ok.frf⟩
theorem Cx.Ok.outTry {pins : List (Addr × Obj)} {ξ : Value → Shared → Prop} (ok : (X.inTry pins ξ).Ok) : X.Ok :=
  ⟨ok.mod, ok.kind, ok.glob, ok.blt, ok.above, ok.inj, ok.has, ok.cab, ok.hd, ok.frames, ok.stk, ok.exf, ok.bs, ok.bsz, ok.noex, ok.exfs, ok.funs, ok.frf⟩
theorem Inv.inTry {pins : List (Addr × Obj)} {σ : St} {H : Hp} {s : Shared} (I : Inv X pins σ H s) (ξ : Value → Shared → Prop) : Inv (X.inTry pins ξ) [] σ H s :=
  ⟨I.ok.inTry pins ξ, I.os, I.bare, I.base, I.loc, I.cell, I.free, I.freeC, fun p hp => I.pin p (by simpa using hp), I.hok, I.len⟩
theorem Inv.outTry {pins pins' : List (Addr × Obj)} {σ : St} {H : Hp} {s : Shared} {ξ : Value → Shared → Prop} (I : Inv (X.inTry pins ξ) pins' σ H s) : Inv X pins σ H s :=
  ⟨I.ok.outTry, I.os, I.bare, I.base, I.loc, I.cell, I.free, I.freeC, fun p hp => I.pin p (List.mem_append_left _ hp), I.hok, I.len⟩
/-- a call whose exceptions may ask for the variables as they are -/
def tCallS (sp : Sp) (Ex : St → XK) (t : TA) : TE := fun σ H Q => t σ H fun vs H1 => sp (vs ++ []) H1 Q (Ex σ)
def PassS (X : Cx) (Ex : St → XK) : Prop := ∀ (pins : List (Addr × Obj)) (σ : St) (H : Hp) (s : Shared) (e : Value) (s' : Shared), Inv X pins σ H s → CXE X.prog X.w X.stack H s (Ex σ) e s' → X.xe e s'
theorem pe_callS {x : Str} {k : Nat} {sp : Sp} {e : Expr} {es : List Expr} {t : TA} {p pos : Pos} {Ex : St → XK} (C : CalleeE X.prog X.w X.K X.mg X.base x k sp) (hr : Room k X.A) (hg : Gl X x) (hx : PassS X Ex) (ha : PA X (e :: es) t)
    (he : starEach (e :: es) X.env = (false, eval e X.env) :: starEach es X.env := by rfl) (hpl : (backTo pos (starEach es X.env)).any (·.1) = false := by rfl) (hdb : (x == ("__debug__" : Str)) = false := by decide) :
    PE X (.Call (.Name x p) (e :: es) [] pos) (tCallS sp Ex t) := by
  obtain ⟨f, fd, ps, F, hm, hk, hb⟩ := C
  intro pins s σ H Q I h
  refine wpAny_Call_Name_kw (ld_glob I hg hm ?_ hdb)
  refine PySem.W.callWith_K (h₀ := X.base) I.ok.mod.kin hk (thn (ha pos pins s σ H _ I h) fun us s1 ⟨vs, H1, I1, r, q⟩ => ⟨I1.kIn, ?_⟩) he hpl
  have r2 : Vals (vs ++ []) (us ++ []) := r.append .nil
  have hl : (us ++ []).length = ps.length := by rw [← r2.length]; exact F.len _ _ _ _ q
  refine wpAny_call (codeAny_mono (F.run X.A X.stack s1 H1 ⟨us, []⟩ (us ++ []) (vs ++ []) Q (Ex σ) hr I1.env0 (hb s1 us I1.kIn hl) r2 q) fun r3 s' hq => ?_)
  cases r3 with
  | error v => exact hx pins σ H1 s1 v s' I1 hq
  | ok fl =>
    cases fl with
    | ret u => exact I1.after hq
    | next => exact False.elim hq
    | brk => exact False.elim hq
    | cont => exact False.elim hq
/-- an object that came since the entry is tracked -/
theorem Inv.trackN {pins : List (Addr × Obj)} {σ : St} {H : Hp} {s : Shared} {D : Addr} {o : HO} (I : Inv X pins σ H s) (hn : H D = none) (hL : D ≠ X.env.locals) (h1 : X.s₀.heap.get? D = none)
    (h2 : ∀ x c, X.env.cells.lookup x = some c → c ≠ D) (h3 : ∀ p ∈ X.pn ++ pins, p.1 ≠ D) (new : ObjOk X.prog X.w (upd H D o) s.heap D o) : Inv X pins σ (upd H D o) s := by
  have up : ∀ b u, H b = some u → upd H D o b = some u := fun b u e => by rw [upd_ne (ne_of_none e hn)]; exact e
  have un : ∀ b, b ≠ D → H b = none → upd H D o b = none := fun b hb e => by rw [upd_ne hb]; exact e
  refine ⟨I.ok, I.os, I.bare, ⟨I.base.keep, I.base.slot, fun b ob e n hx => un b (fun z => by rw [z, h1] at e; cases e) (I.base.free b ob e n hx), I.base.there, fun b xs e => up _ _ (I.base.tups b xs e), fun b ob u e => up _ _ (I.base.frzs b ob u e), fun b ps e => ?_⟩,
    I.loc, I.cell, un _ (Ne.symm hL) I.free, fun x c e => un _ (h2 x c e) (I.freeC x c e), fun p hp => ?_, fun b u e => ?_, I.len⟩
  · obtain ⟨m, e'⟩ := I.base.tbls b ps e
    exact ⟨m, up _ _ e'⟩
  · obtain ⟨e, n, r⟩ := I.pin p hp
    exact ⟨e, un _ (h3 p hp) n, r⟩
  · by_cases hb : b = D
    · subst hb
      rw [upd_same] at e
      cases e
      exact new
    · rw [upd_ne hb] at e
      exact (I.hok b u e).stay (fun _ _ _ z => z) (fun c z => up _ _ z) fun c xs z => up _ _ z
/-- an exception object of the class cls lies at e -/
def ExcAt (e : Addr) (cls : Value) : Heap → Prop := fun h => ∃ o vs, h.get? e = some o ∧ o.cls = cls ∧ o.dict = none ∧ o.data = .fields vs
theorem excAt_ok {P : Program} {w : World} {H : Hp} {h : Heap} {e : Addr} {cls : Value} (x : ExcAt e cls h) : ObjOk P w H h e (.ext (ExcAt e cls)) := by
  obtain ⟨o, vs, z, c⟩ := x
  exact ⟨⟨o, vs, z, c⟩, ⟨o, z⟩, fun h1 h2 ⟨o1, vs1, z1, c1⟩ k => ⟨o1, vs1, k o1 z1, c1⟩⟩
/-- the exception has come to the clauses: where all lies then -/
theorem comes {pins : List (Addr × Obj)} {σ : St} {H1 : Hp} {s1 s2 : Shared} {Ex : XK} {v : Value} {Q : Flow → Shared → Prop} {E : Value → Shared → Prop} {hs : List ExceptHandler} (hstk : X.stack = X.env :: X.outer) (hf : X.env.frame = some X.env.locals) (hex : X.ex = []) (I : Inv X pins σ H1 s1)
    (hq : CXE X.prog X.w X.stack H1 s1 Ex v s2)
    (k : ∀ (e : Addr) (cls : Value) (B : Heap) (H2 : Hp), v = .ref e → Ex cls none H2 → H2 e = none →
      (∀ h6, Fly B X.stack e cls h6 → s2.heap.UpToSlots h6 → Inv X pins σ (upd H2 e (.ext (ExcAt e cls))) { s2 with heap := h6 }) →
      ∀ h3, Fly B X.stack e cls h3 → s2.heap.UpToSlots h3 → wpAny (model X.prog X.w) X.A (handleBy (.ref e) X.env hs) Q E { s2 with heap := h3 }) :
    wpAny (model X.prog X.w) X.A (noteFrame v X.env) (fun _ s3 => wpAny (model X.prog X.w) X.A (setFlight v none) (fun _ s4 => wpAny (model X.prog X.w) X.A (handleBy v X.env hs) Q E s4) E s3) E s2 := by
  obtain ⟨e, cls, B, H2, rfl, os, bare, un, hok, hfl, hfresh, htr, q⟩ := hq
  have hfr : X.A.frames = some (X.env :: X.outer) := by rw [← hstk]; exact I.ok.frames
  have hfl' := hfl
  rw [hstk] at hfl'
  have hnew : s1.heap.get? e = none := by
    cases z : s1.heap.get? e with
    | none => rfl
    | some o =>
      exfalso
      by_cases hm : e ∈ frs X.stack
      · obtain ⟨oe, vs, T, oT, ts, he, _, hd, _⟩ := hfl.tr
        obtain ⟨_, o', ho', hd'⟩ := hfl.fr.mem hm
        rw [he] at ho'
        cases ho'
        exact hd' vs hd
      · obtain ⟨o', z'⟩ := hfresh e o z hm
        rw [hfl.ne] at z'
        cases z'
  have hHe : H2 e = none := by
    cases z : H2 e with
    | none => rfl
    | some u =>
      obtain ⟨o, z'⟩ := htr e (by rw [z]; exact fun y => by cases y)
      rw [hfl.ne] at z'
      cases z'
  have inv6 : ∀ h6, Fly B X.stack e cls h6 → s2.heap.UpToSlots h6 → Inv X pins σ (upd H2 e (.ext (ExcAt e cls))) { s2 with heap := h6 } := fun h6 fl up => by
    have u6 : Un (frs X.stack) [] H1 H2 s1.heap h6 := un_fly un hfl.st hfl.fr hfresh fl.st up
    have I6 : Inv X pins σ H2 { s2 with heap := h6 } := I.call' (s' := { s2 with heap := h6 }) os u6 (hok_fly hok hfl.st htr fl.st) bare (fun b z => absurd z (by simp))
    have hs0 : X.s₀.heap.get? e = none := by
      cases z : X.s₀.heap.get? e with
      | none => rfl
      | some o =>
        obtain ⟨o', z'⟩ := I.base.there e o z (by rw [hex]; simp)
        rw [hnew] at z'
        cases z'
    refine I6.trackN hHe (fun z => ?_) hs0 (fun x c hc z => ?_) (fun p hp z => ?_) (excAt_ok fl.there)
    · obtain ⟨m, hn, _⟩ := I.loc
      obtain ⟨o, _, _, ho, _⟩ := hn
      rw [← z, hnew] at ho
      cases ho
    · obtain ⟨v', o, ho, _⟩ := I.cell x c hc
      rw [z, hnew] at ho
      cases ho
    · have := (I.pin p hp).1
      rw [z, hnew] at this
      cases this
  refine fly_looks (s := s2) hfr hf hfl' fun h4 held4 up4 => ?_
  refine fly_lands held4 fun h5 fl5 up5 => ?_
  exact k e cls B H2 rfl q hHe inv6 h5 (by rw [hstk]; exact fl5) (up4.trans up5)
/-- within a clause: an exception is being handled, none is let out -/
abbrev Cx.inClause (X : Cx) (pins : List (Addr × Obj)) (e : Addr) : Cx := { X with A := X.A.mark (some (.ref e)), calm := false, pn := X.pn ++ pins, xe := fun _ _ => False }
theorem Inv.inClause {pins : List (Addr × Obj)} {σ : St} {H : Hp} {s : Shared} (I : Inv X pins σ H s) (e : Addr) : Inv (X.inClause pins e) [] σ H s :=
  ⟨⟨I.ok.mod, I.ok.kind, I.ok.glob, I.ok.blt, I.ok.above, I.ok.inj, I.ok.has, I.ok.cab, fun h => (by cases h), I.ok.frames, I.ok.stk, I.ok.exf, I.ok.bs, I.ok.bsz, I.ok.noex, I.ok.exfs, I.ok.funs, I.ok.frf⟩, I.os, I.bare, I.base, I.loc, I.cell, I.free, I.freeC, fun p hp => I.pin p (by simpa using hp), I.hok, I.len⟩
theorem Inv.outClause {pins pins' : List (Addr × Obj)} {σ : St} {H : Hp} {s : Shared} {e : Addr} (ok : X.Ok) (I : Inv (X.inClause pins e) pins' σ H s) : Inv X pins σ H s :=
  ⟨ok, I.os, I.bare, I.base, I.loc, I.cell, I.free, I.freeC, fun p hp => I.pin p (List.mem_append_left _ hp), I.hok, I.len⟩
/-- a name of the frame is taken away -/
theorem Inv.unset {pins : List (Addr × Obj)} {σ : St} {H : Hp} {s : Shared} {M : Model} {A : Around} {E : Value → Shared → Prop} {n : Str} {j : Nat} {pos : Pos} {Q : Unit → Shared → Prop} (I : Inv X pins σ H s) (hN : X.N.Nodup) (hj : X.N[j]? = some n) (hl : X.env.kindOf n = some .local)
    (h : ∀ s', Inv X pins (σ.set j none) H s' → Q () s') : wpAny M A (do bindName X.env n .none; unbindBehindTheSuite X.env n pos) Q E s := by
  obtain ⟨m, hn, hm⟩ := id I.loc
  have hcls : (X.env.scope.kind == .class || (X.env.scope.kind == .module && X.env.locals != X.env.globals)) = false := by rw [I.ok.kind]; rfl
  refine wpAny_nameGoes_keeps hl hn hcls fun h' v hn' hs => h _ ?_
  have far : ∀ b o, X.s₀.heap.get? b = some o → b ≠ X.env.locals := fun b o e => Nat.ne_of_lt (Nat.lt_of_lt_of_le (Heap.lt_size e) I.ok.above)
  refine ⟨I.ok, I.os, I.bare, ⟨fun b o e nn hb hx => (hs.2 b (far b o e)).trans (I.base.keep b o e nn hb hx), fun b o e nn hb hx => ?_, I.base.free, fun b o e hx => ?_, I.base.tups, I.base.frzs, I.base.tbls⟩, ⟨_, hn', fun i y v' e1 e2 e3 => ?_⟩, fun y c e => ?_, I.free, I.freeC, fun p hp => ?_, ?_, by simpa using I.len⟩
  · obtain ⟨sl, e1⟩ := I.base.slot b o e nn hb hx
    exact ⟨sl, (hs.2 b (far b o e)).trans e1⟩
  · obtain ⟨o', e1⟩ := I.base.there b o e hx
    exact ⟨o', (hs.2 b (far b o e)).trans e1⟩
  · by_cases hij : i = j
    · subst hij
      rw [List.getElem?_set] at e2
      split at e2
      · split at e2 <;> cases e2
      · exact absurd rfl (by assumption)
    · rw [List.getElem?_set_ne (Ne.symm hij)] at e2
      obtain ⟨u', r', q⟩ := hm i y v' e1 e2 e3
      refine ⟨u', r', ?_⟩
      have hyn : y ≠ n := fun e => hij (nodup_ix hN e1 (e ▸ hj))
      rcases q with ⟨k, e⟩ | ⟨k, c, e, z⟩
      · exact .inl ⟨k, by simp [hyn, e]⟩
      · exact .inr ⟨k, c, e, z.sameBut hs (I.cne y c e)⟩
  · obtain ⟨w', z⟩ := I.cell y c e
    exact ⟨w', z.sameBut hs (I.cne y c e)⟩
  · obtain ⟨e, nn, ne, nf, d⟩ := I.pin p hp
    exact ⟨(hs.2 p.1 ne).trans e, nn, ne, nf, d⟩
  · exact HOk.tracked I.hok fun b u nn z => (hs.2 b fun e => nn (by rw [e]; exact I.free)).trans z
/-- try: body, except T as x: suite (the suite ends of itself) -/
def tTry (K : PySem.W.Frag) (TC : Addr) (j : Nat) (tb : (St → XK) → TS) (ts : TS) : TS := fun D σ H =>
  tb (fun σ' cls _ H' => PySem.W.exmOne K cls (.ref TC) = some true ∧ ∀ e, H' e = none → ts { nx := fun σ2 H2 => D.nx (σ2.set j none) H2, rt := fun _ _ => False } (σ'.set j (some (.ref e))) (upd H' e (.ext (ExcAt e cls)))) D σ H
theorem ps_try {T n : Str} {TC : Addr} {j : Nat} {body : List Stmt} {b0 : Stmt} {suite : List Stmt} {tb : (St → XK) → TS} {ts : TS} {np hpos pos : Pos} (hstk : X.stack = X.env :: X.outer) (hf : X.env.frame = some X.env.locals) (hex : X.ex = [])
    (hT : X.mg T = some (.ref TC)) (hgT : Gl X T) (hN : X.N.Nodup) (hj : X.N[j]? = some n) (hl : X.env.kindOf n = some .local) (hl2 : X.env.scope.names.lookup n = some .local)
    (hb : ∀ (pins : List (Addr × Obj)) (ξ : Value → Shared → Prop) (Ex : St → XK), PassS (X.inTry pins ξ) Ex → PSs (X.inTry pins ξ) body (tb Ex))
    (hs : ∀ (pins : List (Addr × Obj)) (e : Addr), PSs (X.inClause pins e) (b0 :: suite) ts) (hdb : (T == ("__debug__" : Str)) = false := by decide) :
    PS X (.Try body [.ExceptHandler (some (.Name T np)) (some n) (b0 :: suite) hpos] [] [] pos) (tTry X.K TC j tb ts) := by
  intro pins s σ H D I q
  refine wpAny_Try_except ?_
  have hp : PassS (X.inTry pins (fun v s1 => wpAny (model X.prog X.w) X.A (noteFrame v X.env) (fun _ s2 => wpAny (model X.prog X.w) X.A (setFlight v none) (fun _ s3 => wpAny (model X.prog X.w) X.A (handleBy v X.env [.ExceptHandler (some (.Name T np)) (some n) (b0 :: suite) hpos]) (SP X pins D) X.xe s3) X.xe s2) X.xe s1))
      (fun σ' cls _ H' => PySem.W.exmOne X.K cls (.ref TC) = some true ∧ ∀ e, H' e = none → ts { nx := fun σ2 H2 => D.nx (σ2.set j none) H2, rt := fun _ _ => False } (σ'.set j (some (.ref e))) (upd H' e (.ext (ExcAt e cls)))) := by
    intro pins' σ' H' s' v s2 I' hq
    refine comes hstk hf hex I'.outTry hq fun e cls B H2 hv hE hHe inv6 h3 fl3 up3 => ?_
    obtain ⟨hx, hk⟩ := hE
    have I3 := inv6 h3 fl3 up3
    have I3c := I3.inClause e
    refine wpAny_handleBy_cons (codeAny_handlers_test ?_) (by intro z; cases z)
    refine ld_glob (X := X.inClause pins e) I3c hgT hT ?_ hdb
    obtain ⟨oe, _, hoe, hoc, _⟩ := fl3.there
    have LT : PySem.W.Looks (model X.prog X.w) h3 (typeOf (.ref e)) cls := by
      rw [← hoc]
      exact (PySem.W.Looks.ld hoe).andThen .now
    refine PySem.W.exm_one I3.kIn LT hx _ _ _ _ (fun _ _ z => z) ?_
    refine codeAny_handlers_suite_as ?_
    refine fly_lands (s := { s2 with heap := h3 }) fl3 fun h6 fl6 up6 => ?_
    have I6 := inv6 h6 fl6 (up3.trans up6)
    have I6c := I6.inClause e
    refine store_ok (X := X.inClause pins e) (v := .ref e) I6c hN hj (.inl hl2) rfl (fun s7 I7 => ?_) (.inr hl2)
    refine wpAny_mono (hs pins e [] s7 _ _ _ I7 (hk e hHe)) (fun f s8 h8 => ?_) (fun _ _ z => False.elim z)
    cases f with
    | next =>
      obtain ⟨σ8, H8, I8, q8⟩ := h8
      exact Inv.unset (I8.outClause I6.ok) hN hj hl fun s9 I9 => ⟨_, _, I9, q8⟩
    | ret u => obtain ⟨_, _, _, _, _, z⟩ := h8; exact False.elim z
    | brk => obtain ⟨_, _, _, z⟩ := h8; exact False.elim z
    | cont => obtain ⟨_, _, _, z⟩ := h8; exact False.elim z
  have hbody := hb pins _ _ hp [] s σ H D (I.inTry _) q
  refine wpAny_mono hbody (fun f s1 h1 => ?_) (fun _ _ z => z)
  cases f with
  | next =>
    obtain ⟨σ1, H1, I1, q1⟩ := h1
    exact wpAny_execs_nil ⟨σ1, H1, I1.outTry, q1⟩
  | ret u => obtain ⟨v, σ1, H1, I1, r1, q1⟩ := h1; exact ⟨v, σ1, H1, I1.outTry, r1, q1⟩
  | brk => obtain ⟨σ1, H1, I1, q1⟩ := h1; exact ⟨σ1, H1, I1.outTry, q1⟩
  | cont => obtain ⟨σ1, H1, I1, q1⟩ := h1; exact ⟨σ1, H1, I1.outTry, q1⟩
end
end L2

set_option Elab.async false
set_option linter.all false
set_option maxRecDepth 100000
/-! Calls within an except clause: a def's promise that does not ask that nothing is being handled. -/
namespace L2
open PySem PySem.Spec PyProof.Rows
/-- room for a call, whatever is being handled -/
structure RoomN (k : Nat) (A : Around) : Prop where
  dp : A.depth + 3 * k + 5 < recursionLimit
  un : A.units + 16 * k + 200 < cLine
theorem RoomN.deeper {k : Nat} {A : Around} (r : RoomN (k + 1) A) (env : Env) : RoomN k (A.deeper env) :=
  ⟨by have := r.dp; show A.depth + 1 + 3 * k + 5 < _; omega, by have := r.un; show A.units + 3 + 16 * k + 200 < _; omega⟩
theorem Room.noted {k : Nat} {A : Around} (r : Room k A) (v : Option Value) : RoomN k (A.mark v) := ⟨r.dp, r.un⟩
structure FnOkN (P : Program) (w : World) (K : PySem.W.Frag) (mg : Str → Option Value) (base : Heap) (k : Nat) (f : Addr) (fd : FuncData) (ps : List Str) (sp : Sp) : Prop where
  len : ∀ vs H Q E, sp vs H Q E → vs.length = ps.length
  run : ∀ (A : Around) (outer : List Env) (s : Shared) (H : Hp) (args : Args) (us : List Value) (vs : List V) (Q : VK) (E : XK), RoomN k A → Env0 P w K mg base A outer s H → BindsTo s fd args (ps.zip us) → Vals vs us → sp vs H Q E →
    codeAny (model P w) A (.call (.ref f) args) (CR CX0 outer P w H s Q E) s
def CalleeN (P : Program) (w : World) (K : PySem.W.Frag) (mg : Str → Option Value) (base : Heap) (x : Str) (k : Nat) (sp : Sp) : Prop :=
  ∃ f fd ps, FnOkN P w K mg base k f fd ps sp ∧ mg x = some (.ref f) ∧ PySem.W.keepIn K (.ref f) = true ∧ Binds K fd ps []
/-- the context of such a def's body -/
abbrev cxN (P : Program) (w : World) (K : PySem.W.Frag) (mg : Str → Option Value) (base : Heap) (N : List Str) (qual : Str) (scope : Scope) (f : Addr) (cd : Value) (A : Around) (outer : List Env) (s : Shared) (H : Hp) (E : XK) : Cx :=
  { cxOf CX0 P w K mg base N qual scope f cd A outer s H E with calm := false, xe := fun _ _ => False }
section
variable {P : Program} {w : World} {K : PySem.W.Frag} {mg : Str → Option Value} {base : Heap}
theorem inv_startN {N ps : List Str} {qual : Str} {scope : Scope} {f : Addr} {cd : Value} {A : Around} {outer : List Env} {s s1 : Shared} {H : Hp} {E : XK} {us : List Value} {vs : List V} (S : FnScope N ps scope) (e0 : Env0 P w K mg base A outer s H) (hl : vs.length = ps.length) (r : Vals vs us)
    (x : InCallC s s.heap.objs.size (bindL (envOfC qual scope s.heap.objs.size f cd).kindOf (ps.zip us) fun _ => none) (cellsFrom (s.heap.objs.size + 1) scope.names []) (bindC (envOfC qual scope s.heap.objs.size f cd).kindOf (ps.zip us) fun _ => none) s1) :
    Inv (cxN P w K mg base N qual scope f cd A outer s H E) [] (start N vs) H s1 := by
  have I := inv_start (CX := CX0) (E := E) (A := { A with handled := none }) (qual := qual) (f := f) (cd := cd) S rfl ⟨e0.frames, e0.mod, e0.bs, e0.bsz, e0.funs, e0.frf, e0.hok, e0.bare⟩ hl r x
  exact ⟨⟨I.ok.mod, I.ok.kind, I.ok.glob, I.ok.blt, I.ok.above, I.ok.inj, I.ok.has, I.ok.cab, fun h => (by cases h), Around.frames_deeper e0.frames, I.ok.stk, I.ok.exf, I.ok.bs, I.ok.bsz, I.ok.noex, I.ok.exfs, I.ok.funs, I.ok.frf⟩,
    I.os, I.bare, I.base, I.loc, I.cell, I.free, I.freeC, I.pin, I.hok, I.len⟩
theorem Def.okN {x : Str} {st : Stmt} {N ps : List Str} {k : Nat} {sp : Sp} (D : Def K mg x st) (S : FnScope N ps (defScope st))
    (bd : ∀ (kV doc pm : Value) (an : Option Addr) (cdv ct : Value) (us : List Value), us.length = ps.length → bindArgs (PySem.W.fnOf x x (defArgs st) (defBody st) (defScope st) .none kV doc pm an cdv ct) ⟨us, []⟩ = pure (ps.zip us))
    (len : ∀ vs H Q E, sp vs H Q E → vs.length = ps.length)
    (hbody : ∀ (f : Addr) (cdv : Value) (A : Around) (outer : List Env) (s : Shared) (H : Hp) (vs : List V) (Q : VK) (E : XK), RoomN k (A.deeper (envOfC x (defScope st) s.heap.objs.size f cdv)) → sp vs H Q E →
      ∃ t, PSs (cxN P w K mg base N x (defScope st) f cdv A outer s H E) (defBody st) t ∧ t { nx := fun _ H' => Q .non H', rt := Q } (start N vs) H) : CalleeN P w K mg base x (k + 1) sp := by
  obtain ⟨f, fd, F, hm⟩ := D
  have Fk := F.kp
  have Fb := F.binds bd
  obtain ⟨oc, od, kV, doc, pm, an, cdv, ct, osl, rfl, lk, hcd⟩ := F.ex
  refine ⟨f, _, ps, ⟨len, fun A outer s H args us vs Q E hr e0 hb r hsp => ?_⟩, hm, Fk, Fb⟩
  have KX : K.In s.heap := e0.mod.kin.keeps fun b o e => (e0.bs b o e).1
  have lim : s.heap.NoLimit := e0.mod.nolimit.keeps fun b o e => (e0.bs b o e).1
  have hkind : ∀ y ∈ ps.zip us, (defScope st).names.lookup y.1 = some .local ∨ ((defScope st).names.lookup y.1 = some .cell ∧ ((cellsFrom (s.heap.objs.size + 1) (defScope st).names []).lookup y.1).isSome = true) := fun ⟨n, v⟩ hy => by
    rcases S.par n (List.of_mem_zip hy).1 with q | q
    · exact .inl q
    · exact .inr ⟨q, PySem.W.cellsFrom_some _ _ _ (.inl q)⟩
  refine codeAny_call_function (by have := hr.dp; omega) (KX _ _ lk) rfl S.co S.gen rfl (PySem.W.codeRec_of KX hcd) (hb _ _ _ _ ?_)
  refine wpAny_newFunctionEnv_cells S.kind hkind fun env he s1 x1 => ?_
  subst he
  refine ⟨lim.keeps x1.toInCall.keep, codeAny_func ?_⟩
  obtain ⟨t, ht, hq⟩ := hbody f cdv A outer s H vs Q E (hr.deeper _) hsp
  have I := inv_startN (E := E) S e0 (len _ _ _ _ hsp) r x1
  refine wpAny_mono (ht [] s1 (start N vs) H _ I hq) (fun fl s' hs => ?_) fun e s' hs => False.elim hs
  have fin : ∀ {σ' : St} {H' : Hp} {v : V} {u : Value}, Inv (cxN P w K mg base N x (defScope st) f cdv A outer s H E) [] σ' H' s' → RelV v u → Q v H' → CE outer P w H s Q u s' :=
    fun {σ' H' v u} J rv q => ⟨v, H', J.os, J.bare, J.base, J.hok, rv, q⟩
  cases fl with
  | ret u =>
    obtain ⟨v, σ', H', J, rv, q⟩ := hs
    exact fin J rv q
  | next =>
    obtain ⟨σ', H', J, q⟩ := hs
    exact fin (v := V.non) (u := Value.none) J rfl q
  | brk =>
    obtain ⟨_, _, _, q⟩ := hs
    exact False.elim q
  | cont =>
    obtain ⟨_, _, _, q⟩ := hs
    exact False.elim q
end
section
variable {X : Cx}
theorem pe_callC {x : Str} {k : Nat} {sp : Sp} {e : Expr} {es : List Expr} {t : TA} {p pos : Pos} (C : CalleeN X.prog X.w X.K X.mg X.base x k sp) (hr : RoomN k X.A) (hg : Gl X x) (ha : PA X (e :: es) t)
    (he : starEach (e :: es) X.env = (false, eval e X.env) :: starEach es X.env := by rfl) (hpl : (backTo pos (starEach es X.env)).any (·.1) = false := by rfl) (hdb : (x == ("__debug__" : Str)) = false := by decide) :
    PE X (.Call (.Name x p) (e :: es) [] pos) (tCall sp [] E0 t) := by
  obtain ⟨f, fd, ps, F, hm, hk, hb⟩ := C
  intro pins s σ H Q I h
  refine wpAny_Call_Name_kw (ld_glob I hg hm ?_ hdb)
  refine PySem.W.callWith_K (h₀ := X.base) I.ok.mod.kin hk (thn (ha pos pins s σ H _ I h) fun us s1 ⟨vs, H1, I1, r, q⟩ => ⟨I1.kIn, ?_⟩) he hpl
  have r2 : Vals (vs ++ []) (us ++ []) := r.append .nil
  have hl : (us ++ []).length = ps.length := by rw [← r2.length]; exact F.len _ _ _ _ q
  refine wpAny_call (codeAny_mono (F.run X.A X.stack s1 H1 ⟨us, []⟩ (us ++ []) (vs ++ []) Q E0 hr I1.env0 (hb s1 us I1.kIn hl) r2 q) fun r3 s' hq => ?_)
  cases r3 with
  | error v => exact False.elim hq
  | ok fl =>
    cases fl with
    | ret u => exact I1.after hq
    | next => exact False.elim hq
    | brk => exact False.elim hq
    | cont => exact False.elim hq
/-- a global thing of the module, as a value -/
theorem pe_globR {x : Str} {a : Addr} {pos : Pos} (hm : X.mg x = some (.ref a)) (hg : Gl X x) (hd : (x == ("__debug__" : Str)) = false := by decide) : PE X (.Name x pos) (tC (.ref a)) := fun pins s σ H Q I q =>
  ld_glob I hg hm ⟨.ref a, H, I, rfl, q⟩ hd
end
end L2

set_option Elab.async false
set_option linter.all false
set_option maxRecDepth 100000
/-! isinstance of an exception of an own class. -/
namespace L2
open PySem PySem.Spec PyProof.Rows
/-- what isinstance asks of an own class -/
structure IsiCls (K : PySem.W.Frag) (D : Addr) : Prop where
  ga : PySem.W.findIn K (.ref D) "__getattribute__" = some (some (.builtin "BaseException.__getattribute__"))
  gt : PySem.W.findIn K (.ref D) "__getattr__" = some none
  mb : PySem.W.mroIn K D (.type "BaseException") = some true
  hd : PySem.W.hasDictIn K D = true
  ca : PySem.W.findIn K (.ref D) "__class__" = some (some (.builtin "object.__class__"))
  sp : PySem.W.specialIn K (.builtin "object.__class__") "__get__" = some (some (.builtin "getset_descriptor.__get__"))
  tk : PySem.W.takesIn K (.builtin "object.__class__") = some true
  mr : PySem.W.mroIn K D (.type "object") = some true
theorem excAt_inst {h : Heap} {x D : Addr} (e : ExcAt x (.ref D) h) : ∃ ox, PySem.W.InstAt h x ox D none := by
  obtain ⟨o, vs, z, c, d, f⟩ := e
  refine ⟨o, z, c, ?_, ?_⟩
  · rcases o with ⟨c', d', dt, sl⟩
    dsimp only at f
    subst f
    rfl
  · rw [d]
    trivial
theorem exc_class_attr {K : PySem.W.Frag} {x D : Addr} {ox : Obj} {prog : Program} {w : World} {A : Around} {E : Value → Shared → Prop} {s : Shared} {Q : Option Value → Shared → Prop}
    (X : K.In s.heap) (I : PySem.W.InstAt s.heap x ox D none) (C : IsiCls K D) (h : Q (some (.ref D)) { s with toks := s.toks + 1 }) : wpAny (model prog w) A (getAttr? (.ref x) "__class__") Q E s := by
  have hf : PySem.W.findObj K D none "__class__" = some (.bind (.builtin "getset_descriptor.__get__") (.builtin "object.__class__")) := by
    obtain ⟨cd, hc, _⟩ := PySem.W.any_some C.hd
    unfold PySem.W.findObj
    rw [hc]
    simp only [Option.bind_some, C.ca, C.sp, C.tk]
  obtain ⟨hh, g, d, t, os⟩ := s
  have L0 := I.type (M := model prog w)
  have L1 := PySem.W.looks_findIn (M := model prog w) X C.ga
  have L2 := PySem.W.looks_findIn (M := model prog w) X C.gt
  have L3 := PySem.W.looks_mroIn (M := model prog w) X C.mb
  have L4 := PySem.W.looks_find (M := model prog w) X I hf
  have hk : builtinKind "BaseException.__getattribute__" = some .slot := by decide +kernel
  have hsplit : splitId "BaseException.__getattribute__" = some ("BaseException", "__getattribute__") := by decide +kernel
  unfold getAttr? getAttrBy? getAttrBy
  refine wpAny_bind (wpAny_mkText (wpAny_bind (wpAny_attempt (wpAny_holding (wpAny_bind (L0.at (wpAny_bind (L1.at ?_))))))))
  show wpAny _ _ (getAttrByItsOwn _ _ _ _ _ _) _ _ _
  unfold getAttrByItsOwn
  refine wpAny_bind (L2.at (wpAny_bind (wpAny_attempt (wpAny_holding ?_))))
  show wpAny _ _ (boundAndCalled _ _ _) _ _ _
  unfold boundAndCalled
  rw [PySem.F.attr_ValueError.ga.bind]
  refine wpAny_bind (wpAny_pure (wpAny_call (codeAny_call_builtin PySem.F.attr_ValueError.ga.plain PySem.F.entry_bexc_ga ?_)))
  have ha := PySem.F.args_bexc_ga (.ref x) (.str "__class__" t)
  simp only [checkBuiltinCall, hk, hsplit]
  refine wpAny_bind ?_
  unfold isInstance
  refine wpAny_bind (L0.at (L3.at ?_))
  repeat (first | with_reducible refine L4.at ?_ | with_reducible refine L0.at ?_ | wp_step)
  refine PySem.W.class_get (s := ⟨hh, g, d, t + 1, os⟩) (ox := ox) (od := none) X I C.mr ?_
  refine wpAny_pure ?_
  exact PySem.W.handed_on rfl (wpAny_pure h)
theorem kitx_exc {K : PySem.W.Frag} {x D : Addr} (C : IsiCls K D) : PySem.W.KitX K (.ref x) (.ref D) (ExcAt x (.ref D)) where
  ty := fun _ _ _ e => by
    obtain ⟨ox, I⟩ := excAt_inst e
    exact I.type
  it := fun _ _ kin _ => by
    obtain ⟨cd, hc, _⟩ := PySem.W.any_some C.hd
    unfold PySem.W.clsIn at hc
    split at hc
    case h_2 => cases hc
    case h_1 look =>
      intro A' Q' E' s' k q
      unfold isType loadHead
      exact wpAny_bind (wpAny_loadPart (k _ _ (kin _ _ look)) (wpAny_pure q))
  ne := fun h tp dd its n sl kin htp => by
    obtain ⟨cd, hc, _⟩ := PySem.W.any_some C.hd
    cases q : ((Value.ref D) == .ref tp) with
    | false => rfl
    | true =>
      have e : D = tp := Value.ref.inj (beq_iff_eq.mp q)
      unfold PySem.W.clsIn at hc
      split at hc
      case h_2 => cases hc
      case h_1 look =>
        rw [e] at look
        have z := kin _ _ look
        rw [htp] at z
        cases z
  ca := fun {prog w A E Q s} kin e k => by
    obtain ⟨ox, I⟩ := excAt_inst e
    exact exc_class_attr kin I C k
/-- isinstance(e, c): e an exception of an own class -/
def rIsiX (K : PySem.W.Frag) : List V → Hp → VK → Prop := fun xs H Q => ∃ (e D : Addr) (x : V) (c : Value) (b : Bool), xs = [.ref e, x] ∧ (∀ u, RelV x u → u = c) ∧ H e = some (.ext (ExcAt e (.ref D))) ∧ IsiCls K D ∧ PySem.W.kitOne K (.ref D) c = some b ∧ Q (.bl b) H
theorem call_isinstanceX {X : Cx} (K : PySem.W.Frag) (hK : X.K = K := by rfl) : CallR X (.builtin "isinstance") (rIsiX K) := by
  subst hK
  intro pins s σ H xs us Q I r h
  obtain ⟨e, D, x, c, b, rfl, hc, he, C, hk, q⟩ := h
  obtain ⟨u, c', rfl, rx, rc⟩ := vals2 r
  cases (show u = Value.ref e from rx)
  cases hc c' rc
  have he' : ObjOk X.prog X.w H s.heap e (.ext (ExcAt e (.ref D))) := I.hok e _ he
  exact PySem.W.kia_one (kitx_exc C) I.kIn he'.1 hk (fun z => nomatch z) fun tk => ⟨.bl b, H, I.tok tk, rfl, q⟩
end L2

set_option Elab.async false
set_option linter.all false
set_option maxRecDepth 100000
namespace L2
open PySem PySem.Spec PyProof.Rows

/-! ### lists of pairs as tables -/
section
variable {κ : Type} [DecidableEq κ]
def valV (kvs : List (κ × V)) (k : κ) : Option V := (kvs.find? fun kv => decide (kv.1 = k)).map (·.2)
/-- in its place, or at the end -/
def putK (kvs : List (κ × V)) (k : κ) (v : V) : List (κ × V) :=
  if (kvs.any fun kv => decide (kv.1 = k)) = true then kvs.map (fun kv => if kv.1 = k then (kv.1, v) else kv) else kvs ++ [(k, v)]
def dropK (kvs : List (κ × V)) (k : κ) : List (κ × V) := kvs.filter fun kv => decide (kv.1 ≠ k)

theorem valV_pos {p : κ × V} {r : List (κ × V)} {k : κ} (e : p.1 = k) : valV (p :: r) k = some p.2 := by simp [valV, List.find?_cons, e]
theorem valV_neg {p : κ × V} {r : List (κ × V)} {k : κ} (e : ¬ p.1 = k) : valV (p :: r) k = valV r k := by simp [valV, List.find?_cons, e]
theorem valV_any (k : κ) : ∀ kvs : List (κ × V), (kvs.any fun kv => decide (kv.1 = k)) = (valV kvs k).isSome
  | [] => rfl
  | p :: r => by
    rw [List.any_cons]
    by_cases e : p.1 = k
    · simp only [valV_pos e, decide_eq_true e, Bool.true_or, Option.isSome_some]
    · rw [valV_neg e, decide_eq_false e, Bool.false_or]; exact valV_any k r
theorem valV_map (k j : κ) (y : V) : ∀ kvs : List (κ × V), valV (kvs.map fun kv => if kv.1 = k then (kv.1, y) else kv) j = (valV kvs j).map fun x => if j = k then y else x
  | [] => rfl
  | p :: r => by
    have ih := valV_map k j y r
    rw [List.map_cons]
    by_cases h : p.1 = k
    · rw [if_pos h]
      by_cases e : p.1 = j
      · rw [valV_pos (p := (p.1, y)) e, valV_pos e, Option.map_some, if_pos (e.symm.trans h)]
      · rw [valV_neg (p := (p.1, y)) e, valV_neg e, ih]
    · rw [if_neg h]
      by_cases e : p.1 = j
      · rw [valV_pos (p := p) e, valV_pos e, Option.map_some, if_neg (fun z => h (e.trans z))]
      · rw [valV_neg (p := p) e, valV_neg e, ih]
theorem valV_snoc (k j : κ) (y : V) : ∀ kvs : List (κ × V), valV kvs k = none → valV (kvs ++ [(k, y)]) j = if j = k then some y else valV kvs j
  | [], _ => by
    by_cases e : k = j
    · rw [if_pos e.symm]; exact valV_pos (p := (k, y)) e
    · rw [if_neg (fun z => e z.symm)]; exact valV_neg (p := (k, y)) e
  | p :: r, hn => by
    rw [List.cons_append]
    have hk : ¬ p.1 = k := fun z => by rw [valV_pos z] at hn; cases hn
    rw [valV_neg hk] at hn
    have ih := valV_snoc k j y r hn
    by_cases e : p.1 = j
    · rw [valV_pos e, valV_pos e, if_neg (fun z => hk (e.trans z))]
    · rw [valV_neg e, valV_neg e, ih]
theorem valV_put (kvs : List (κ × V)) (k j : κ) (y : V) : valV (putK kvs k y) j = if j = k then some y else valV kvs j := by
  unfold putK
  by_cases a : (kvs.any fun kv => decide (kv.1 = k)) = true
  · rw [if_pos a, valV_map]
    rw [valV_any] at a
    by_cases e : j = k
    · obtain ⟨x, hx⟩ := Option.isSome_iff_exists.mp a
      rw [if_pos e, e, hx, Option.map_some, if_pos rfl]
    · rw [if_neg e]
      cases valV kvs j with
      | none => rfl
      | some x => rw [Option.map_some, if_neg e]
  · rw [if_neg a]
    refine valV_snoc k j y kvs ?_
    rw [valV_any] at a
    cases q : valV kvs k with
    | none => rfl
    | some x => rw [q] at a; exact (a rfl).elim
theorem length_putK (kvs : List (κ × V)) (k : κ) (v : V) : (putK kvs k v).length ≤ kvs.length + 1 := by
  unfold putK
  split
  · rw [List.length_map]; omega
  · rw [List.length_append, List.length_cons, List.length_nil]; omega
/-- raw tables of the same keys -/
theorem KV.val {kvs : List (κ × V)} {vs : List (κ × Value)} (r : KV kvs vs) (k : κ) : RelO (valV kvs k) (valueAt vs k) := by
  unfold KV at r
  induction r with
  | nil => exact True.intro
  | @cons p q ps qs h t ih =>
    obtain ⟨h1, h2⟩ := h
    by_cases e : p.1 = k
    · have e' : q.1 = k := h1.symm.trans e
      have b : valueAt (q :: qs) k = some q.2 := by simp [valueAt, List.find?_cons, e']
      rw [valV_pos e, b]; exact h2
    · have e' : ¬ q.1 = k := fun z => e (h1.trans z)
      have b : valueAt (q :: qs) k = valueAt qs k := by simp [valueAt, List.find?_cons, e']
      rw [valV_neg e, b]; exact ih
theorem KV.any {kvs : List (κ × V)} {vs : List (κ × Value)} (r : KV kvs vs) (k : κ) : (kvs.any fun kv => decide (kv.1 = k)) = vs.any fun kv => decide (kv.1 = k) := by
  unfold KV at r
  induction r with
  | nil => rfl
  | cons h t ih => rw [List.any_cons, List.any_cons, ih, h.1]
theorem KV.repl {kvs : List (κ × V)} {vs : List (κ × Value)} (r : KV kvs vs) (k : κ) {y : V} {u : Value} (ry : RelV y u) :
    KV (kvs.map fun kv => if kv.1 = k then (kv.1, y) else kv) (vs.map fun kv => if kv.1 = k then (kv.1, u) else kv) := by
  unfold KV at r ⊢
  induction r with
  | nil => exact .nil
  | @cons p q ps qs h t ih =>
    rw [List.map_cons, List.map_cons]
    refine .cons ?_ ih
    obtain ⟨h1, h2⟩ := h
    by_cases e : p.1 = k
    · rw [if_pos e, if_pos (h1.symm.trans e)]; exact ⟨h1, ry⟩
    · rw [if_neg e, if_neg (fun z => e (h1.trans z))]; exact ⟨h1, h2⟩
theorem KV.put {kvs : List (κ × V)} {vs : List (κ × Value)} (r : KV kvs vs) (k : κ) {y : V} {u : Value} (ry : RelV y u) : KV (putK kvs k y) (stored vs k u) := by
  unfold putK stored
  rw [r.any k]
  by_cases e : (vs.any fun kv => decide (kv.1 = k)) = true
  · rw [if_pos e, if_pos e]; exact r.repl k ry
  · rw [if_neg e, if_neg e]; exact Paired.snoc r ⟨rfl, ry⟩
theorem KV.length {kvs : List (κ × V)} {vs : List (κ × Value)} (r : KV kvs vs) : kvs.length = vs.length := Paired.length r
end


/-! ### a tracked dict, its keys ints and texts or tuples of these -/
theorem kV_is {P : Program} {w : World} {k : Key} {u : Value} (r : RelV (kV k) u) : (mixKind P w).is k u = true := by
  cases k with
  | inl i => obtain ⟨t, e⟩ := (show ∃ t, u = Value.int i t from r); subst e; exact mixKind_int P w i t
  | inr x => obtain ⟨t, e⟩ := (show ∃ t, u = Value.str x t from r); subst e; exact mixKind_str P w x t
theorem items_are {P : Program} {w : World} : ∀ {ks : List Key} {us : List Value}, Vals (ks.map kV) us → ItemsAre (mixKind P w) ks us
  | [], _, r => by rw [List.map_nil] at r; cases r; exact .nil
  | k :: ks, _, r => by
    rw [List.map_cons] at r
    cases r with
    | cons h t => exact .cons (kV_is h) (items_are t)

/-- raw entries of a dict with tuple keys -/
abbrev KT (H : Hp) : List (List Key × V) → List (List Key × Addr × Value) → Prop := Paired fun p q => p.1 = q.1 ∧ H q.2.1 = some (.tup (p.1.map kV)) ∧ RelV p.2 q.2.2
theorem KT.val {H : Hp} {kvs : List (List Key × V)} {xs : List (List Key × Addr × Value)} (r : KT H kvs xs) (k : List Key) : RelO (valV kvs k) ((atKey xs k).map (·.2)) := by
  induction r with
  | nil => exact True.intro
  | @cons p q ps qs h t ih =>
    obtain ⟨h1, _, h2⟩ := h
    by_cases e : p.1 = k
    · have e' : q.1 = k := h1.symm.trans e
      have b : atKey (q :: qs) k = some q.2 := by simp [atKey, List.find?_cons, e']
      rw [valV_pos e, b]; exact h2
    · have e' : ¬ q.1 = k := fun z => e (h1.trans z)
      have b : atKey (q :: qs) k = atKey qs k := by simp [atKey, List.find?_cons, e']
      rw [valV_neg e, b]; exact ih
section
variable {P : Program} {w : World} {H : Hp} {h : Heap} {a : Addr}
theorem rd_of {u : HO} (ok : HOk P w H h) (e : Rd H a u) : ObjOk P w H h a u := e.ok ok
theorem dk_rd {kvs : List (Key × V)} (ok : HOk P w H h) (e : Rd H a (.dK kvs)) : kvs.length ≤ sizeLine ∧ (a == sysModules) = false ∧ ∃ vs, KV kvs vs ∧ h.DictOf (mixKind P w) a vs :=
  show ObjOk P w H h a (.dK kvs) from rd_of ok e
/-- a tracked tuple of ints and texts is a key -/
theorem key_of {ks : List Key} (ok : HOk P w H h) (e : H a = some (.tup (ks.map kV))) : (tupleKind (mixKind P w)).is h ks a := by
  obtain ⟨_, its, r, o, h1, h2, n, h3⟩ := (show ObjOk P w H h a (.tup (ks.map kV)) from ok a _ e)
  exact ⟨o, its.toArray, n, h1, h2, h3, by simpa using items_are r⟩
theorem dt_rd {kvs : List (List Key × V)} (ok : HOk P w H h) (e : Rd H a (.dT kvs)) : kvs.length ≤ sizeLine ∧ (a == sysModules) = false ∧
    ∃ xs, KT H kvs xs ∧ h.DictOfH (tupleKind (mixKind P w)) a xs := by
  obtain ⟨z, y, xs, r, o, es, ep, h1, h2, h3, h4, h5⟩ := (show ObjOk P w H h a (.dT kvs) from rd_of ok e)
  refine ⟨z, y, xs, r, o, es, ep, h1, h2, h3, h4, fun x hx => ?_, h5⟩
  have all : ∀ {l : List (List Key × V)} {m : List (List Key × Addr × Value)}, KT H l m → ∀ x ∈ m, (tupleKind (mixKind P w)).is h x.1 x.2.1 := by
    intro l m q
    induction q with
    | nil => intro x hx; exact nomatch hx
    | @cons p q ps qs hq t ih =>
      intro x hx
      rcases List.mem_cons.mp hx with e | hx
      · subst e
        exact key_of ok (by rw [← hq.1]; exact hq.2.1)
      · exact ih x hx
  exact all r x hx
end

/-- what the dict at a holds at the key y -/
def DGet (H : Hp) (a : Addr) (y : V) (r : Option V) : Prop :=
  (∃ kvs k, Rd H a (.dK kvs) ∧ y = kV k ∧ r = valV kvs k) ∨ ∃ kvs k b, Rd H a (.dT kvs) ∧ y = .ref b ∧ H b = some (.tup (k.map kV)) ∧ r = valV kvs k
/-- the heap behind a[y] = v -/
def DPut (H : Hp) (a : Addr) (y v : V) (H' : Hp) : Prop :=
  (∃ kvs k, H a = some (.dK kvs) ∧ y = kV k ∧ kvs.length < sizeLine ∧ H' = upd H a (.dK (putK kvs k v))) ∨
  ∃ kvs k b, H a = some (.dT kvs) ∧ y = .ref b ∧ H b = some (.tup (k.map kV)) ∧ kvs.length < sizeLine ∧ H' = upd H a (.dT (putK kvs k v))
theorem DGet.k {H : Hp} {a : Addr} {kvs : List (Key × V)} {k : Key} (e : H a = some (.dK kvs)) : DGet H a (kV k) (valV kvs k) := .inl ⟨kvs, k, .inl e, rfl, rfl⟩
section
variable {X : Cx} {pins : List (Addr × Obj)} {σ : St} {H : Hp} {s : Shared} {a : Addr} {y v : V} {u r : Value} {o : Option V} {A : Around} {E : Value → Shared → Prop}

theorem Inv.big (I : Inv X pins σ H s) : sysModules < s.heap.objs.size := by
  have h : mainGlobals < s.heap.objs.size := (I.mod.glob.keeps I.bk).lt
  exact Nat.lt_trans (by decide) h

/-- d[y], there -/
theorem d_getItem {Q : Value → Shared → Prop} (hu : A.units + 1 < cLine) (I : Inv X pins σ H s) (g : DGet H a y (some v)) (ry : RelV y u) (h : ∀ w' s', Inv X pins σ H s' → RelV v w' → Q w' s') :
    wpAny (model X.prog X.w) A (getItem (.ref a) u) Q E s := by
  rcases g with ⟨kvs, k, e, ey, l⟩ | ⟨kvs, k, b, e, ey, eb, l⟩
  · subst ey
    obtain ⟨z, hd, vs, rel, dd⟩ := dk_rd I.hok e
    obtain ⟨w', hw, rw'⟩ := RelO.some_of (v := v) (o := valueAt vs k) (by rw [l]; exact rel.val k)
    exact wpAny_getItem_of (kV_is ry) dd.mapOf hw (h w' _ (I.tok _) rw')
  · subst ey
    cases (show u = Value.ref b from ry)
    obtain ⟨z, hd, xs, rel, dd⟩ := dt_rd I.hok e
    obtain ⟨w', hw, rw'⟩ := RelO.some_of (v := v) (o := (atKey xs k).map (·.2)) (by rw [l]; exact rel.val k)
    obtain ⟨p, hp, hp2⟩ := Option.map_eq_some_iff.mp hw
    refine wpAny_getItem_heap (tupleKind_room_in1 hu) (key_of I.hok eb) dd hp ?_
    rw [hp2]
    exact h w' _ (I.tok _) rw'
end

section
variable {X : Cx} {pins : List (Addr × Obj)} {σ : St} {H : Hp} {s : Shared} {a : Addr} {kvs : List (Key × V)} {k : Key} {u : Value} {A : Around} {E : Value → Shared → Prop}
end


/-! ### readings and rules -/
/-- the element of a subscription, not a slice -/
def NoSl (i : Expr) : Prop := ∀ ov iv, subscripted i false ov iv = operate [ov, iv] (getItem ov iv)
theorem subD_of {prog : Program} {w : World} {A : Around} {E : Value → Shared → Prop} {s : Shared} {env : Env} {value slice : Expr} {pos : Pos} {T id : String} {Q : Value → Shared → Prop}
    (hl : typeLookup (.type T) "__getitem__" = pure (some (.builtin id))) (hs : NoSl slice)
    (h : wpAny (model prog w) A (eval value env) (fun o s₁ => wpAny (model prog w) A (eval slice env) (fun i s₂ => s₂.TypeIs o T ∧ wpAny (model prog w) A (getItem o i) Q E s₂) E s₁) E s) :
    wpAny (model prog w) A (eval (.Subscript value slice pos) env) Q E s := by
  refine Subscript_ (wpAny_mono h (fun o s₁ h₁ => wpAny_mono h₁ (fun i s₂ h₂ => ?_) fun _ _ x => x) fun _ _ x => x)
  obtain ⟨hT, h₂⟩ := h₂
  unfold subscriptTail
  refine wpAny_bind ?_
  rw [getitemInPython_of_ne hT.not_modules]
  refine wpAny_bind (wpAny_specialOf hT hl ?_)
  have fin : wpAny (model prog w) A (subscripted slice false o i) (fun r s₃ => wpAny (model prog w) A (letTemporaryGo value o r >>= fun _ => pure r) Q E s₃) E s₂ := by
    rw [hs o i]
    exact wpAny_operating (wpAny_mono h₂ (fun r s₃ h₃ => wpAny_bind (wpAny_letTemporaryGo (wpAny_pure h₃))) fun _ _ x => x)
  first
    | exact wpAny_pure (wpAny_bind fin)
    | exact wpAny_bind (wpAny_pure (wpAny_bind fin))
    | exact wpAny_bind fin

theorem dict_typeIs {X : Cx} {pins : List (Addr × Obj)} {σ : St} {H : Hp} {s : Shared} {a : Addr} {y : V} {o : Option V} (I : Inv X pins σ H s) (g : DGet H a y o) : s.TypeIs (.ref a) "dict" := by
  rcases g with ⟨kvs, k, e, _, _⟩ | ⟨kvs, k, b, e, _, _, _⟩
  · obtain ⟨_, _, vs, _, dd⟩ := dk_rd I.hok e
    exact dd.typeIs
  · obtain ⟨_, _, xs, _, dd⟩ := dt_rd I.hok e
    exact dd.typeIs
/-- d[y] -/
def tDGet (td ty : TE) : TE := fun σ H Q => td σ H fun x H1 => ty σ H1 fun y H2 => ∃ a v, x = .ref a ∧ DGet H2 a y (some v) ∧ Q v H2
/-- y in d, y not in d -/
def tDIn (ty td : TE) : TE := fun σ H Q => ty σ H fun y H1 => td σ H1 fun x H2 => ∃ a o, x = .ref a ∧ DGet H2 a y o ∧ Q (.bl o.isSome) H2
def tDNotIn (ty td : TE) : TE := fun σ H Q => ty σ H fun y H1 => td σ H1 fun x H2 => ∃ a o, x = .ref a ∧ DGet H2 a y o ∧ Q (.bl (!o.isSome)) H2
/-- d[y] = v -/
def sDPut (td ty tv : TE) : TS := fun D σ H => tv σ H fun v H1 => td σ H1 fun x H2 => ty σ H2 fun y H3 => ∃ a H4, x = .ref a ∧ DPut H3 a y v H4 ∧ D.nx σ H4
/-- d[y] op= v -/
def sDAug (td ty tv : TE) (rd : V → V → Hp → VK → Prop) : TS := fun D σ H => td σ H fun x H1 => ty σ H1 fun y H2 => ∃ a v, x = .ref a ∧ DGet H2 a y (some v) ∧
  tv σ H2 fun y2 H3 => rd v y2 H3 fun z H4 => ∃ H5, DPut H4 a y z H5 ∧ D.nx σ H5
/-- del d[y] -/
def sDDel (td ty : TE) : TS := fun D σ H => td σ H fun x H1 => ty σ H1 fun y H2 => ∃ a kvs k, x = .ref a ∧ H2 a = some (.dK kvs) ∧ y = kV k ∧ (valV kvs k).isSome = true ∧ D.nx σ (upd H2 a (.dK (dropK kvs k)))

section
variable {X : Cx} {o i e value : Expr} {pos pos' tpos : Pos} {td ty tv : TE}
theorem pe_dget (hu : X.A.units + 1 < cLine) (ho : PE X o td) (hi : PE X i ty) (hs : NoSl i) : PE X (.Subscript o i pos) (tDGet td ty) := by
  intro pins s σ H Q I h
  refine subD_of PySem.F.slot_dict_getitem.lookup hs (thn (ho pins s σ H _ I h) fun u s1 ⟨x, H1, I1, rx, q1⟩ => thn (hi pins s1 σ H1 _ I1 q1) fun iv s2 ⟨y, H2, I2, ry, a, v, ex, g, q2⟩ => ?_)
  subst ex
  obtain rfl : u = Value.ref a := rx
  exact ⟨dict_typeIs I2 g, d_getItem hu I2 g ry fun w' s3 I3 rw' => ⟨v, H2, I3, rw', q2⟩⟩
end


end L2

set_option Elab.async false
set_option linter.all false
set_option maxRecDepth 100000
/-! {key: value for ..}: a dict out of a comprehension of one clause -/
namespace L2
open PySem PySem.Spec PyProof.Rows
section
variable {prog : Program} {w : World} {A : Around} {E : Value → Shared → Prop} {R : Result → Shared → Prop} {s : Shared}
theorem compLoop_anyD {kx vx target iter : Expr} {ifs : List Expr} {scope : Scope} {pos : Pos} {it : Value} {D : Addr} {env : Env} (I : Nat → Shared → Prop)
    (turn : ∀ n s, I n s → wpAny (model prog w) A (pyNext it) (fun r s₁ => match r with
      | none => R (.ok .next) s₁
      | some v => wpAny (model prog w) A (letOwnedTupleGo target it v) (fun _ s₀ => wpAny (model prog w) A (assign target env v) (fun _ s₂ =>
          wpAny (model prog w) A (forIn ifs true fun c r => if r = true then do let ok ← isTrue c env (eval c env); pure (ForInStep.yield ok) else pure (ForInStep.yield r)) (fun ok s₃ =>
            if ok = true then wpAny (model prog w) A (eval kx env) (fun x s₄ => wpAny (model prog w) A (eval vx env) (fun y s₅ =>
              wpAny (model prog w) A (dictSet D x y) (fun _ s₆ => ∃ m, m < n ∧ I m s₆) (fun _ _ => False) s₅) (fun _ _ => False) s₄) (fun _ _ => False) s₃
            else ∃ m, m < n ∧ I m s₃) (fun _ _ => False) s₂) (fun _ _ => False) s₀) (fun _ _ => False) s₁) (fun _ _ => False) s)
    (n : Nat) (h : I n s) :
    codeAny (model prog w) A (.compLoop (.DictComp kx vx [⟨target, iter, ifs, 0⟩] scope pos) 0 it (.ref D) env) R s := by
  refine codeAny_loop rfl I (fun n s hI => ?_) n h
  show wpAny _ A ((compTurn (.DictComp kx vx [⟨target, iter, ifs, 0⟩] scope pos) 0 it (.ref D) env).onRaise (fun x => do noteFrame x env; theTreesLotGoes x)) _ _ s
  refine wpAny_noted ?_
  rw [compTurn_dict]
  have nf : ∀ {α : Type} {m : Sem α} {Q : α → Shared → Prop} {F : Value → Shared → Prop} {s : Shared}, wpAny (model prog w) A m Q (fun _ _ => False) s → wpAny (model prog w) A m Q F s := fun h => wpAny_mono h (fun _ _ x => x) fun _ _ x => x.elim
  refine wpAny_bind (wpAny_standAt (wpAny_bind (wpAny_mono (nf (turn n s hI)) (fun r s₁ h₁ => ?_) fun _ _ h' => h')))
  cases r with
  | none => exact wpAny_pure h₁
  | some v =>
    refine wpAny_bind (wpAny_mono (nf h₁) (fun _ s₀ h₀ => ?_) fun _ _ h' => h')
    refine wpAny_bind (wpAny_mono (nf h₀) (fun _ s₂ h₂ => wpAny_bind (wpAny_mono (nf h₂) (fun ok s₃ h₃ => ?_) fun _ _ h' => h')) fun _ _ h' => h')
    cases ok with
    | false => exact wpAny_pure ⟨rfl, h₃⟩
    | true =>
      refine wpAny_bind (wpAny_bind (wpAny_mono (nf h₃) (fun x s₄ h₄ => wpAny_bind (wpAny_holding (wpAny_mono (nf h₄) (fun y s₅ h₅ => wpAny_bind (wpAny_standAt (wpAny_holding (wpAny_mono (nf h₅) (fun _ s₆ h₆ => wpAny_pure ⟨rfl, h₆⟩) fun _ _ h' => h')))) fun _ _ h' => h'))) fun _ _ h' => h'))
end
def DCompI (J : It) (g : TG) (ti : TT) (tk tv : TE) (σc : St) (H1 : Hp) (Q : VK) : Prop := ∃ W : Nat → Nat → List (Key × V) → Hp → Prop, (∃ m, W 0 m [] H1) ∧ ∀ i m ys H, W i m ys H → ys.length < sizeLine ∧
  ((J.stop i H ∧ ∀ l, H l = none → Q (.ref l) (upd H l (.dK ys))) ∨ (J.go i H ∧ ∃ M : List (Key × V) → Hp → Prop, (∀ ys' H', M ys' H' → ∃ m', m' < m ∧ W (i + 1) m' ys' H') ∧
    ∀ x H', J.yld i H x H' → g x σc H' fun σ2 H2 => ti σ2 H2 fun b H3 => if b = true then tk σ2 H3 fun y H4 => ∃ k : Key, y = kV k ∧ tv σ2 H4 fun v H5 => M (putK ys k v) H5 else M ys H3))
def tDComp (fr : List (Option Nat)) (wi : TI) (g : TG) (ti : TT) (tk tv : TE) : TE := fun σ H Q => wi σ H fun J H1 => DCompI J g ti tk tv (stC fr σ) H1 Q
section
variable {X : Cx} {scope : Scope} {N : List Str} {fr : List (Option Nat)} {tg iter kx vx : Expr} {ifs : List Expr} {pos : Pos} {J : It} {g : TG} {ti : TT} {tk tv : TE}
theorem dcomp_core {pins : List (Addr × Obj)} {σ : St} {H : Hp} {s₂ : Shared} {it : Addr} {fp : List Addr} {tn : Nat → Heap → Prop} {Q : VK} {E : Value → Shared → Prop} (c : CompOk X scope N fr) (hc : X.calm = true) (I : Inv X pins σ H s₂)
    (T : Turn X.prog X.w X.K tg J fp it tn) (st : tn 0 s₂.heap) (hfp : ∀ b ∈ fp, FpOk X pins H b)
    (hg : ∀ C, PG (cxC X scope C N s₂ H fp) tg g) (hi : ∀ C, PIfs (cxC X scope C N s₂ H fp) ifs ti) (hk : ∀ C, PE (cxC X scope C N s₂ H fp) kx tk) (hv : ∀ C, PE (cxC X scope C N s₂ H fp) vx tv) (gw : GW fr g) (hq : DCompI J g ti tk tv (stC fr σ) H Q)
    {RR : Value → Addr → Result → Shared → Prop}
    (hRR : ∀ D C H' ys s', Inv X pins σ (upd H' D (.dK ys)) s' → Aside X pins (upd H' D (.dK ys)) C → (∃ m, s'.heap.Ns C m) → Q (.ref D) (upd H' D (.dK ys)) → RR (.ref D) C (.ok .next) s') :
    wpAny (model X.prog X.w) X.A newDict (fun acc s₃ => wpAny (model X.prog X.w) X.A (newFunctionEnv scope X.env.globals (clOf X.env scope.names []) [] X.env.qual none .none (some X.env)) (fun cenv s₄ =>
      codeAny (model X.prog X.w) X.A (.compStart (.DictComp kx vx [⟨tg, iter, ifs, 0⟩] scope pos) 0 (.ref it) acc { cenv with scope := relabel scope X.env }) (RR acc cenv.locals) s₄) E s₃) E s₂ := by
  refine wpAny_newObj_type (wpAny_newFunctionEnv c.ncell (by intro y hy; simp at hy) (fun h₁ hns₁ hsb₁ => ?_) c.kind)
  dsimp only at hns₁ hsb₁ ⊢
  generalize hH2 : s₂.heap.push { cls := .type "dict", dict := none, data := .dict #[] } = H2 at hns₁ hsb₁ ⊢
  have hC : H2.objs.size = s₂.heap.objs.size + 1 := by rw [← hH2, Heap.size_push]
  have hCle : s₂.heap.objs.size ≤ H2.objs.size := by rw [hC]; exact Nat.le_succ _
  have hDC : s₂.heap.objs.size ≠ H2.objs.size := by rw [hC]; exact Nat.ne_of_lt (Nat.lt_succ_self _)
  have old : ∀ b o, s₂.heap.get? b = some o → h₁.get? b = some o := fun b o e => hsb₁.extBut b o (by rw [hC]; exact Nat.ne_of_lt (Nat.lt_succ_of_lt (Heap.lt_size e))) (Heap.get?_push_of_some _ (hH2 ▸ Heap.get?_push_of_some _ e))
  have hacc : h₁.get? s₂.heap.objs.size = some { cls := .type "dict", dict := none, data := .dict #[] } := hsb₁.extBut _ _ hDC (Heap.get?_push_of_some _ (hH2 ▸ Heap.get?_push_size _ rfl))
  have hsys : sysModules < s₂.heap.objs.size := I.big
  have hdd : h₁.DictOf (mixKind X.prog X.w) s₂.heap.objs.size [] := ⟨_, #[], _, hacc, ⟨rfl, rfl, rfl⟩, rfl, by intro e he; simp at he, .nil, List.nodup_nil⟩
  generalize hD : s₂.heap.objs.size = D at *
  generalize hCC : H2.objs.size = C at *
  have hfp2 : ∀ b ∈ fp, FpOk X pins H b ∧ b < s₂.heap.objs.size := fun b hb => ⟨hfp b hb, by obtain ⟨o, e, _⟩ := T.obj _ _ st b hb; exact Heap.lt_size e⟩
  have hns₂ : h₁.Ns C fun _ => none := hns₁
  have I0 : Inv (cxC X scope C N s₂ H fp) [] (stC fr σ) H { s₂ with heap := h₁, toks := s₂.toks + ([] : List (Str × Value)).length } := comp_inv c I (by rw [hD]; exact hCle) hfp2 old hns₂
  have st₁ : tn 0 h₁ := T.keep _ _ _ st fun b hb o e => old b o e
  have hDn : ∀ b ∈ fp, b ≠ D := fun b hb => by rw [← hD]; exact Nat.ne_of_lt (hfp2 b hb).2
  -- what is true of the list that grows
  have dAs : ∀ {H' : Hp}, H' D = none → (D ≠ (cxC X scope C N s₂ H fp).env.locals ∧ (cxC X scope C N s₂ H fp).s₀.heap.objs.size ≤ D ∧ ∀ x a, (cxC X scope C N s₂ H fp).env.cells.lookup x = some a → a ≠ D) := fun hn => ⟨hDC, Nat.le_of_eq hD, fun x a e z => by
    obtain ⟨v, o, ho, _⟩ := I.cell x a (c.get I.ok e)
    have := Heap.lt_size ho
    rw [z, ← hD] at this
    exact Nat.lt_irrefl _ this⟩
  obtain ⟨W, ⟨m0, w0⟩, turn⟩ := hq
  have loop : codeAny (model X.prog X.w) X.A (.compLoop (.DictComp kx vx [⟨tg, iter, ifs, 0⟩] scope pos) 0 (.ref it) (.ref D) (compEnvC scope (clOf X.env scope.names []) C X.env)) (RR (.ref D) C) { s₂ with heap := h₁, toks := s₂.toks + ([] : List (Str × Value)).length } := by
    refine compLoop_anyD (fun n s' => ∃ i ys us H', Inv (cxC X scope C N s₂ H fp) [] (stC fr σ) H' s' ∧ tn i s'.heap ∧ (∀ b ∈ fp, H' b = none) ∧ s'.heap.DictOf (mixKind X.prog X.w) D us ∧ KV ys us ∧ H' D = none ∧ W i n ys H') ?_ m0
      ⟨0, [], [], H, I0, st₁, fun b hb => (hfp b hb).1, hdd, .nil, by rw [← hD]; exact I.hok.fresh (Nat.le_refl _), w0⟩
    rintro n s3 ⟨i, ys, us, H3, I3, st3, fr3, hDd3, rv3, hDn3, w3⟩
    obtain ⟨dob, es, ep, hD3, hex, hdat, hks, hprs, hnd⟩ := hDd3
    have asD : ∀ {h : Heap}, h.get? D = some dob → h.DictOf (mixKind X.prog X.w) D us := fun e => ⟨dob, es, ep, e, hex, hdat, hks, hprs, hnd⟩
    obtain ⟨hlen, alt⟩ := turn i n ys H3 w3
    obtain ⟨d1, d2, d3⟩ := dAs hDn3
    -- the list pinned
    have I3p : Inv (cxC X scope C N s₂ H fp) [(D, dob)] (stC fr σ) H3 s3 := I3.pins_of fun p hp => by
      have e : p = (D, dob) := by simpa using hp
      subst e
      refine ⟨hD3, hDn3, d1, fun z => ?_, fun v e => by rw [hdat] at e; cases e⟩
      have z' : D ∈ frs X.stack := z
      rcases List.mem_cons.mp (I.stkSub D z') with e | e
      · have := I.lt
        rw [← e, ← hD] at this
        exact Nat.lt_irrefl _ this
      · exact I.nofs (Nat.le_of_eq hD) e
    have stat : ∀ {H' : Hp}, (∀ b ∈ fp, H' b = none) → ∀ b ∈ fp, FpOk (cxC X scope C N s₂ H fp) [(D, dob)] H' b := fun hn b hb => by
      obtain ⟨q1, q2⟩ := hfp2 b hb
      refine ⟨hn b hb, Nat.ne_of_lt (Nat.lt_of_lt_of_le q2 (by rw [hD]; exact hCle)), fun z => ?_, .inl hb, fun x a e => q1.2.2.2.2.1 x a (c.get I.ok e), fun p hp => ?_⟩
      · exact (comp_ok c I (by rw [hD]; exact hCle) hfp2).exfs b hb z
      · have e : p = (D, dob) := by simpa [cxC] using hp
        subst e
        exact (hDn b hb).symm
    rcases alt with ⟨stop, qn⟩ | ⟨go, M, hM, step⟩
    · refine thn (T.done (cxC X scope C N s₂ H fp) rfl rfl rfl hc i _ s3 _ H3 _ I3p (stat fr3) st3 stop) fun r s4 ⟨hr, I4⟩ => ?_
      subst hr
      have pD := (I4.pin (D, dob) (by simp)).1
      have I4' : Inv (cxC X scope C N s₂ H fp) [] (stC fr σ) H3 s4 := I4.pins_of fun p hp => absurd hp (by simp)
      have IX : Inv X pins σ H3 s4 := I.call' I4'.os I4'.base I4'.hok I4'.bare fun b hb => by
        obtain ⟨q1, q2, q3, q4, q5, q6⟩ := hfp b hb
        exact ⟨q4, q2, q5, q6⟩
      have aD : Aside X pins H3 D := I.aside (Nat.le_of_eq hD) hDn3
      have IT : Inv X pins σ (upd H3 D (.dK ys)) s4 := IX.track hDn3 aD.ne aD.ab aD.cl aD.pn ⟨Nat.le_of_lt hlen, beq_eq_false_iff_ne.mpr (Ne.symm (Nat.ne_of_lt hsys)), us, rv3, asD pD⟩
      refine hRR D C H3 ys s4 IT ?_ ?_ (qn D hDn3)
      · refine I.aside (by rw [hD]; exact hCle) ?_
        rw [upd_ne (Ne.symm hDC)]
        exact I4'.free
      · obtain ⟨m, hm, _⟩ := I4'.loc
        exact ⟨m, hm⟩
    · refine thn (T.item (cxC X scope C N s₂ H fp) rfl rfl rfl hc i _ s3 _ H3 _ I3p (stat fr3) st3 go) fun r s4 ⟨u, hr, h4⟩ => ?_
      subst hr
      refine thn h4 fun _ s5 ⟨x, H5, I5, r5, y5, st5, fr5⟩ => ?_
      have I5' := I5.pinned (stat fr5) (T.obj _ _ st5)
      refine thn (hg C _ s5 _ H5 x u _ I5' r5 (gw x _ H5 _ _ (fun σ2 H2 wk q => And.intro wk q) (step x H5 y5))) fun _ s6 ⟨σ6, H6, I6, wk6, q6⟩ => ?_
      refine thn (hi C _ s6 σ6 H6 _ I6 q6) fun ok s7 ⟨H7, I7, q7⟩ => ?_
      have back : ∀ {σ8 : St} {H8 : Hp} {s8 : Shared}, σ8 = σ6 → Inv (cxC X scope C N s₂ H fp) ([(D, dob)] ++ pinsAt fp s5.heap) σ8 H8 s8 → Inv (cxC X scope C N s₂ H fp) [] (stC fr σ) H8 s8 ∧ tn (i + 1) s8.heap ∧ (∀ b ∈ fp, H8 b = none) ∧ s8.heap.get? D = some dob ∧ H8 D = none := fun {σ8 H8 s8} e8 I8 => by
        subst e8
        have pf : ∀ b o, b ∈ fp → s5.heap.get? b = some o → s8.heap.get? b = some o ∧ H8 b = none := fun b o hb e => by
          have := I8.pin (b, o) (List.mem_append_right _ (List.mem_append_right _ (mem_pinsAt hb e)))
          exact ⟨this.1, this.2.1⟩
        refine ⟨(I8.pins_of (pins' := []) fun p hp => absurd hp (by simp)).weak wk6.1.symm fun a v e => ?_, T.keep _ _ _ st5 fun b hb o e => (pf b o hb e).1, fun b hb => ?_, (I8.pin (D, dob) (by simp)).1, (I8.pin (D, dob) (by simp)).2.1⟩
        · obtain ⟨j, f1, _⟩ := stC_get e
          rw [wk6.2 a j f1]
          exact e
        · obtain ⟨o, e, _⟩ := T.obj _ _ st5 b hb
          exact (pf b o hb e).2
      cases ok with
      | false =>
        obtain ⟨m', hm, w7⟩ := hM _ _ (by simpa using q7)
        obtain ⟨a1, a2, a3, a4, a5⟩ := back rfl I7
        exact ⟨m', hm, i + 1, ys, us, H7, a1, a2, a3, asD a4, rv3, a5, w7⟩
      | true =>
        have q7' : tk σ6 H7 fun y H4 => ∃ k : Key, y = kV k ∧ tv σ6 H4 fun v H5 => M (putK ys k v) H5 := by simpa using q7
        refine thn (hk C _ s7 σ6 H7 _ I7 q7') fun kv s8 ⟨y, H8, I8, ry, kk, ey, q8⟩ => ?_
        subst ey
        refine thn (hv C _ s8 σ6 H8 _ I8 q8) fun vv s9 ⟨v, H9, I9, rv, q9⟩ => ?_
        obtain ⟨m', hm, w9⟩ := hM _ _ q9
        obtain ⟨a1, a2, a3, a4, a5⟩ := back rfl I9
        have hus : us.length ≤ sizeLine := by
          rw [← rv3.length]
          exact Nat.le_of_lt hlen
        refine wpAny_dictSet_pairs (kV_is ry) (asD a4) (fun h₅ hd₅ hs₅ => ?_) hus
        obtain ⟨e1, e2, e3⟩ := dAs a5
        exact ⟨m', hm, i + 1, putK ys kk v, _, H9, a1.turned (t' := s9.toks + 1) (fun b o hb e => (hs₅.2 b hb).trans e) a5 e1 (.inr e2) e3 (fun p hp => absurd (show p ∈ ([] : List (Addr × Obj)) from hp) (by simp)), T.keep _ _ _ a2 fun b hb o e => (hs₅.2 b (hDn b hb)).trans e, a3, hd₅, rv3.put kk rv, a5, w9⟩
  exact codeAny_compStart_dict loop (T.self _ _ _ _ _ st₁ loop)

theorem ps_setDC {wi : TI} {i : Nat} {x : Str} {pos' spos : Pos} (hN : X.N.Nodup) (hn : X.N[i]? = some x) (hx : Loc X.env.scope x) (c : CompOk X scope N fr) (hc : X.calm = true) (hi : PI X tg iter wi) (hg : ∀ C s₂ H fp, PG (cxC X scope C N s₂ H fp) tg g) (hf : ∀ C s₂ H fp, PIfs (cxC X scope C N s₂ H fp) ifs ti) (hk : ∀ C s₂ H fp, PE (cxC X scope C N s₂ H fp) kx tk) (hv : ∀ C s₂ H fp, PE (cxC X scope C N s₂ H fp) vx tv) (gw : GW fr g)
    (hsw : swapsWith (.DictComp kx vx [⟨tg, iter, ifs, 0⟩] scope pos) (some (.Name x pos')) spos.line X.env = pure true := by rfl) (hs : ∀ x, foldedSetIterable iter X.env x = pure x := by intro _; rfl)
    (hfl : X.fn x = true ∨ X.env.scope.names.lookup x = some .local := by first | exact .inl rfl | exact .inr rfl | assumption) :
    PS X (.Assign [.Name x pos'] (.DictComp kx vx [⟨tg, iter, ifs, 0⟩] scope pos) spos) (tAsg (tDComp fr wi g ti tk tv) (gName i)) := by
  intro pins s σ H Q I h
  rw [exec_Assign_Name_used _ _ _ _ hsw]
  refine wpAny_bind (wpAny_standAt (wpAny_bind ?_))
  show wpAny _ X.A (do let _ ← comprehension (.DictComp kx vx [⟨tg, iter, ifs, 0⟩] scope pos) scope X.env _ newDict false (eval iter X.env) (some (assign (.Name x pos') X.env))) _ _ s
  refine wpAny_bind (wpAny_mono (wpAny_comprehension_free (use := some (assign (.Name x pos') X.env)) (Q := fun _ s' => SP X pins Q .next s') rfl hs (closure_eq (c.cells I.ok)) c.kind c.names
    (thn (hi pins s σ H _ I h) fun v s1 h1 => thn h1 fun itv s2 h2 => ?_)) (fun _ s' hq => wpAny_pure (wpAny_pure hq)) fun _ _ e => e)
  obtain ⟨it, fp, tn, J, H2, e, I2, T, st2, f2, q⟩ := h2
  subst e
  refine dcomp_core (RR := fun acc C => compPost (model X.prog X.w) X.A X.xe (some (assign (.Name x pos') X.env)) (fun _ s' => SP X pins Q .next s') acc C) c hc I2 T st2 f2 (fun C => hg C _ _ _) (fun C => hf C _ _ _) (fun C => hk C _ _ _) (fun C => hv C _ _ _) gw q ?_
  intro D C H' ys s' IT as hm q
  obtain ⟨m, hm⟩ := hm
  show wpAny _ X.A (assign (.Name x pos') X.env (.ref D)) _ _ _
  refine wpAny_assign_Name (store_ok2 IT hN hn hx (v := .ref D) rfl (fun s2 I3 hsb => ?_) hfl)
  obtain ⟨a, sb, ha⟩ := hsb
  have hne : C ≠ a := by
    rcases ha with ha | ha
    · rw [ha]; exact as.ne
    · exact (as.cl _ _ ha).symm
  refine ⟨m, hm.sameBut sb hne, fun h' sb' => ⟨_, _, I3.turned (t' := s2.toks) (fun b o hb e => (sb'.2 b hb).trans e) as.fr as.ne (.inr as.ab) as.cl as.pn, q⟩⟩
end
end L2

set_option Elab.async false
set_option linter.all false
namespace M
/-! ### wheels: plain mathematics -/
def drag (p a x : Int) : Int := if x < a - p then a - p else if a + p < x then a + p else x
def isTr (ps : List Int) : Prop := 1 ≤ ps.length ∧ ps.length ≤ 12 ∧ ∀ p ∈ ps, 0 ≤ p
def keeps : List Int → Int → List Int → Prop
  | p :: ps, a, x :: xs => (x - a ≤ p ∧ a - x ≤ p) ∧ keeps ps x xs
  | _, _, _ => True
def stand (ps : List Int) (a : Int) (xs : List Int) : Prop := xs.length = ps.length ∧ keeps ps a xs
def dragAll : List Int → List Int → Int → List Int
  | p :: ps, x :: xs, a => drag p a x :: dragAll ps xs (drag p a x)
  | _, _, _ => []
def lastOf : Int → List Int → Int
  | a, [] => a
  | _, x :: xs => lastOf x xs
theorem dropc {α : Type} {xs : List α} {i : Nat} {x : α} (h : xs[i]? = some x) : xs.drop i = x :: xs.drop (i + 1) := by
  obtain ⟨hl, e⟩ := List.getElem?_eq_some_iff.mp h
  rw [List.drop_eq_getElem_cons hl, e]
/-! ### rows; wheels by themselves -/
def runs (ps : List Int) : List Int → List Int → List (List Int)
  | _, [] => []
  | ws, c :: row => dragAll ps ws c :: runs ps (dragAll ps ws c) row
def hung (d : Int) : Int → List Int → List Int
  | _, [] => []
  | x, c :: row => drag d c x :: hung d (drag d c x) row
def alone : Int → List Int → List Int → Int → List Int
  | d, p :: ps, x :: xs, a => drag (d + p) a x :: alone (d + p) ps xs a
  | _, _, _, _ => []
def depths : Int → List Int → List Int
  | _, [] => []
  | d, p :: ps => (d + p) :: depths (d + p) ps
/-! ### rows cut, rows filled -/
def endW (ps : List Int) : List Int → List Int → List Int
  | ws, [] => ws
  | ws, c :: row => endW ps (dragAll ps ws c) row
/-- places on the way, in order -/
def Path (a c : Int) : List Int → Prop
  | [] => True
  | s :: ss => ((a ≤ s ∧ s ≤ c) ∨ (c ≤ s ∧ s ≤ a)) ∧ Path s c ss
/-- a row, filled; the marks tell where the row's own places stand -/
def FillOk (a : Int) (row : List Int) (i : Nat) (fs ms : List Int) : Prop := ∀ ps ws : List Int, (∀ p ∈ ps, 0 ≤ p) → keeps ps a ws →
  endW ps ws fs = endW ps ws (row.take i) ∧ ∀ k : Nat, k < i → ∃ m : Nat, ms[k]? = some (m : Int) ∧ m < fs.length ∧ (runs ps ws fs)[m]? = (runs ps ws row)[k]?
def apps : Nat → List (List Int) → List (List Int)
  | _, [] => []
  | k, x :: xs => (x ++ [(k : Int)]) :: apps (k + 1) xs
theorem take_snoc_get {α : Type} {xs : List α} {j : Nat} {x : α} (h : xs[j]? = some x) : xs.take (j + 1) = xs.take j ++ [x] := by
  rw [List.take_add_one, h]; rfl
end M

set_option Elab.async false
set_option linter.all false
namespace M
/-! ### errands: pieces by their numbers, the handle -1 -/
def pc (xs : List Int) (h : Int) (w : Int) : Int := if w < 0 then h else xs.getD w.toNat 0
abbrev Fn := Int → Int
abbrev Must := Int × Int
def mp (D G : Fn) (m : Must) : Int := G m.1 + m.2 * D m.1
def bey (D G : Fn) (a : Must) (w : Int) : Prop := (mp D G a - G w) * a.2 > D w
instance (D G : Fn) (a : Must) (w : Int) : Decidable (bey D G a w) := inferInstanceAs (Decidable (_ > _))
def sgn (F G : Fn) (w : Int) : Int := if F w < G w then 1 else -1
def fm (F G : Fn) : Nat → List Must
  | 0 => if F (-1) = G (-1) then [] else [(-1, sgn F G (-1))]
  | k + 1 => if F k = G k then fm F G k else [((k : Int), sgn F G k)]
def rst (D G : Fn) : Nat → Must → List Must
  | 0, a => if bey D G a (-1) then [(-1, -a.2)] else []
  | k + 1, a => if bey D G a k then ((k : Int), -a.2) :: rst D G k ((k : Int), -a.2) else rst D G k a
def rstOf (D G : Fn) (a : Must) : List Must := if a.1 < 0 then [] else rst D G a.1.toNat a
def paper (n : Nat) (D F G : Fn) : List Must := match fm F G n with
  | [] => []
  | a :: _ => a :: rstOf D G a
/-- where a wheel alone comes to -/
def goj (d x : Int) (row : List Int) : Int := row.foldl (fun x a => drag d a x) x
/-- of the pieces -1 .. n - 1 -/
def Pcs (n : Nat) (D G : Fn) : Prop := D (-1) = 0 ∧ ∀ i j : Int, -1 ≤ i → i ≤ j → j < n → 0 ≤ D i ∧ D i ≤ D j ∧ G j - G i ≤ D j - D i ∧ G i - G j ≤ D j - D i
/-! ### papers -/
def okMust (n : Nat) (m : Must) : Prop := -1 ≤ m.1 ∧ m.1 < n ∧ (m.2 = 1 ∨ m.2 = -1)
def fstOk (F G : Fn) (m : Must) : Prop := F m.1 ≠ G m.1 ∧ m.2 = sgn F G m.1
def nxt (D G : Fn) (a m : Must) : Prop := m.2 = -a.2 ∧ bey D G a m.1
def chain (n : Nat) (D G : Fn) : Must → List Must → Prop
  | _, [] => True
  | a, m :: ms => okMust n m ∧ nxt D G a m ∧ chain n D G m ms
def isPap (n : Nat) (D F G : Fn) : List Must → Prop
  | [] => True
  | m :: ms => okMust n m ∧ fstOk F G m ∧ chain n D G m ms
/-- a paper, must by must -/
def stepAt (D F G : Fn) (ms : List Must) (k : Nat) : Prop := ∀ m, ms[k]? = some m → (k = 0 → fstOk F G m) ∧ ∀ a, 0 < k → ms[k - 1]? = some a → nxt D G a m
/-! ### ways -/
def ab (i : Int) : Int := if i < 0 then -i else i
def way : Int → List Int → Int
  | _, [] => 0
  | h, x :: r => ab (x - h) + way x r
def wayL : List Int → Int
  | [] => 0
  | h :: r => way h r
/-! ### by loops going down -/
def rr (D G : Fn) : Nat → Must → List Must
  | 0, _ => []
  | k + 1, a => rst D G k a
def ff (F G : Fn) : Nat → List Must
  | 0 => []
  | k + 1 => fm F G k
/-! ### lists -/
/-- the told row -/
def told (ps : List Int) (h : Int) (ws : List Int) (e : Int) (gs : List Int) : List Must := paper ps.length (pc (depths 0 ps) 0) (pc ws h) (pc gs e)
def toldRow (ps : List Int) (h : Int) (ws : List Int) (e : Int) (gs : List Int) : List Int := (told ps h ws e gs).map (mp (pc (depths 0 ps) 0) (pc gs e))
end M

set_option Elab.async false
set_option linter.all false
namespace M
/-! ### turning places -/
def mvFrom : Int → List Int → List Int
  | _, [] => []
  | l, x :: r => if x = l then mvFrom l r else x :: mvFrom x r
def moves : List Int → List Int
  | [] => []
  | x :: r => x :: mvFrom x r
def tn : Int → Int → List Int → List Int
  | _, b, [] => [b]
  | a, b, c :: r => if decide (a < b) = decide (c < b) then b :: tn b c r else tn b c r
def tl (h : Int) : List Int → List Int
  | [] => []
  | c :: m => tn h c m
def turn : List Int → List Int
  | [] => []
  | a :: m => a :: tl a m
/-- unlike each to the next -/
def ch : Int → List Int → Prop
  | _, [] => True
  | a, b :: r => b ≠ a ∧ ch b r
theorem ch_mv : ∀ (r : List Int) (l : Int), ch l (mvFrom l r)
  | [], _ => trivial
  | x :: r, l => by
    simp only [mvFrom]
    split
    · exact ch_mv r l
    · rename_i h
      exact ⟨h, ch_mv r x⟩
/-- up: z lies above the one ahead of it; the rest by turns -/
def alts : Bool → Int → List Int → Prop
  | _, _, [] => True
  | true, z, y :: r => y < z ∧ alts false y r
  | false, z, y :: r => z < y ∧ alts true y r
/-- places doubled -/
def rep (n : Nat) : List Int → List Int
  | [] => []
  | x :: r => List.replicate n x ++ rep n r
theorem mv_length : ∀ (r : List Int) (l : Int), (mvFrom l r).length ≤ r.length
  | [], _ => by simp [mvFrom]
  | x :: r, l => by
    simp only [mvFrom]
    split
    · have := mv_length r l; simp; omega
    · have := mv_length r x; simp; omega
/-! ### going by the turning places -/
/-- h: the last turning reached; p: where the row is; rest: the turnings ahead; m: the moves ahead -/
def GoSt (h p : Int) (rest m : List Int) : Prop := (p = h ∧ rest = tl h m) ∨ (p ≠ h ∧ rest = tn h p m ∧ ∀ t rs, rest = t :: rs → t ≠ p)
def altL : List Int → Prop
  | a :: b :: r => b ≠ a ∧ alts (decide (a < b)) b r
  | _ => True
end M

set_option Elab.async false
set_option linter.all false
namespace M
/-! ### standing places: a row and its standing places do the same to whatever is dragged -/
def btw (a c p : Int) : Prop := (a ≤ p ∧ p ≤ c) ∨ (c ≤ p ∧ p ≤ a)
def fo {σ : Type} (f : Int → σ → σ) (x : σ) (L : List Int) : σ := L.foldl (fun y p => f p y) x
theorem fo_app {σ : Type} (f : Int → σ → σ) (x : σ) (L M : List Int) : fo f x (L ++ M) = fo f (fo f x L) M := by unfold fo; rw [List.foldl_append]
theorem fo_cons {σ : Type} (f : Int → σ → σ) (x : σ) (p : Int) (L : List Int) : fo f x (p :: L) = fo f (f p x) L := rfl
theorem fo_nil {σ : Type} (f : Int → σ → σ) (x : σ) : fo f x [] = x := rfl
/-- what lies between two places that are both gone to leaves nothing -/
structure Sys {σ : Type} (f : Int → σ → σ) : Prop where
  idem : ∀ p x, f p (f p x) = f p x
  wipe : ∀ (a c : Int) (L0 L1 : List Int) (x : σ), (∀ p ∈ L0, btw a c p) → (∀ p ∈ L1, btw a c p) → fo f x (L0 ++ a :: (L1 ++ [c])) = f c (f a x)
def StdOf (row S : List Int) : Prop := ∀ (σ : Type) (f : Int → σ → σ), Sys f → ∀ x, fo f x row = fo f x S
theorem Sys.same {σ : Type} {f : Int → σ → σ} (h : Sys f) {p : Int} : ∀ (L : List Int) (x : σ), (∀ q ∈ L, q = p) → fo f (f p x) L = f p x
  | [], x, _ => rfl
  | q :: L, x, hq => by
    rw [hq q List.mem_cons_self, fo_cons, h.idem, h.same L x fun q hq' => hq q (List.mem_cons_of_mem _ hq')]
theorem mv_one : ∀ (r : List Int) (l : Int), mvFrom l r = [] → ∀ q ∈ r, q = l
  | [], l, _, q, h => by simp at h
  | x :: r, l, e, q, h => by
    simp only [mvFrom] at e
    split at e
    · rename_i hx
      rcases List.mem_cons.mp h with z | z
      · rw [z]; exact hx
      · exact mv_one r l e q z
    · cases e
theorem tl_len : ∀ (m : List Int) (h : Int), m ≠ [] → 1 ≤ (tl h m).length
  | [], h, z => absurd rfl z
  | c :: m, h, _ => by
    have go : ∀ (m : List Int) (a b : Int), 1 ≤ (tn a b m).length := by
      intro m
      induction m with
      | nil => intro a b; simp [tn]
      | cons c m ih =>
        intro a b
        simp only [tn]
        split
        · simp
        · exact ih b c
    exact go m h c
/-- a row that stays at one place -/
theorem std_short {row : List Int} (h : (turn (moves row)).length < 2) : StdOf row (turn (moves row)) ∧ (turn (moves row)).getLast? = row.getLast? ∧ (∀ p ∈ turn (moves row), p ∈ row) ∧ (turn (moves row)).length ≤ row.length := by
  cases row with
  | nil => exact ⟨fun _ _ _ _ => rfl, rfl, by simp [moves, turn], by simp [moves, turn]⟩
  | cons a r =>
    have e : mvFrom a r = [] := by
      cases q : mvFrom a r with
      | nil => rfl
      | cons c m =>
        simp only [moves, turn, q, List.length_cons] at h
        have := tl_len (c :: m) a (by simp)
        omega
    have hall := mv_one r a e
    have et : turn (moves (a :: r)) = [a] := by simp [moves, turn, e, tl]
    rw [et]
    refine ⟨fun σ f hf x => ?_, ?_, by simp, by simp⟩
    · rw [fo_cons, hf.same r x hall]
      rfl
    · cases r with
      | nil => rfl
      | cons b r =>
        have : (a :: b :: r).getLast? = some ((a :: b :: r).getLast (by simp)) := List.getLast?_eq_some_getLast (by simp)
        rw [this]
        have hm := List.getLast_mem (l := a :: b :: r) (by simp)
        rcases List.mem_cons.mp hm with z | z
        · simp [z]
        · rw [hall _ z]; rfl
theorem turn_long {row : List Int} (h : ¬ (turn (moves row)).length < 2) : ∃ p ∈ row, ∃ q ∈ row, p ≠ q := by
  cases row with
  | nil => simp [moves, turn] at h
  | cons a r =>
    cases q : mvFrom a r with
    | nil => simp [moves, turn, q, tl] at h
    | cons c m =>
      have hne : ∀ (r : List Int) (l c : Int) (m : List Int), mvFrom l r = c :: m → c ∈ r ∧ c ≠ l := by
        intro r
        induction r with
        | nil => intro l c m e; simp [mvFrom] at e
        | cons x r ih =>
          intro l c m e
          simp only [mvFrom] at e
          split at e
          · obtain ⟨h1, h2⟩ := ih l c m e
            exact ⟨List.mem_cons_of_mem _ h1, h2⟩
          · rename_i hx
            cases e
            exact ⟨List.mem_cons_self, hx⟩
      obtain ⟨h1, h2⟩ := hne r a c m q
      exact ⟨c, List.mem_cons_of_mem _ h1, a, List.mem_cons_self, h2⟩
/-- t is the last time of c -/
def LastT (row : List Int) (c : Int) (t : Nat) : Prop := row[t]? = some c ∧ ∀ k, t < k → row[k]? ≠ some c
theorem LastT.uniq {row : List Int} {c : Int} {t u : Nat} (h : LastT row c t) (g : LastT row c u) : t = u := by
  rcases Nat.lt_trichotomy t u with z | z | z
  · exact absurd g.1 (h.2 u z)
  · exact z
  · exact absurd h.1 (g.2 t z)
/-- how far the standing places have been told -/
structure Told (row S : List Int) (c : Int) (t : Nat) (b : Bool) : Prop where
  lt : LastT row c t
  en : ∃ ini, S = ini ++ [c]
  sub : ∀ p ∈ S, p ∈ row
  len : S.length ≤ t + 1
  side : ∀ p ∈ row.drop (t + 1), if b then p < c else c < p
  fold : ∀ (σ : Type) (f : Int → σ → σ), Sys f → ∀ x, fo f x (row.take (t + 1)) = fo f x S
theorem mem_drop_iff {row : List Int} {n : Nat} {p : Int} : p ∈ row.drop n ↔ ∃ k, n ≤ k ∧ row[k]? = some p := by
  constructor
  · intro h
    obtain ⟨i, hi⟩ := List.mem_iff_getElem?.mp h
    rw [List.getElem?_drop] at hi
    exact ⟨n + i, by omega, hi⟩
  · rintro ⟨k, hk, e⟩
    refine List.mem_iff_getElem?.mpr ⟨k - n, ?_⟩
    rw [List.getElem?_drop, show n + (k - n) = k by omega]
    exact e
theorem mem_mid {row : List Int} {a n : Nat} {p : Int} (h : p ∈ (row.drop a).take n) : ∃ k, a ≤ k ∧ k < a + n ∧ row[k]? = some p := by
  obtain ⟨i, hi⟩ := List.mem_iff_getElem?.mp h
  rw [List.getElem?_take] at hi
  split at hi
  · rw [List.getElem?_drop] at hi
    exact ⟨a + i, by omega, by omega, hi⟩
  · cases hi
theorem take_cut {row : List Int} {t u : Nat} {c : Int} (h : t < u) (hc : row[u]? = some c) : row.take (u + 1) = row.take (t + 1) ++ ((row.drop (t + 1)).take (u - t - 1) ++ [c]) := by
  rw [take_snoc_get hc, ← List.append_assoc]
  congr 1
  rw [← List.take_append_drop (t + 1) (row.take u), List.take_take, Nat.min_eq_left (by omega), List.drop_take]
  congr 2
theorem told_first {row : List Int} {m M : Int} {tm tM : Nat} (hm : LastT row m tm) (hM : LastT row M tM) (hb : ∀ p ∈ row, m ≤ p ∧ p ≤ M) (hne : m ≠ M) :
    (tm < tM → Told row [m, M] M tM true) ∧ (¬ tm < tM → Told row [M, m] m tm false) := by
  have hmm : m ∈ row := List.mem_of_getElem? hm.1
  have hMM : M ∈ row := List.mem_of_getElem? hM.1
  have cut : ∀ {a c : Int} {ta tc : Nat}, row[ta]? = some a → row[tc]? = some c → ta < tc → row.take (tc + 1) = row.take ta ++ a :: ((row.drop (ta + 1)).take (tc - ta - 1) ++ [c]) := by
    intro a c ta tc ha hc hlt
    rw [take_cut hlt hc, take_snoc_get ha, List.append_assoc]
    rfl
  refine ⟨fun h => ⟨hM, ⟨[m], rfl⟩, ?_, by simp; omega, fun p hp => ?_, fun σ f hf x => ?_⟩, fun h => ?_⟩
  · intro p hp
    simp at hp
    rcases hp with rfl | rfl
    · exact hmm
    · exact hMM
  · obtain ⟨k, hk, e⟩ := mem_drop_iff.mp hp
    have h1 := (hb p (List.mem_of_getElem? e)).2
    have h2 : p ≠ M := fun z => hM.2 k (by omega) (z ▸ e)
    simp only [if_true]
    omega
  · rw [cut hm.1 hM.1 h]
    refine (hf.wipe m M _ _ x (fun p hp => .inl (hb p (List.mem_of_mem_take hp))) fun p hp => ?_).trans rfl
    obtain ⟨k, _, _, e⟩ := mem_mid hp
    exact .inl (hb p (List.mem_of_getElem? e))
  · have hlt : tM < tm := by
      rcases Nat.lt_trichotomy tm tM with z | z | z
      · exact absurd z h
      · exfalso
        have h1 := hm.1
        rw [z, hM.1] at h1
        exact hne (Option.some.inj h1).symm
      · exact z
    refine ⟨hm, ⟨[M], rfl⟩, ?_, by simp; omega, fun p hp => ?_, fun σ f hf x => ?_⟩
    · intro p hp
      simp at hp
      rcases hp with rfl | rfl
      · exact hMM
      · exact hmm
    · obtain ⟨k, hk, e⟩ := mem_drop_iff.mp hp
      have h1 := (hb p (List.mem_of_getElem? e)).1
      have h2 : p ≠ m := fun z => hm.2 k (by omega) (z ▸ e)
      simp only [Bool.false_eq_true, if_false]
      omega
    · rw [cut hM.1 hm.1 hlt]
      refine (hf.wipe M m _ _ x (fun p hp => .inr (hb p (List.mem_of_mem_take hp))) fun p hp => ?_).trans rfl
      obtain ⟨k, _, _, e⟩ := mem_mid hp
      exact .inr (hb p (List.mem_of_getElem? e))
theorem told_next {row S : List Int} {c d : Int} {t u : Nat} {b : Bool} (T : Told row S c t b) (hd : d ∈ row.drop (t + 1)) (hu : LastT row d u) (hx : ∀ p ∈ row.drop (t + 1), if b then d ≤ p else p ≤ d) : t < u ∧ Told row (S ++ [d]) d u (!b) := by
  obtain ⟨k, hk, e⟩ := mem_drop_iff.mp hd
  have htu : t < u := by
    rcases Nat.lt_or_ge u k with z | z
    · exact absurd e (hu.2 k z)
    · omega
  refine ⟨htu, hu, ⟨S, rfl⟩, ?_, by have := T.len; simp; omega, fun p hp => ?_, fun σ f hf x => ?_⟩
  · intro p hp
    rcases List.mem_append.mp hp with z | z
    · exact T.sub p z
    · simp at z; subst z; exact List.mem_of_getElem? e
  · obtain ⟨k2, hk2, e2⟩ := mem_drop_iff.mp hp
    have h1 := hx p (mem_drop_iff.mpr ⟨k2, by omega, e2⟩)
    have h2 : p ≠ d := fun z => hu.2 k2 (by omega) (z ▸ e2)
    cases b <;> simp at h1 ⊢ <;> omega
  · obtain ⟨ini, hini⟩ := T.en
    rw [take_cut htu hu.1, fo_app, T.fold σ f hf x, fo_app, hini, fo_app]
    have hmid : ∀ p ∈ (row.drop (t + 1)).take (u - t - 1), btw c d p := fun p hp => by
      have hp2 := List.mem_of_mem_take hp
      have h1 := hx p hp2
      have h2 := T.side p hp2
      cases b <;> simp at h1 h2
      · exact .inl ⟨by omega, h1⟩
      · exact .inr ⟨h1, by omega⟩
    have w := hf.wipe c d [] _ (fo f x ini) (by simp) hmid
    rw [List.nil_append, fo_cons, fo_app] at w
    rw [fo_app f x (ini ++ [c]) [d], fo_app f x ini [c]]
    exact w
/-- a slow switch -/
def swf (lo hi : Int) (c : Int) (b : Bool) : Bool := if hi ≤ c then true else if c ≤ lo then false else b
theorem sw_on {lo hi : Int} : ∀ (L : List Int), (∀ p ∈ L, lo < p) → fo (swf lo hi) true L = true
  | [], _ => rfl
  | p :: L, h => by
    have hp := h p List.mem_cons_self
    rw [fo_cons]
    have : swf lo hi p true = true := by unfold swf; split; rfl; rw [if_neg (by omega)]
    rw [this]
    exact sw_on L fun q hq => h q (List.mem_cons_of_mem _ hq)
theorem sw_off {lo hi : Int} : ∀ (L : List Int), (∀ p ∈ L, p < hi) → fo (swf lo hi) false L = false
  | [], _ => rfl
  | p :: L, h => by
    have hp := h p List.mem_cons_self
    rw [fo_cons]
    have : swf lo hi p false = false := by unfold swf; rw [if_neg (by omega)]; split <;> rfl
    rw [this]
    exact sw_off L fun q hq => h q (List.mem_cons_of_mem _ hq)
theorem sw_sys {lo hi : Int} (h : lo < hi) : Sys (swf lo hi) := by
  refine ⟨fun p x => ?_, fun a c L0 L1 x h0 h1 => ?_⟩
  · unfold swf
    split
    · rfl
    · split <;> rfl
  · rw [show L0 ++ a :: (L1 ++ [c]) = (L0 ++ a :: L1) ++ [c] by simp, fo_app]
    show swf lo hi c _ = _
    by_cases c1 : hi ≤ c
    · unfold swf; rw [if_pos c1, if_pos c1]
    · by_cases c2 : c ≤ lo
      · unfold swf; rw [if_neg c1, if_neg c1, if_pos c2, if_pos c2]
      · have key : fo (swf lo hi) x (L0 ++ a :: L1) = swf lo hi a x := by
          rw [fo_app, fo_cons]
          by_cases a1 : hi ≤ a
          · have e : ∀ y, swf lo hi a y = true := fun y => by unfold swf; rw [if_pos a1]
            rw [e, e, sw_on L1 fun p hp => by rcases h1 p hp with z | z <;> omega]
          · by_cases a2 : a ≤ lo
            · have e : ∀ y, swf lo hi a y = false := fun y => by unfold swf; rw [if_neg a1, if_pos a2]
              rw [e, e, sw_off L1 fun p hp => by rcases h1 p hp with z | z <;> omega]
            · have e : ∀ y, swf lo hi a y = y := fun y => by unfold swf; rw [if_neg a1, if_neg a2]
              have stay : ∀ (L : List Int) (y : Bool), (∀ p ∈ L, btw a c p) → fo (swf lo hi) y L = y := by
                intro L y hL
                cases y with
                | true => exact sw_on L fun p hp => by rcases hL p hp with z | z <;> omega
                | false => exact sw_off L fun p hp => by rcases hL p hp with z | z <;> omega
              rw [stay L0 x h0, e, stay L1 x h1]
        rw [key]
end M

set_option Elab.async false
set_option linter.all false
namespace M
/-! ### the standing places are one list; another row with the same ones -/
/-- how standing places are told, one by one -/
inductive Gen (row : List Int) : List Int → Int → Nat → Bool → Prop
  | up {m M : Int} {tm tM : Nat} : LastT row m tm → LastT row M tM → (∀ p ∈ row, m ≤ p ∧ p ≤ M) → m ≠ M → tm < tM → Gen row [m, M] M tM true
  | down {m M : Int} {tm tM : Nat} : LastT row m tm → LastT row M tM → (∀ p ∈ row, m ≤ p ∧ p ≤ M) → m ≠ M → ¬ tm < tM → Gen row [M, m] m tm false
  | next {S : List Int} {c d : Int} {t u : Nat} {b : Bool} : Gen row S c t b → d ∈ row.drop (t + 1) → LastT row d u → (∀ p ∈ row.drop (t + 1), if b then d ≤ p else p ≤ d) → Gen row (S ++ [d]) d u (!b)
theorem Gen.told {row S : List Int} {c : Int} {t : Nat} {b : Bool} (h : Gen row S c t b) : Told row S c t b := by
  induction h with
  | up h1 h2 h3 h4 h5 => exact (told_first h1 h2 h3 h4).1 h5
  | down h1 h2 h3 h4 h5 => exact (told_first h1 h2 h3 h4).2 h5
  | next _ h1 h2 h3 ih => exact (told_next ih h1 h2 h3).2
/-- each next one strictly within the two ahead of it -/
def Nest : List Int → Prop
  | a :: c :: r => a ≠ c ∧ (match r with | [] => True | d :: _ => (a < c → a < d ∧ d < c) ∧ (c < a → c < d ∧ d < a)) ∧ Nest (c :: r)
  | _ => True
theorem nest_snoc {a c d : Int} : ∀ (ini : List Int), Nest (ini ++ [a, c]) → ((a < c → a < d ∧ d < c) ∧ (c < a → c < d ∧ d < a)) → Nest (ini ++ [a, c, d])
  | [], h, k => by
    have hne : a ≠ c := h.1
    have hcd : c ≠ d := by
      rcases Int.lt_or_gt_of_ne hne with z | z
      · have := k.1 z
        omega
      · have := k.2 z
        omega
    exact ⟨hne, k, ⟨hcd, trivial, trivial⟩⟩
  | [x], h, k => by
    have hne : a ≠ c := h.2.2.1
    exact ⟨h.1, h.2.1, nest_snoc [] h.2.2 k⟩
  | x :: y :: ini, h, k => ⟨h.1, by cases ini <;> exact h.2.1, nest_snoc (y :: ini) h.2.2 k⟩
def sbtw (a c p : Int) : Prop := (a < p ∧ p < c) ∨ (c < p ∧ p < a)
theorem Gen.nest {row S : List Int} {c : Int} {t : Nat} {b : Bool} (h : Gen row S c t b) : ∃ ini a, S = ini ++ [a, c] ∧ Nest S ∧ (b = true ↔ a < c) ∧ ∀ p ∈ row.drop (t + 1), sbtw a c p := by
  induction h with
  | @up m M tm tM h1 h2 h3 h4 h5 =>
    have hm := h3 M (List.mem_of_getElem? h2.1)
    refine ⟨[], m, rfl, ⟨h4, trivial, trivial⟩, ⟨fun _ => by omega, fun _ => rfl⟩, fun p hp => ?_⟩
    obtain ⟨k, hk, e⟩ := mem_drop_iff.mp hp
    have q := h3 p (List.mem_of_getElem? e)
    have n1 : p ≠ M := fun z => h2.2 k (by omega) (z ▸ e)
    have n2 : p ≠ m := fun z => h1.2 k (by omega) (z ▸ e)
    exact .inl ⟨by omega, by omega⟩
  | @down m M tm tM h1 h2 h3 h4 h5 =>
    have hm := h3 M (List.mem_of_getElem? h2.1)
    refine ⟨[], M, rfl, ⟨Ne.symm h4, trivial, trivial⟩, ⟨fun z => (Bool.noConfusion z), fun z => by omega⟩, fun p hp => ?_⟩
    obtain ⟨k, hk, e⟩ := mem_drop_iff.mp hp
    have q := h3 p (List.mem_of_getElem? e)
    have n1 : p ≠ M := fun z => h2.2 k (by omega) (z ▸ e)
    have n2 : p ≠ m := fun z => h1.2 k (by omega) (z ▸ e)
    exact .inr ⟨by omega, by omega⟩
  | @next S c d t u b g h1 h2 h3 ih =>
    obtain ⟨ini, a, e, hN, hb, hs⟩ := ih
    have hd := hs d h1
    obtain ⟨htu, T2⟩ := told_next g.told h1 h2 h3
    refine ⟨ini ++ [a], c, by rw [e]; simp, ?_, ?_, fun p hp => ?_⟩
    · rw [e]
      rw [e] at hN
      rw [List.append_assoc]
      exact nest_snoc ini hN ⟨fun z => by rcases hd with q | q <;> omega, fun z => by rcases hd with q | q <;> omega⟩
    · cases b with
      | true =>
        have := hb.mp rfl
        exact ⟨fun z => (Bool.noConfusion z), fun z => by rcases hd with q | q <;> omega⟩
      | false =>
        have : ¬ a < c := fun z => by have := hb.mpr z; cases this
        exact ⟨fun _ => by rcases hd with q | q <;> omega, fun _ => rfl⟩
    · obtain ⟨k, hk, e2⟩ := mem_drop_iff.mp hp
      have q1 := hs p (mem_drop_iff.mpr ⟨k, by omega, e2⟩)
      have q2 := T2.side p hp
      cases b with
      | true =>
        have := hb.mp rfl
        simp at q2
        exact .inr ⟨q2, by rcases q1 with q | q <;> omega⟩
      | false =>
        have : ¬ a < c := fun z => by have := hb.mpr z; cases this
        simp at q2
        exact .inl ⟨by rcases q1 with q | q <;> omega, q2⟩
/-- a row that is led by standing places -/
structure Other (O S : List Int) : Prop where
  rng : ∀ a c, S[0]? = some a → S[1]? = some c → ∀ p ∈ O, btw a c p
  mark : ∀ j c, S[j]? = some c → ∃ P R, O = P ++ c :: R ∧ (∀ d, S[j + 1]? = some d → d ∈ R ∧ ∀ p ∈ R, btw c d p) ∧ (S[j + 1]? = none → R = [])
/-! ### wheels -/
def cl (l u y : Int) : Int := if y < l then l else if u < y then u else y
/-! ### growing a row that is led by standing places -/
structure Grow (O S : List Int) (n : Nat) : Prop where
  rng : ∀ a c, S[0]? = some a → S[1]? = some c → ∀ p ∈ O, btw a c p
  mark : ∀ j c, j < n → S[j]? = some c → ∃ P R, O = P ++ c :: R ∧ (∀ d, S[j + 1]? = some d → (j + 1 < n → d ∈ R) ∧ ∀ p ∈ R, btw c d p) ∧ (j + 1 = n → R = [])
theorem turn_short {h : Int} {r : List Int} (hl : (turn (moves (h :: r))).length < 2) : turn (moves (h :: r)) = [h] := by
  cases q : mvFrom h r with
  | nil => simp [moves, turn, q, tl]
  | cons c m =>
    simp only [moves, turn, q, List.length_cons] at hl
    have := tl_len (c :: m) h (by simp)
    omega
end M

set_option Elab.async false
set_option linter.all false
namespace M
/-! ### standing places as a function; two lists of standing places that all switches take alike are one -/
theorem nest_all : ∀ (r : List Int) (b c : Int), Nest (b :: c :: r) → ∀ p ∈ r, sbtw b c p
  | [], b, c, _, p, hp => by simp at hp
  | d :: r, b, c, h, p, hp => by
    have hd : sbtw b c d := by
      have k := h.2.1
      rcases Int.lt_or_gt_of_ne h.1 with q | q
      · exact .inl (k.1 q)
      · exact .inr (k.2 q)
    rcases List.mem_cons.mp hp with z | z
    · rw [z]; exact hd
    · have := nest_all r c d h.2.2 p z
      rcases this with y | y <;> rcases hd with x | x
      · exact .inr ⟨by omega, by omega⟩
      · exact .inr ⟨by omega, by omega⟩
      · exact .inl ⟨by omega, by omega⟩
      · exact .inl ⟨by omega, by omega⟩
theorem swf_on {lo hi c : Int} (h : hi ≤ c) (x : Bool) : swf lo hi c x = true := by unfold swf; rw [if_pos h]
theorem swf_off {lo hi c : Int} (h1 : c < hi) (h2 : c ≤ lo) (x : Bool) : swf lo hi c x = false := by unfold swf; rw [if_neg (by omega), if_pos h2]
theorem swf_stay {lo hi c : Int} (h1 : c < hi) (h2 : lo < c) (x : Bool) : swf lo hi c x = x := by unfold swf; rw [if_neg (by omega), if_neg (by omega)]
theorem sep_core : ∀ (n : Nat) (a b : Int) (r1 r2 : List Int), r1.length + r2.length ≤ n → Nest (a :: b :: r1) → Nest (a :: b :: r2) →
    (∀ lo hi, lo < hi → min a b ≤ lo → hi ≤ max a b → fo (swf lo hi) (decide (a < b)) r1 = fo (swf lo hi) (decide (a < b)) r2) → r1 = r2 := by
  intro n
  induction n with
  | zero =>
    intro a b r1 r2 hl _ _ _
    cases r1 with
    | nil =>
      cases r2 with
      | nil => rfl
      | cons _ _ => simp at hl
    | cons _ _ => simp at hl
  | succ n ih =>
    have empty : ∀ (a b c : Int) (r : List Int), Nest (a :: b :: c :: r) → (∀ lo hi, lo < hi → min a b ≤ lo → hi ≤ max a b → decide (a < b) = fo (swf lo hi) (decide (a < b)) (c :: r)) → False := by
      intro a b c r hN h
      have hc := nest_all _ a b hN c List.mem_cons_self
      have hr := nest_all _ b c hN.2.2
      rcases Int.lt_or_gt_of_ne hN.1 with q | q
      · have hcb : c < b ∧ a < c := by rcases hc with z | z <;> omega
        have k := h c b (by omega) (by omega) (by omega)
        rw [fo_cons, swf_off (by omega) (Int.le_refl _), sw_off r (fun p hp => by rcases hr p hp with z | z <;> omega), decide_eq_true q] at k
        cases k
      · have hcb : b < c ∧ c < a := by rcases hc with z | z <;> omega
        have k := h b c (by omega) (by omega) (by omega)
        rw [fo_cons, swf_on (Int.le_refl _), sw_on r (fun p hp => by rcases hr p hp with z | z <;> omega), decide_eq_false (by omega)] at k
        cases k
    have apart : ∀ (a b c1 c2 : Int) (r1 r2 : List Int), Nest (a :: b :: c1 :: r1) → Nest (a :: b :: c2 :: r2) → c1 < c2 → (∀ lo hi, lo < hi → min a b ≤ lo → hi ≤ max a b → fo (swf lo hi) (decide (a < b)) (c1 :: r1) = fo (swf lo hi) (decide (a < b)) (c2 :: r2)) → False := by
      intro a b c1 c2 r1 r2 h1 h2 hlt h
      have hc1 := nest_all _ a b h1 c1 List.mem_cons_self
      have hc2 := nest_all _ a b h2 c2 List.mem_cons_self
      have hr1 := nest_all _ b c1 h1.2.2
      have hr2 := nest_all _ b c2 h2.2.2
      rcases Int.lt_or_gt_of_ne h1.1 with q | q
      · have u1 : a < c1 ∧ c1 < b := by rcases hc1 with z | z <;> omega
        have u2 : a < c2 ∧ c2 < b := by rcases hc2 with z | z <;> omega
        have k := h c1 b (by rcases hc1 with z | z <;> omega) (by rcases hc1 with z | z <;> omega) (by omega)
        rw [fo_cons, fo_cons, swf_off (by rcases hc1 with z | z <;> omega) (Int.le_refl _), sw_off r1 (fun p hp => by rcases hr1 p hp with z | z <;> omega), decide_eq_true q, swf_stay (by rcases hc2 with z | z <;> omega) hlt, sw_on r2 (fun p hp => by rcases hr2 p hp with z | z <;> omega)] at k
        cases k
      · have u1 : b < c1 ∧ c1 < a := by rcases hc1 with z | z <;> omega
        have u2 : b < c2 ∧ c2 < a := by rcases hc2 with z | z <;> omega
        have k := h b c2 (by rcases hc2 with z | z <;> omega) (by omega) (by rcases hc2 with z | z <;> omega)
        rw [fo_cons, fo_cons, swf_stay hlt (by rcases hc1 with z | z <;> omega), decide_eq_false (by omega), sw_off r1 (fun p hp => by rcases hr1 p hp with z | z <;> omega), swf_on (Int.le_refl _), sw_on r2 (fun p hp => by rcases hr2 p hp with z | z <;> omega)] at k
        cases k
    intro a b r1 r2 hl h1 h2 h
    cases r1 with
    | nil =>
      cases r2 with
      | nil => rfl
      | cons c r => exact (empty a b c r h2 (fun lo hi x y z => h lo hi x y z)).elim
    | cons c1 r1 =>
      cases r2 with
      | nil => exact (empty a b c1 r1 h1 (fun lo hi x y z => (h lo hi x y z).symm)).elim
      | cons c2 r2 =>
        rcases Int.lt_trichotomy c1 c2 with z | z | z
        · exact (apart a b c1 c2 r1 r2 h1 h2 z h).elim
        · subst z
          have hc1 := nest_all _ a b h1 c1 List.mem_cons_self
          refine congrArg (c1 :: ·) (ih b c1 r1 r2 (by simp at hl; omega) h1.2.2 h2.2.2 fun lo hi x y z => ?_)
          have k := h lo hi x (by rcases hc1 with w | w <;> omega) (by rcases hc1 with w | w <;> omega)
          rw [fo_cons, fo_cons] at k
          have e : swf lo hi c1 (decide (a < b)) = decide (b < c1) := by
            rcases Int.lt_or_gt_of_ne h1.1 with q | q
            · rw [decide_eq_false (show ¬ b < c1 by rcases hc1 with w | w <;> omega)]
              exact swf_off (by rcases hc1 with w | w <;> omega) (by rcases hc1 with w | w <;> omega) _
            · rw [decide_eq_true (show b < c1 by rcases hc1 with w | w <;> omega)]
              exact swf_on (by rcases hc1 with w | w <;> omega) _
          rw [e] at k
          exact k
        · exact (apart a b c2 c1 r2 r1 h2 h1 z (fun lo hi x y z => (h lo hi x y z).symm)).elim
/-- all switches take both alike -/
def Agree (r1 r2 : List Int) : Prop := ∀ lo hi, lo < hi → ∀ x, fo (swf lo hi) x r1 = fo (swf lo hi) x r2
theorem nest_bounds : ∀ (S : List Int), Nest S → S ≠ [] → ∃ m M, m ∈ S ∧ M ∈ S ∧ (∀ p ∈ S, m ≤ p ∧ p ≤ M) ∧ ((S = [m] ∧ m = M) ∨ (∃ r, S = m :: M :: r ∧ m < M) ∨ (∃ r, S = M :: m :: r ∧ m < M))
  | [], _, h => absurd rfl h
  | [a], _, _ => ⟨a, a, by simp, by simp, by simp, .inl ⟨rfl, rfl⟩⟩
  | a :: b :: r, h, _ => by
    have hr := nest_all r a b h
    rcases Int.lt_or_gt_of_ne h.1 with q | q
    · refine ⟨a, b, by simp, by simp, fun p hp => ?_, .inr (.inl ⟨r, rfl, q⟩)⟩
      rcases List.mem_cons.mp hp with z | z
      · omega
      · rcases List.mem_cons.mp z with z | z
        · omega
        · rcases hr p z with y | y <;> omega
    · refine ⟨b, a, by simp, by simp, fun p hp => ?_, .inr (.inr ⟨r, rfl, q⟩)⟩
      rcases List.mem_cons.mp hp with z | z
      · omega
      · rcases List.mem_cons.mp z with z | z
        · omega
        · rcases hr p z with y | y <;> omega
theorem fo_hit_on {lo hi : Int} : ∀ (L : List Int) (x : Bool), (∀ p ∈ L, lo < p) → (∃ p ∈ L, hi ≤ p) → fo (swf lo hi) x L = true
  | [], _, _, ⟨p, hp, _⟩ => by simp at hp
  | c :: L, x, h, ⟨p, hp, hh⟩ => by
    rw [fo_cons]
    by_cases g : hi ≤ c
    · rw [swf_on g]; exact sw_on L fun q hq => h q (List.mem_cons_of_mem _ hq)
    · refine fo_hit_on L _ (fun q hq => h q (List.mem_cons_of_mem _ hq)) ?_
      rcases List.mem_cons.mp hp with z | z
      · exact absurd (z ▸ hh) g
      · exact ⟨p, z, hh⟩
theorem fo_hit_off {lo hi : Int} : ∀ (L : List Int) (x : Bool), (∀ p ∈ L, p < hi) → (∃ p ∈ L, p ≤ lo) → fo (swf lo hi) x L = false
  | [], _, _, ⟨p, hp, _⟩ => by simp at hp
  | c :: L, x, h, ⟨p, hp, hh⟩ => by
    rw [fo_cons]
    by_cases g : c ≤ lo
    · rw [swf_off (h c List.mem_cons_self) g]; exact sw_off L fun q hq => h q (List.mem_cons_of_mem _ hq)
    · refine fo_hit_off L _ (fun q hq => h q (List.mem_cons_of_mem _ hq)) ?_
      rcases List.mem_cons.mp hp with z | z
      · exact absurd (z ▸ hh) g
      · exact ⟨p, z, hh⟩
theorem Agree.symm {r1 r2 : List Int} (h : Agree r1 r2) : Agree r2 r1 := fun lo hi x y => (h lo hi x y).symm
theorem sep_ends {S1 S2 : List Int} {m1 M1 m2 M2 : Int} (b1 : ∀ p ∈ S1, m1 ≤ p ∧ p ≤ M1) (i2 : m2 ∈ S2) (j2 : M2 ∈ S2) (b2 : ∀ p ∈ S2, m2 ≤ p ∧ p ≤ M2) (h : Agree S1 S2) : M2 ≤ M1 ∧ m1 ≤ m2 := by
  have hm := b2 M2 j2
  constructor
  · rcases (show M1 < M2 ∨ M2 ≤ M1 by omega) with z | z
    · exfalso
      have k := h (min m1 m2 - 1) M2 (by omega) false
      rw [fo_hit_on S2 false (fun p hp => by have := b2 p hp; omega) ⟨M2, j2, Int.le_refl _⟩, sw_off S1 (fun p hp => by have := b1 p hp; omega)] at k
      cases k
    · exact z
  · rcases (show m2 < m1 ∨ m1 ≤ m2 by omega) with z | z
    · exfalso
      have k := h m2 (max M1 M2 + 1) (by omega) true
      rw [fo_hit_off S2 true (fun p hp => by have := b2 p hp; omega) ⟨m2, i2, Int.le_refl _⟩, sw_on S1 (fun p hp => by have := b1 p hp; omega)] at k
      cases k
    · exact z
theorem sep {S1 S2 : List Int} (h1 : Nest S1) (h2 : Nest S2) (h : Agree S1 S2) : S1 = S2 := by
  have none_ : ∀ S : List Int, Nest S → Agree [] S → S = [] := by
    intro S hN h
    by_cases e : S = []
    · exact e
    · exfalso
      obtain ⟨m, M, im, iM, b, _⟩ := nest_bounds S hN e
      have k := h (m - 1) M (by have := b m im; omega) false
      rw [fo_hit_on S false (fun p hp => by have := b p hp; omega) ⟨M, iM, Int.le_refl _⟩] at k
      cases k
  by_cases e1 : S1 = []
  · subst e1; exact (none_ S2 h2 h).symm
  by_cases e2 : S2 = []
  · subst e2; exact none_ S1 h1 h.symm
  obtain ⟨m1, M1, i1, j1, b1, c1⟩ := nest_bounds S1 h1 e1
  obtain ⟨m2, M2, i2, j2, b2, c2⟩ := nest_bounds S2 h2 e2
  obtain ⟨q1, q2⟩ := sep_ends b1 i2 j2 b2 h
  obtain ⟨q3, q4⟩ := sep_ends b2 i1 j1 b1 h.symm
  have eM : M1 = M2 := by omega
  have em : m1 = m2 := by omega
  subst eM em
  have opp : ∀ (r r' : List Int), Nest (m1 :: M1 :: r) → Nest (M1 :: m1 :: r') → m1 < M1 → Agree (m1 :: M1 :: r) (M1 :: m1 :: r') → False := by
    intro r r' n1 n2 hlt hA
    have k := hA m1 M1 hlt true
    have x1 := nest_all r m1 M1 n1
    have x2 := nest_all r' M1 m1 n2
    rw [fo_cons, fo_cons, fo_cons, fo_cons, swf_on (Int.le_refl M1), swf_off hlt (Int.le_refl m1), sw_on r (fun p hp => by rcases x1 p hp with z | z <;> omega), sw_off r' (fun p hp => by rcases x2 p hp with z | z <;> omega)] at k
    cases k
  rcases c1 with ⟨s1, g1⟩ | ⟨r1, s1, g1⟩ | ⟨r1, s1, g1⟩ <;> rcases c2 with ⟨s2, g2⟩ | ⟨r2, s2, g2⟩ | ⟨r2, s2, g2⟩
  · rw [s1, s2]
  · omega
  · omega
  · omega
  · subst s1 s2
    refine congrArg (fun r => m1 :: M1 :: r) (sep_core _ m1 M1 r1 r2 (Nat.le_refl _) h1 h2 fun lo hi x y z => ?_)
    have k := h lo hi x true
    rw [fo_cons, fo_cons, fo_cons, fo_cons, swf_on (show hi ≤ M1 by omega)] at k
    rw [decide_eq_true g1]
    exact k
  · subst s1 s2
    exact (opp r1 r2 h1 h2 g1 h).elim
  · omega
  · subst s1 s2
    exact (opp r2 r1 h2 h1 g1 h.symm).elim
  · subst s1 s2
    refine congrArg (fun r => M1 :: m1 :: r) (sep_core _ M1 m1 r1 r2 (Nat.le_refl _) h1 h2 fun lo hi x y z => ?_)
    have k := h lo hi x true
    rw [fo_cons, fo_cons, fo_cons, fo_cons, swf_off (show m1 < hi by omega) (show m1 ≤ lo by omega)] at k
    rw [decide_eq_false (show ¬ M1 < m1 by omega)]
    exact k
/-! ### standing places -/
def Stands (row S : List Int) : Prop := (S = turn (moves row) ∧ S.length < 2) ∨ ∃ c t b, Gen row S c t b ∧ row.length ≤ t + 1
theorem nest_short : ∀ (S : List Int), S.length < 2 → Nest S
  | [], _ => trivial
  | [_], _ => trivial
  | _ :: _ :: _, h => by simp at h; omega
theorem Stands.nest {row S : List Int} (h : Stands row S) : Nest S := by
  rcases h with ⟨_, hl⟩ | ⟨c, t, b, g, _⟩
  · exact nest_short S hl
  · obtain ⟨_, _, _, hN, _⟩ := g.nest; exact hN
theorem Stands.std {row S : List Int} (h : Stands row S) : StdOf row S := by
  rcases h with ⟨e, hl⟩ | ⟨c, t, b, g, ht⟩
  · subst e; exact (std_short hl).1
  · intro σ f hf x
    have := g.told.fold σ f hf x
    rw [List.take_of_length_le ht] at this
    exact this
theorem StdOf.agree {row S : List Int} (h : StdOf row S) : Agree row S := fun lo hi hlt x => h Bool (swf lo hi) (sw_sys hlt) x
theorem min_ex : ∀ (L : List Int), L ≠ [] → ∃ m ∈ L, ∀ p ∈ L, m ≤ p
  | [], h => absurd rfl h
  | [a], _ => ⟨a, by simp, by simp⟩
  | a :: b :: L, _ => by
    obtain ⟨m, h1, h2⟩ := min_ex (b :: L) (by simp)
    by_cases g : a ≤ m
    · exact ⟨a, by simp, fun p hp => by rcases List.mem_cons.mp hp with z | z; omega; have := h2 p z; omega⟩
    · exact ⟨m, List.mem_cons_of_mem _ h1, fun p hp => by rcases List.mem_cons.mp hp with z | z; omega; exact h2 p z⟩
theorem max_ex : ∀ (L : List Int), L ≠ [] → ∃ m ∈ L, ∀ p ∈ L, p ≤ m
  | [], h => absurd rfl h
  | [a], _ => ⟨a, by simp, by simp⟩
  | a :: b :: L, _ => by
    obtain ⟨m, h1, h2⟩ := max_ex (b :: L) (by simp)
    by_cases g : m ≤ a
    · exact ⟨a, by simp, fun p hp => by rcases List.mem_cons.mp hp with z | z; omega; have := h2 p z; omega⟩
    · exact ⟨m, List.mem_cons_of_mem _ h1, fun p hp => by rcases List.mem_cons.mp hp with z | z; omega; exact h2 p z⟩
theorem last_ex : ∀ (L : List Int) (c : Int), c ∈ L → ∃ t, LastT L c t
  | [], c, h => by simp at h
  | a :: L, c, h => by
    by_cases g : c ∈ L
    · obtain ⟨t, h1, h2⟩ := last_ex L c g
      refine ⟨t + 1, by simpa using h1, fun k hk => ?_⟩
      cases k with
      | zero => omega
      | succ k => simpa using h2 k (by omega)
    · refine ⟨0, by rcases List.mem_cons.mp h with z | z; simp [z]; exact absurd z g, fun k hk => ?_⟩
      cases k with
      | zero => omega
      | succ k =>
        intro z
        exact g (List.mem_of_getElem? (by simpa using z))
theorem gen_ends {row : List Int} : ∀ (n : Nat) {S : List Int} {c : Int} {t : Nat} {b : Bool}, row.length - t ≤ n → Gen row S c t b → ∃ S' c' t' b', Gen row S' c' t' b' ∧ row.length ≤ t' + 1 := by
  intro n
  induction n with
  | zero => intro S c t b hn g; exact ⟨S, c, t, b, g, by omega⟩
  | succ n ih =>
    intro S c t b hn g
    by_cases e : row.length ≤ t + 1
    · exact ⟨S, c, t, b, g, e⟩
    · have hne : row.drop (t + 1) ≠ [] := fun z => by have := congrArg List.length z; simp at this; omega
      cases b with
      | true =>
        obtain ⟨d, hd, hm⟩ := min_ex _ hne
        obtain ⟨u, hu⟩ := last_ex row d (List.mem_of_mem_drop hd)
        have hx : ∀ p ∈ row.drop (t + 1), if true then d ≤ p else p ≤ d := fun p hp => by simpa using hm p hp
        have htu := (told_next g.told hd hu hx).1
        exact ih (by omega) (Gen.next g hd hu hx)
      | false =>
        obtain ⟨d, hd, hm⟩ := max_ex _ hne
        obtain ⟨u, hu⟩ := last_ex row d (List.mem_of_mem_drop hd)
        have hx : ∀ p ∈ row.drop (t + 1), if false then d ≤ p else p ≤ d := fun p hp => by simpa using hm p hp
        have htu := (told_next g.told hd hu hx).1
        exact ih (by omega) (Gen.next g hd hu hx)
theorem stands_ex (row : List Int) : ∃ S, Stands row S := by
  by_cases h : (turn (moves row)).length < 2
  · exact ⟨_, .inl ⟨rfl, h⟩⟩
  · obtain ⟨p, hp, q, hq, hne⟩ := turn_long h
    have hne' : row ≠ [] := fun z => by rw [z] at hp; simp at hp
    obtain ⟨m, hm, bm⟩ := min_ex row hne'
    obtain ⟨M, hM, bM⟩ := max_ex row hne'
    obtain ⟨tm, lm⟩ := last_ex row m hm
    obtain ⟨tM, lM⟩ := last_ex row M hM
    have hmM : m ≠ M := fun z => by
      have a1 := bm p hp
      have a2 := bM p hp
      have a3 := bm q hq
      have a4 := bM q hq
      omega
    have hb : ∀ p ∈ row, m ≤ p ∧ p ≤ M := fun p hp => ⟨bm p hp, bM p hp⟩
    by_cases g : tm < tM
    · obtain ⟨S, c, t, b, h1, h2⟩ := gen_ends _ (Nat.le_refl _) (Gen.up lm lM hb hmM g)
      exact ⟨S, .inr ⟨c, t, b, h1, h2⟩⟩
    · obtain ⟨S, c, t, b, h1, h2⟩ := gen_ends _ (Nat.le_refl _) (Gen.down lm lM hb hmM g)
      exact ⟨S, .inr ⟨c, t, b, h1, h2⟩⟩
noncomputable def std (row : List Int) : List Int := Classical.choose (stands_ex row)
theorem std_stands (row : List Int) : Stands row (std row) := Classical.choose_spec (stands_ex row)
theorem Agree.trans {a b c : List Int} (h1 : Agree a b) (h2 : Agree b c) : Agree a c := fun lo hi x y => (h1 lo hi x y).trans (h2 lo hi x y)
theorem std_is {row S : List Int} (h : Stands row S) : S = std row :=
  sep h.nest (std_stands row).nest (h.std.agree.symm.trans (std_stands row).std.agree)
theorem Stands.facts {row S : List Int} (h : Stands row S) : (∀ p ∈ S, p ∈ row) ∧ S.length ≤ row.length ∧ S.getLast? = row.getLast? := by
  rcases h with ⟨e, hl⟩ | ⟨c, t, b, g, ht⟩
  · subst e
    obtain ⟨_, q2, q3, q4⟩ := std_short hl
    exact ⟨q3, q4, q2⟩
  · have hT := g.told
    have htl : t < row.length := (List.getElem?_eq_some_iff.mp hT.lt.1).1
    obtain ⟨ini, hini⟩ := hT.en
    refine ⟨hT.sub, by have := hT.len; omega, ?_⟩
    have e : row.getLast? = some c := by rw [List.getLast?_eq_getElem?, show row.length - 1 = t by omega, hT.lt.1]
    rw [hini, List.getLast?_append, e]
    rfl
theorem std_sub (row : List Int) : ∀ p ∈ std row, p ∈ row := (std_stands row).facts.1
theorem std_len (row : List Int) : (std row).length ≤ row.length := (std_stands row).facts.2.1
theorem std_nested (row : List Int) : Nest (std row) := (std_stands row).nest
/-- a row that stays at one place -/
theorem stands_flat {row : List Int} {m : Int} (h : ∀ p ∈ row, p = m) : Stands row (row.take 1) := by
  cases row with
  | nil => exact .inl ⟨rfl, by simp⟩
  | cons a r =>
    have e : ∀ (r : List Int), (∀ p ∈ r, p = a) → mvFrom a r = [] := by
      intro r
      induction r with
      | nil => intro _; rfl
      | cons x r ih =>
        intro hx
        simp only [mvFrom]
        rw [if_pos (hx x List.mem_cons_self)]
        exact ih fun p hp => hx p (List.mem_cons_of_mem _ hp)
    have ea : a = m := h a List.mem_cons_self
    refine .inl ⟨?_, by simp⟩
    simp [moves, turn, e r (fun p hp => by rw [ea]; exact h p (List.mem_cons_of_mem _ hp)), tl]
theorem last_rev {row : List Int} {p : Int} (h : p ∈ row) : LastT row p (row.length - 1 - row.reverse.idxOf p) := by
  have hm : p ∈ row.reverse := by simpa using h
  have hj : row.reverse.idxOf p < row.reverse.length := List.idxOf_lt_length_iff.mpr hm
  have hl : row.reverse.length = row.length := List.length_reverse
  have hg : row.reverse[row.reverse.idxOf p] = p := List.getElem_idxOf hj
  constructor
  · rw [List.getElem_reverse] at hg
    rw [List.getElem?_eq_getElem (by omega)]
    exact congrArg some hg
  · intro k hk e
    have hkl : k < row.length := (List.getElem?_eq_some_iff.mp e).1
    have e2 : row.reverse[row.length - 1 - k]? = some p := by
      rw [List.getElem?_reverse (by omega), show row.length - 1 - (row.length - 1 - k) = k by omega]
      exact e
    have hlt : row.length - 1 - k < row.reverse.idxOf p := by omega
    have hlt2 : row.length - 1 - k < row.reverse.length := by omega
    have e3 : row.reverse[row.length - 1 - k] = p := by
      rw [List.getElem?_eq_getElem hlt2] at e2
      exact Option.some.inj e2
    have := List.not_of_lt_findIdx (p := fun x => x == p) (xs := row.reverse) (i := row.length - 1 - k) (by simpa [List.idxOf] using hlt)
    simp [e3] at this
end M

set_option Elab.async false
set_option linter.all false
namespace M
/-! ### rows that leave all boxes alike -/
theorem zero_ex (row : List Int) : ∃ t, LastT (0 :: row) 0 t := last_ex _ _ List.mem_cons_self
noncomputable def lastZ (row : List Int) : Nat := Classical.choose (zero_ex row)
theorem lastZ_spec (row : List Int) : LastT (0 :: row) 0 (lastZ row) := Classical.choose_spec (zero_ex row)
noncomputable def left (row : List Int) : List Int := std ((0 :: row).drop (lastZ row))
theorem left_of_last {row : List Int} {t : Nat} (h : LastT (0 :: row) 0 t) : std ((0 :: row).drop t) = left row := by
  unfold left
  rw [h.uniq (lastZ_spec row)]
theorem rest_cut (row : List Int) : (0 :: row).drop (lastZ row) = 0 :: (0 :: row).drop (lastZ row + 1) := by
  have h := lastZ_spec row
  have hl := (List.getElem?_eq_some_iff.mp h.1).1
  rw [List.drop_eq_getElem_cons hl]
  congr 1
  have := h.1
  rw [List.getElem?_eq_getElem hl] at this
  exact Option.some.inj this
theorem swf_zero {lo hi : Int} (h0 : 0 ≤ lo) (h : lo < hi) (x : Bool) : swf lo hi 0 x = false := swf_off (by omega) h0 x
theorem left_fo {lo hi : Int} (h0 : 0 ≤ lo) (h : lo < hi) (row : List Int) (x : Bool) : fo (swf lo hi) false row = fo (swf lo hi) x (left row) := by
  have e1 : fo (swf lo hi) false row = fo (swf lo hi) false (0 :: row) := by rw [fo_cons, swf_zero h0 h]
  have e2 : (0 :: row) = (0 :: row).take (lastZ row) ++ (0 :: row).drop (lastZ row) := (List.take_append_drop _ _).symm
  have e3 := (std_stands ((0 :: row).drop (lastZ row))).std Bool (swf lo hi) (sw_sys h) x
  rw [e1, e2, fo_app]
  show _ = fo (swf lo hi) x (std ((0 :: row).drop (lastZ row)))
  rw [← e3, rest_cut, fo_cons, fo_cons, swf_zero h0 h, swf_zero h0 h]
theorem gen_zero {rest S : List Int} (hp : ∀ p ∈ rest, 0 < p) {c : Int} {t : Nat} {b : Bool} (g : Gen (0 :: rest) S c t b) : ∃ M r, S = 0 :: M :: r ∧ 0 < M := by
  have l0 : ∀ {tm : Nat}, LastT (0 :: rest) 0 tm → tm = 0 := fun {tm} h => by
    cases tm with
    | zero => rfl
    | succ n =>
      exfalso
      have := hp 0 (List.mem_of_getElem? (by simpa using h.1))
      omega
  have nn : ∀ p ∈ (0 :: rest), 0 ≤ p := fun p hq => by
    rcases List.mem_cons.mp hq with z | z
    · omega
    · have := hp p z; omega
  induction g with
  | @up m M tm tM h1 h2 h3 h4 h5 =>
    have em : m = 0 := by
      have a1 := (h3 0 List.mem_cons_self).1
      have a2 := nn m (List.mem_of_getElem? h1.1)
      omega
    subst em
    exact ⟨M, [], rfl, by have := (h3 M (List.mem_of_getElem? h2.1)).1; omega⟩
  | @down m M tm tM h1 h2 h3 h4 h5 =>
    exfalso
    have em : m = 0 := by
      have a1 := (h3 0 List.mem_cons_self).1
      have a2 := nn m (List.mem_of_getElem? h1.1)
      omega
    subst em
    have e0 := l0 h1
    subst e0
    have : tM = 0 := by omega
    subst this
    have := h2.1
    simp at this
    exact h4 this
  | next _ _ _ _ ih =>
    obtain ⟨M, r, e, h⟩ := ih
    exact ⟨M, _, by rw [e]; rfl, h⟩
theorem left_shape {row : List Int} (h : ∀ p ∈ row, 0 ≤ p) : left row = [0] ∨ ∃ M r, left row = 0 :: M :: r ∧ 0 < M := by
  have hz := lastZ_spec row
  have hp : ∀ p ∈ (0 :: row).drop (lastZ row + 1), 0 < p := fun p hq => by
    obtain ⟨k, hk, e⟩ := mem_drop_iff.mp hq
    have n0 : p ≠ 0 := fun z => hz.2 k (by omega) (z ▸ e)
    have hm := List.mem_of_getElem? e
    rcases List.mem_cons.mp hm with y | y
    · exact absurd y n0
    · have := h p y; omega
  unfold left
  rw [rest_cut]
  generalize (0 :: row).drop (lastZ row + 1) = rest at *
  rcases std_stands (0 :: rest) with ⟨e, hl⟩ | ⟨c, t, b, g, _⟩
  · left
    rw [e] at hl
    rw [e, turn_short hl]
  · exact .inr (gen_zero hp g)
theorem left_nest (row : List Int) : Nest (left row) := std_nested _
theorem left_sub (row : List Int) : ∀ p ∈ left row, p = 0 ∨ p ∈ row := fun p hp => by
  have := List.mem_of_mem_drop (std_sub _ p hp)
  simpa using this
theorem left_len (row : List Int) : (left row).length ≤ row.length + 1 := by
  refine Nat.le_trans (std_len _) ?_
  simp
theorem left_iff {top : Int} {r1 r2 : List Int} (h1 : ∀ p ∈ r1, 0 ≤ p ∧ p ≤ top) (h2 : ∀ p ∈ r2, 0 ≤ p ∧ p ≤ top) (ht : 0 ≤ top) :
    (∀ lo hi, 0 ≤ lo → lo < hi → hi ≤ top → fo (swf lo hi) false r1 = fo (swf lo hi) false r2) ↔ left r1 = left r2 := by
  constructor
  · intro h
    have h' : ∀ lo hi, 0 ≤ lo → lo < hi → hi ≤ top → fo (swf lo hi) false (left r1) = fo (swf lo hi) false (left r2) := fun lo hi a b c => by
      rw [← left_fo a b r1 false, ← left_fo a b r2 false]
      exact h lo hi a b c
    have big : ∀ {r : List Int}, (∀ p ∈ r, 0 ≤ p ∧ p ≤ top) → ∀ p ∈ left r, p ≤ top := fun {r} hr p hp => by
      rcases left_sub r p hp with z | z
      · omega
      · exact (hr p z).2
    have pos : ∀ {M : Int} {r : List Int}, Nest (0 :: M :: r) → 0 < M → ∀ p ∈ r, 0 < p ∧ p < M := fun {M r} hN hM p hp => by
      rcases nest_all r 0 M hN p hp with z | z <;> omega
    have one : ∀ {ra rb : List Int} {M : Int} {r : List Int}, left ra = [0] → left rb = 0 :: M :: r → 0 < M → M ≤ top → fo (swf 0 M) false (left ra) = fo (swf 0 M) false (left rb) → False := fun {ra rb M r} ea eb hM hMt k => by
      have hN := left_nest rb
      rw [eb] at hN
      have hp := pos hN hM
      rw [ea, eb, fo_cons, fo_cons, fo_cons, fo_nil, swf_zero (Int.le_refl _) hM, swf_on (Int.le_refl M), sw_on r (fun p q => (hp p q).1)] at k
      cases k
    have less : ∀ {M1 M2 : Int} {q1 q2 : List Int}, Nest (0 :: M1 :: q1) → Nest (0 :: M2 :: q2) → 0 < M1 → 0 < M2 → M1 < M2 → fo (swf 0 M2) false (0 :: M1 :: q1) = fo (swf 0 M2) false (0 :: M2 :: q2) → False := fun {M1 M2 q1 q2} n1 n2 p1 p2 hlt k => by
      have a1 := pos n1 p1
      have a2 := pos n2 p2
      rw [fo_cons, fo_cons, fo_cons, fo_cons, swf_zero (Int.le_refl _) p2, swf_on (Int.le_refl M2), swf_stay hlt p1, sw_on q2 (fun p q => (a2 p q).1), sw_off q1 (fun p q => by have := a1 p q; omega)] at k
      cases k
    rcases left_shape (fun p hp => (h1 p hp).1) with e1 | ⟨M1, q1, e1, p1⟩ <;> rcases left_shape (fun p hp => (h2 p hp).1) with e2 | ⟨M2, q2, e2, p2⟩
    · rw [e1, e2]
    · exact (one e1 e2 p2 (big h2 M2 (by rw [e2]; simp)) (h' 0 M2 (Int.le_refl _) p2 (big h2 M2 (by rw [e2]; simp)))).elim
    · exact (one e2 e1 p1 (big h1 M1 (by rw [e1]; simp)) (h' 0 M1 (Int.le_refl _) p1 (big h1 M1 (by rw [e1]; simp))).symm).elim
    · have n1 := left_nest r1
      have n2 := left_nest r2
      have t1 := big h1 M1 (by rw [e1]; simp)
      have t2 := big h2 M2 (by rw [e2]; simp)
      rw [e1] at n1 h'
      rw [e2] at n2 h'
      have eM : M1 = M2 := by
        rcases Int.lt_trichotomy M1 M2 with z | z | z
        · exact (less n1 n2 p1 p2 z (h' 0 M2 (Int.le_refl _) p2 t2)).elim
        · exact z
        · exact (less n2 n1 p2 p1 z (h' 0 M1 (Int.le_refl _) p1 t1).symm).elim
      subst eM
      rw [e1, e2]
      refine congrArg (fun r => 0 :: M1 :: r) (sep_core _ 0 M1 q1 q2 (Nat.le_refl _) n1 n2 fun lo hi a b c => ?_)
      have k := h' lo hi (by omega) a (by omega)
      rw [fo_cons, fo_cons, fo_cons, fo_cons, swf_on (show hi ≤ M1 by omega)] at k
      rw [decide_eq_true p1]
      exact k
  · intro h lo hi a b c
    rw [left_fo a b r1 false, left_fo a b r2 false, h]
end M

set_option Elab.async false
set_option linter.all false
set_option maxRecDepth 100000
namespace L2
open PySem PySem.Spec PyProof.Rows

/-! ### zip of three lists: the iterators at n, n+1, n+2, their tuple at n+3, the kept tuple at n+4, the zip at n+5 -/
abbrev IsTrip (h : Heap) (T : Addr) (a b c : Value) : Prop := h.get? T = some { cls := .type "tuple", data := .seq #[a, b, c] }
section
variable {prog : Program} {w : World} {A : Around} {E : Value → Shared → Prop} {s : Shared}
theorem upd_trip {T : Addr} {a b c x : Value} {k : Nat} {Q : Unit → Shared → Prop} (hT : IsTrip s.heap T a b c)
    (h : ∀ h', h'.get? T = some { cls := .type "tuple", data := .seq ((#[a, b, c] : Array Value).setIfInBounds k x) } → Heap.SameBut T s.heap h' → Q () { s with heap := h' }) :
    wpAny (model prog w) A (updateSeq T (·.setIfInBounds k x)) Q E s := by
  refine wpAny_updateSeq hT rfl (h _ ?_ (Heap.SameBut.update ..))
  rw [Heap.get?_update_self _ hT rfl]
  simp [Obj.mapSeq]
local macro_rules | `(tactic| walk_at "ne") => `(tactic| (show @Ne Nat _ _; omega))
theorem zip3_item {n l1 l2 l3 : Nat} {k : Nat} {xs ys zs : Array Value} {x y q a b c : Value} {Q : Value → Shared → Prop} (n1 : l1 < n) (n2 : l2 < n) (n3 : l3 < n)
    (hz : IsZip s.heap (n + 5) (n + 3) (n + 4) .none) (hTI : IsTrip s.heap (n + 3) (.ref n) (.ref (n + 1)) (.ref (n + 2))) (hTO : IsTrip s.heap (n + 4) a b c)
    (h1 : s.heap.IsListIter n l1 k) (h2 : s.heap.IsListIter (n + 1) l2 k) (h3 : s.heap.IsListIter (n + 2) l3 k) (hl1 : s.heap.IsList l1 xs) (hl2 : s.heap.IsList l2 ys) (hl3 : s.heap.IsList l3 zs) (hx : xs[k]? = some x) (hy : ys[k]? = some y) (hq : zs[k]? = some q)
    (hQ : ∀ h', IsZip h' (n + 5) (n + 3) (n + 4) (rawInt s.heap.objs.size) → IsTrip h' (n + 4) x y q → h'.IsListIter n l1 (k + 1) → h'.IsListIter (n + 1) l2 (k + 1) → h'.IsListIter (n + 2) l3 (k + 1) → IsTrip h' s.heap.objs.size x y q →
      (∀ d o, d ≠ n → d ≠ n + 1 → d ≠ n + 2 → d ≠ n + 4 → d ≠ n + 5 → s.heap.get? d = some o → h'.get? d = some o) → Q (.ref s.heap.objs.size) { s with heap := h' }) :
    wpAny (model prog w) A (Builtin.«zip.__next__» ⟨[.ref (n + 5)], []⟩) (fun fin s' => ∃ v, fin = .done (.ret v) ∧ Q v s') E s := by
  show wpAny _ _ (field (.ref (n + 5)) 2 >>= _) _ _ _
  refine wpAny_bind (wpAny_field hz rfl (x := .bool false) rfl ?_)
  show wpAny _ _ (field (.ref (n + 5)) 3 >>= _) _ _ _
  refine wpAny_bind (wpAny_field hz rfl (x := .ref (n + 3)) rfl ?_)
  refine wpAny_bind (wpAny_seqItems hTI rfl ?_)
  show wpAny _ _ (Builtin.SmallTypes.ownedTupleIsFree (.ref (n + 5)) >>= _) _ _ _
  refine wpAny_bind ?_
  unfold Builtin.SmallTypes.ownedTupleIsFree
  refine wpAny_bind (wpAny_field hz rfl (x := .none) rfl (wpAny_pure ?_))
  simp only [if_true]
  refine wpAny_bind (wpAny_rule ?_)
  refine wpAny_bind (wpAny_field hz rfl (x := .ref (n + 4)) rfl ?_)
  refine wpAny_bind (wpAny_setField_rec hz (by simp) fun g1 hz1 t1 => ?_)
  replace hz1 : IsZip g1 (n + 5) (n + 3) (n + 4) .ellipsis := hz1
  refine wpAny_bind ?_
  simp only [List.zipIdx_cons, List.zipIdx_nil, List.forIn_cons, List.forIn_nil]
  refine wpAny_bind (wpAny_bind (wpAny_onRaise ?_))
  show wpAny _ _ (Builtin.SmallTypes.nextOf (.ref n) >>= _) _ _ _
  refine wpAny_bind (wpAny_nextOf_list_item (h1.extBut t1.extBut (by walk_at "ne")) (hl1.extBut t1.extBut (by walk_at "ne")) hx fun g2 u1 t2 => wpAny_pure ?_)
  have o2 : IsTrip g2 (n + 4) a b c := t2.extBut _ _ (by walk_at "ne") (t1.extBut _ _ (by walk_at "ne") hTO)
  refine wpAny_bind (wpAny_seqItems o2 rfl ?_)
  refine wpAny_bind (upd_trip o2 fun g3 o3 t3 => ?_)
  replace o3 : IsTrip g3 (n + 4) x b c := o3
  refine wpAny_bind (wpAny_letGo (wpAny_pure ?_))
  refine wpAny_bind (wpAny_bind (wpAny_onRaise ?_))
  show wpAny _ _ (Builtin.SmallTypes.nextOf (.ref (n + 1)) >>= _) _ _ _
  refine wpAny_bind (wpAny_nextOf_list_item (((h2.extBut t1.extBut (by walk_at "ne")).extBut t2.extBut (by walk_at "ne")).extBut t3.extBut (by walk_at "ne")) (((hl2.extBut t1.extBut (by walk_at "ne")).extBut t2.extBut (by walk_at "ne")).extBut t3.extBut (by walk_at "ne")) hy fun g4 u2 t4 => wpAny_pure ?_)
  have o4 : IsTrip g4 (n + 4) x b c := t4.extBut _ _ (by walk_at "ne") o3
  refine wpAny_bind (wpAny_seqItems o4 rfl ?_)
  refine wpAny_bind (upd_trip o4 fun g5 o5 t5 => ?_)
  replace o5 : IsTrip g5 (n + 4) x y c := o5
  refine wpAny_bind (wpAny_letGo (wpAny_pure ?_))
  refine wpAny_bind (wpAny_bind (wpAny_onRaise ?_))
  show wpAny _ _ (Builtin.SmallTypes.nextOf (.ref (n + 2)) >>= _) _ _ _
  refine wpAny_bind (wpAny_nextOf_list_item (((((h3.extBut t1.extBut (by walk_at "ne")).extBut t2.extBut (by walk_at "ne")).extBut t3.extBut (by walk_at "ne")).extBut t4.extBut (by walk_at "ne")).extBut t5.extBut (by walk_at "ne")) (((((hl3.extBut t1.extBut (by walk_at "ne")).extBut t2.extBut (by walk_at "ne")).extBut t3.extBut (by walk_at "ne")).extBut t4.extBut (by walk_at "ne")).extBut t5.extBut (by walk_at "ne")) hq fun g6 u3 t6 => wpAny_pure ?_)
  have o6 : IsTrip g6 (n + 4) x y c := t6.extBut _ _ (by walk_at "ne") o5
  refine wpAny_bind (wpAny_seqItems o6 rfl ?_)
  refine wpAny_bind (upd_trip o6 fun g7 o7 t7 => ?_)
  replace o7 : IsTrip g7 (n + 4) x y q := o7
  refine wpAny_bind (wpAny_letGo (wpAny_pure (wpAny_pure ?_)))
  refine wpAny_bind (wpAny_seqItems o7 rfl ?_)
  refine wpAny_bind (wpAny_newTuple ?_)
  have hsz : g7.objs.size = s.heap.objs.size := by rw [t7.1, t6.1, t5.1, t4.1, t3.1, t2.1, t1.1]
  have z7 : IsZip g7 (n + 5) (n + 3) (n + 4) .ellipsis := t7.extBut _ _ (by walk_at "ne") (t6.extBut _ _ (by walk_at "ne") (t5.extBut _ _ (by walk_at "ne") (t4.extBut _ _ (by walk_at "ne") (t3.extBut _ _ (by walk_at "ne") (t2.extBut _ _ (by walk_at "ne") hz1)))))
  have hk7 : ∀ d o, d ≠ n → d ≠ n + 1 → d ≠ n + 2 → d ≠ n + 4 → d ≠ n + 5 → s.heap.get? d = some o → g7.get? d = some o := fun d o d1 d2 d3 d4 d5 e =>
    t7.extBut _ _ d4 (t6.extBut _ _ d3 (t5.extBut _ _ d4 (t4.extBut _ _ d2 (t3.extBut _ _ d4 (t2.extBut _ _ d1 (t1.extBut _ _ d5 e))))))
  have v1 : g7.IsListIter n l1 (k + 1) := ((((u1.extBut t3.extBut (by walk_at "ne")).extBut t4.extBut (by walk_at "ne")).extBut t5.extBut (by walk_at "ne")).extBut t6.extBut (by walk_at "ne")).extBut t7.extBut (by walk_at "ne")
  have v2 : g7.IsListIter (n + 1) l2 (k + 1) := ((u2.extBut t5.extBut (by walk_at "ne")).extBut t6.extBut (by walk_at "ne")).extBut t7.extBut (by walk_at "ne")
  have v3 : g7.IsListIter (n + 2) l3 (k + 1) := u3.extBut t7.extBut (by walk_at "ne")
  have lz : n + 5 < g7.objs.size := Heap.lt_size z7
  show wpAny _ _ (Builtin.SmallTypes.ownedTupleHandOut (.ref (n + 5)) (.ref g7.objs.size) >>= _) _ _ _
  refine wpAny_bind ?_
  unfold Builtin.SmallTypes.ownedTupleHandOut
  have z8 : IsZip (g7.push { cls := .type "tuple", data := .seq #[x, y, q] }) (n + 5) (n + 3) (n + 4) .ellipsis := Heap.get?_push_of_some _ z7
  refine wpAny_bind (wpAny_setField_rec z8 (by simp) fun g9 z9 t9 => ?_)
  replace z9 : IsZip g9 (n + 5) (n + 3) (n + 4) (rawInt g7.objs.size) := z9
  refine wpAny_setField_rec z9 (by simp) fun g10 z10 t10 => ?_
  replace z10 : IsZip g10 (n + 5) (n + 3) (n + 4) (rawInt g7.objs.size) := z10
  have up : ∀ d o, d ≠ n + 5 → g7.get? d = some o → g10.get? d = some o := fun d o d1 e => t10.extBut _ _ d1 (t9.extBut _ _ d1 (Heap.get?_push_of_some _ e))
  have hT : IsTrip g10 g7.objs.size x y q := t10.extBut _ _ (Nat.ne_of_gt lz) (t9.extBut _ _ (Nat.ne_of_gt lz) (Heap.get?_push_size _ rfl))
  rw [hsz] at z10 hT ⊢
  refine wpAny_pure ⟨_, rfl, ?_⟩
  exact hQ g10 z10 (up _ _ (by walk_at "ne") o7) (v1.at fun o e => up _ o (by walk_at "ne") e) (v2.at fun o e => up _ o (by walk_at "ne") e) (v3.at fun o e => up _ o (by walk_at "ne") e) hT fun d o d1 d2 d3 d4 d5 e => up d o d5 (hk7 d o d1 d2 d3 d4 d5 e)
end
end L2
namespace L2
open PySem PySem.Spec PyProof.Rows
local macro_rules | `(tactic| walk_at "ne") => `(tactic| (show @Ne Nat _ _; omega))
section
variable {prog : Program} {w : World} {A : Around} {E : Value → Shared → Prop} {s : Shared}
theorem zip3_end {n l1 l2 l3 : Nat} {k : Nat} {xs ys zs : Array Value} {a b c : Value} {Q : Fin → Shared → Prop} (hh : A.handled = none) (n1 : l1 < n) (n2 : l2 < n) (n3 : l3 < n)
    (hz : IsZip s.heap (n + 5) (n + 3) (n + 4) .none) (hTI : IsTrip s.heap (n + 3) (.ref n) (.ref (n + 1)) (.ref (n + 2))) (hTO : IsTrip s.heap (n + 4) a b c)
    (h1 : s.heap.IsListIter n l1 k) (h2 : s.heap.IsListIter (n + 1) l2 k) (h3 : s.heap.IsListIter (n + 2) l3 k) (hl1 : s.heap.IsList l1 xs) (hl2 : s.heap.IsList l2 ys) (hl3 : s.heap.IsList l3 zs) (hend : xs[k]? = none ∨ ys[k]? = none ∨ zs[k]? = none)
    (hE : ∀ h' e, (∀ d o, d ≠ n → d ≠ n + 1 → d ≠ n + 2 → d ≠ n + 4 → d ≠ n + 5 → s.heap.get? d = some o → h'.get? d = some o) → (∃ o, h'.get? e = some o ∧ o.cls = .type "StopIteration") → E (.ref e) { s with heap := h' }) :
    wpAny (model prog w) A (Builtin.«zip.__next__» ⟨[.ref (n + 5)], []⟩) Q E s := by
  show wpAny _ _ (field (.ref (n + 5)) 2 >>= _) _ _ _
  refine wpAny_bind (wpAny_field hz rfl (x := .bool false) rfl ?_)
  show wpAny _ _ (field (.ref (n + 5)) 3 >>= _) _ _ _
  refine wpAny_bind (wpAny_field hz rfl (x := .ref (n + 3)) rfl ?_)
  refine wpAny_bind (wpAny_seqItems hTI rfl ?_)
  show wpAny _ _ (Builtin.SmallTypes.ownedTupleIsFree (.ref (n + 5)) >>= _) _ _ _
  refine wpAny_bind ?_
  unfold Builtin.SmallTypes.ownedTupleIsFree
  refine wpAny_bind (wpAny_field hz rfl (x := .none) rfl (wpAny_pure ?_))
  simp only [if_true]
  refine wpAny_bind (wpAny_rule ?_)
  refine wpAny_bind (wpAny_field hz rfl (x := .ref (n + 4)) rfl ?_)
  refine wpAny_bind (wpAny_setField_rec hz (by simp) fun g1 hz1 t1 => ?_)
  replace hz1 : IsZip g1 (n + 5) (n + 3) (n + 4) .ellipsis := hz1
  refine wpAny_bind ?_
  simp only [List.zipIdx_cons, List.zipIdx_nil, List.forIn_cons, List.forIn_nil]
  refine wpAny_bind (wpAny_bind (wpAny_onRaise ?_))
  show wpAny _ _ (Builtin.SmallTypes.nextOf (.ref n) >>= _) _ _ _
  cases hx : xs[k]? with
  | none =>
    refine wpAny_bind (wpAny_nextOf_list_end hh (h1.extBut t1.extBut (by walk_at "ne")) (hl1.extBut t1.extBut (by walk_at "ne")) hx fun g2 e t2 he => ?_)
    obtain ⟨oe, hoe, hce⟩ := he
    have hz2 : IsZip g2 (n + 5) (n + 3) (n + 4) .ellipsis := t2 _ _ (by walk_at "ne") hz1
    have hez : e ≠ n + 5 := fun x => by subst x; rw [hz2] at hoe; cases hoe; simp at hce
    exact wpAny_setField_rec hz2 (by simp) fun g3 _ t3 => hE g3 e (fun d o d1 _ _ _ d5 x => t3.extBut _ _ d5 (t2 _ _ d1 (t1.extBut _ _ d5 x))) ⟨oe, t3.extBut _ _ hez hoe, hce⟩
  | some x =>
    refine wpAny_bind (wpAny_nextOf_list_item (h1.extBut t1.extBut (by walk_at "ne")) (hl1.extBut t1.extBut (by walk_at "ne")) hx fun g2 u1 t2 => wpAny_pure ?_)
    have o2 : IsTrip g2 (n + 4) a b c := t2.extBut _ _ (by walk_at "ne") (t1.extBut _ _ (by walk_at "ne") hTO)
    refine wpAny_bind (wpAny_seqItems o2 rfl ?_)
    refine wpAny_bind (upd_trip o2 fun g3 o3 t3 => ?_)
    replace o3 : IsTrip g3 (n + 4) x b c := o3
    refine wpAny_bind (wpAny_letGo (wpAny_pure ?_))
    refine wpAny_bind (wpAny_bind (wpAny_onRaise ?_))
    show wpAny _ _ (Builtin.SmallTypes.nextOf (.ref (n + 1)) >>= _) _ _ _
    have zz3 : IsZip g3 (n + 5) (n + 3) (n + 4) .ellipsis := t3.extBut _ _ (by walk_at "ne") (t2.extBut _ _ (by walk_at "ne") hz1)
    have k3 : ∀ d o, d ≠ n → d ≠ n + 4 → d ≠ n + 5 → s.heap.get? d = some o → g3.get? d = some o := fun d o d1 d4 d5 e => t3.extBut _ _ d4 (t2.extBut _ _ d1 (t1.extBut _ _ d5 e))
    have i2 : g3.IsListIter (n + 1) l2 k := ((h2.extBut t1.extBut (by walk_at "ne")).extBut t2.extBut (by walk_at "ne")).extBut t3.extBut (by walk_at "ne")
    have q2 : g3.IsList l2 ys := ((hl2.extBut t1.extBut (by walk_at "ne")).extBut t2.extBut (by walk_at "ne")).extBut t3.extBut (by walk_at "ne")
    have i3 : g3.IsListIter (n + 2) l3 k := ((h3.extBut t1.extBut (by walk_at "ne")).extBut t2.extBut (by walk_at "ne")).extBut t3.extBut (by walk_at "ne")
    have q3 : g3.IsList l3 zs := ((hl3.extBut t1.extBut (by walk_at "ne")).extBut t2.extBut (by walk_at "ne")).extBut t3.extBut (by walk_at "ne")
    cases hy : ys[k]? with
    | none =>
      refine wpAny_bind (wpAny_nextOf_list_end hh i2 q2 hy fun g4 e t4 he => ?_)
      obtain ⟨oe, hoe, hce⟩ := he
      have hz4 : IsZip g4 (n + 5) (n + 3) (n + 4) .ellipsis := t4 _ _ (by walk_at "ne") zz3
      have hez : e ≠ n + 5 := fun x => by subst x; rw [hz4] at hoe; cases hoe; simp at hce
      exact wpAny_setField_rec hz4 (by simp) fun g5 _ t5 => hE g5 e (fun d o d1 d2 _ d4 d5 x => t5.extBut _ _ d5 (t4 _ _ d2 (k3 d o d1 d4 d5 x))) ⟨oe, t5.extBut _ _ hez hoe, hce⟩
    | some y =>
      have hq : zs[k]? = none := by
        rcases hend with h | h | h
        · rw [hx] at h; cases h
        · rw [hy] at h; cases h
        · exact h
      refine wpAny_bind (wpAny_nextOf_list_item i2 q2 hy fun g4 u2 t4 => wpAny_pure ?_)
      have o4 : IsTrip g4 (n + 4) x b c := t4.extBut _ _ (by walk_at "ne") o3
      refine wpAny_bind (wpAny_seqItems o4 rfl ?_)
      refine wpAny_bind (upd_trip o4 fun g5 o5 t5 => ?_)
      refine wpAny_bind (wpAny_letGo (wpAny_pure ?_))
      refine wpAny_bind (wpAny_bind (wpAny_onRaise ?_))
      show wpAny _ _ (Builtin.SmallTypes.nextOf (.ref (n + 2)) >>= _) _ _ _
      refine wpAny_bind (wpAny_nextOf_list_end hh ((i3.extBut t4.extBut (by walk_at "ne")).extBut t5.extBut (by walk_at "ne")) ((q3.extBut t4.extBut (by walk_at "ne")).extBut t5.extBut (by walk_at "ne")) hq fun g6 e t6 he => ?_)
      obtain ⟨oe, hoe, hce⟩ := he
      have hz6 : IsZip g6 (n + 5) (n + 3) (n + 4) .ellipsis := t6 _ _ (by walk_at "ne") (t5.extBut _ _ (by walk_at "ne") (t4.extBut _ _ (by walk_at "ne") zz3))
      have hez : e ≠ n + 5 := fun x => by subst x; rw [hz6] at hoe; cases hoe; simp at hce
      exact wpAny_setField_rec hz6 (by simp) fun g7 _ t7 => hE g7 e (fun d o d1 d2 d3 d4 d5 x => t7.extBut _ _ d5 (t6 _ _ d3 (t5.extBut _ _ d4 (t4.extBut _ _ d2 (k3 d o d1 d4 d5 x))))) ⟨oe, t7.extBut _ _ hez hoe, hce⟩
theorem next_zip3 {n l1 l2 l3 : Nat} {k : Nat} {xs ys zs : Array Value} {x y q a b c : Value} {Q : Option Value → Shared → Prop} (n1 : l1 < n) (n2 : l2 < n) (n3 : l3 < n)
    (hz : IsZip s.heap (n + 5) (n + 3) (n + 4) .none) (hTI : IsTrip s.heap (n + 3) (.ref n) (.ref (n + 1)) (.ref (n + 2))) (hTO : IsTrip s.heap (n + 4) a b c)
    (h1 : s.heap.IsListIter n l1 k) (h2 : s.heap.IsListIter (n + 1) l2 k) (h3 : s.heap.IsListIter (n + 2) l3 k) (hl1 : s.heap.IsList l1 xs) (hl2 : s.heap.IsList l2 ys) (hl3 : s.heap.IsList l3 zs) (hx : xs[k]? = some x) (hy : ys[k]? = some y) (hq : zs[k]? = some q)
    (hQ : ∀ h', IsZip h' (n + 5) (n + 3) (n + 4) (rawInt s.heap.objs.size) → IsTrip h' (n + 4) x y q → h'.IsListIter n l1 (k + 1) → h'.IsListIter (n + 1) l2 (k + 1) → h'.IsListIter (n + 2) l3 (k + 1) → IsTrip h' s.heap.objs.size x y q →
      (∀ d o, d ≠ n → d ≠ n + 1 → d ≠ n + 2 → d ≠ n + 4 → d ≠ n + 5 → s.heap.get? d = some o → h'.get? d = some o) → Q (some (.ref s.heap.objs.size)) { s with heap := h' }) :
    wpAny (model prog w) A (pyNext (.ref (n + 5))) Q E s := by
  have hT : s.TypeIs (.ref (n + 5)) "zip" := ⟨_, hz, rfl⟩
  unfold pyNext
  exact wpAny_bind (wpAny_attempt (wpAny_callSpecial?_slot (name := Str.ofString "__next__") hT F.slot_zip_next
    (wpAny_call_entry F.slot_zip_next hT F.entry_zip_next
      (zip3_item n1 n2 n3 hz hTI hTO h1 h2 h3 hl1 hl2 hl3 hx hy hq fun h' a1 a2 a3 a4 a5 a6 a7 => wpAny_pure (hQ h' a1 a2 a3 a4 a5 a6 a7)) (F.args_zip_next_1 _))))
theorem next_zip3_end {n l1 l2 l3 : Nat} {k : Nat} {xs ys zs : Array Value} {a b c : Value} {Q : Option Value → Shared → Prop} (hh : A.handled = none) (n1 : l1 < n) (n2 : l2 < n) (n3 : l3 < n)
    (hz : IsZip s.heap (n + 5) (n + 3) (n + 4) .none) (hTI : IsTrip s.heap (n + 3) (.ref n) (.ref (n + 1)) (.ref (n + 2))) (hTO : IsTrip s.heap (n + 4) a b c)
    (h1 : s.heap.IsListIter n l1 k) (h2 : s.heap.IsListIter (n + 1) l2 k) (h3 : s.heap.IsListIter (n + 2) l3 k) (hl1 : s.heap.IsList l1 xs) (hl2 : s.heap.IsList l2 ys) (hl3 : s.heap.IsList l3 zs) (hend : xs[k]? = none ∨ ys[k]? = none ∨ zs[k]? = none)
    (hQ : ∀ h', (∀ d o, d ≠ n → d ≠ n + 1 → d ≠ n + 2 → d ≠ n + 4 → d ≠ n + 5 → s.heap.get? d = some o → h'.get? d = some o) → Q none { s with heap := h' }) : wpAny (model prog w) A (pyNext (.ref (n + 5))) Q E s := by
  have hT : s.TypeIs (.ref (n + 5)) "zip" := ⟨_, hz, rfl⟩
  unfold pyNext
  refine wpAny_bind (wpAny_attempt (wpAny_callSpecial?_slot (name := Str.ofString "__next__") hT F.slot_zip_next
    (wpAny_call_entry F.slot_zip_next hT F.entry_zip_next (zip3_end hh n1 n2 n3 hz hTI hTO h1 h2 h3 hl1 hl2 hl3 hend fun h' e hk he => ?_) (F.args_zip_next_1 _))))
  obtain ⟨o, ho, hc⟩ := he
  refine wpAny_bind (wpAny_isInstance (T := "StopIteration") (b := true) ⟨o, ho, hc⟩ isSubtype_stop ?_)
  exact wpAny_pure (hQ _ hk)
end

/-! ### the call zip(a, b, c) -/
theorem typeCall_zip3 (a b c : Value) : checkTypeCall "zip" ⟨[a, b, c], []⟩ = pure () := by kernel_rfl
theorem newCall_zip3 (a b c : Value) : checkBuiltinCall "zip.__new__" ⟨[.type "zip", a, b, c], []⟩ = pure () := by kernel_rfl
theorem initArgs4 (o a b c : Value) : argsOk "object.__init__" ⟨[o, a, b, c], []⟩ := by
  unfold argsOk; rw [signature?_of (id := "object.__init__") (n := ['_', '_', 't', 'i', 'n', 'i', '_', '_']) (o := ['t', 'c', 'e', 'j', 'b', 'o']) (by kernel_rfl) PySem.F.owner_object]; kernel_rfl
abbrev z3H1 (h : Heap) (l1 : Addr) : Heap := h.push { cls := .type "list_iterator", data := .fields #[.ref l1, .int 0 0] }
abbrev z3H2 (h : Heap) (l1 l2 : Addr) : Heap := (z3H1 h l1).push { cls := .type "list_iterator", data := .fields #[.ref l2, .int 0 0] }
abbrev z3H3 (h : Heap) (l1 l2 l3 : Addr) : Heap := (z3H2 h l1 l2).push { cls := .type "list_iterator", data := .fields #[.ref l3, .int 0 0] }
abbrev z3H4 (h : Heap) (l1 l2 l3 : Addr) : Heap := (z3H3 h l1 l2 l3).push { cls := .type "tuple", data := .seq #[.ref h.objs.size, .ref (z3H1 h l1).objs.size, .ref (z3H2 h l1 l2).objs.size] }
abbrev z3H5 (h : Heap) (l1 l2 l3 : Addr) : Heap := (z3H4 h l1 l2 l3).push { cls := .type "tuple", data := .seq #[.none, .none, .none] }
abbrev z3H6 (h : Heap) (l1 l2 l3 : Addr) : Heap := (z3H5 h l1 l2 l3).push { cls := .type "zip", data := .fields #[.none, .bool false, .bool false, .ref (z3H3 h l1 l2 l3).objs.size, .ref (z3H4 h l1 l2 l3).objs.size] }
set_option maxHeartbeats 4000000 in
theorem meets_zip3 (l1 l2 l3 : Addr) (xs ys zs : Array Value) :
    Meets (Builtin.«zip.__new__» ⟨[.type "zip", .ref l1, .ref l2, .ref l3], []⟩) (fun _ R s => s.heap.IsList l1 xs ∧ s.heap.IsList l2 ys ∧ s.heap.IsList l3 zs ∧
      R (.ok (.ret (.ref (z3H5 s.heap l1 l2 l3).objs.size))) { s with heap := z3H6 s.heap l1 l2 l3 }) :=
  .of_wp fun prog w A R s h => by
    obtain ⟨hp, g, d, tk, os⟩ := s; obtain ⟨hl1, hl2, hl3, h⟩ := h
    have hsub := sub_zip
    have hL1 : Heap.IsList (Shared.heap ⟨hp, g, d, tk, os⟩) l1 xs := hl1
    have hL2 : Heap.IsList (Shared.heap ⟨hp.push { cls := .type "list_iterator", data := .fields #[.ref l1, .int 0 0] }, g, d, tk, os⟩) l2 ys := Heap.IsList.push hl2 _
    have hL3 : Heap.IsList (Shared.heap ⟨(hp.push { cls := .type "list_iterator", data := .fields #[.ref l1, .int 0 0] }).push { cls := .type "list_iterator", data := .fields #[.ref l2, .int 0 0] }, g, d, tk, os⟩) l3 zs := Heap.IsList.push (Heap.IsList.push hl3 _) _
    wp_walk using wpAny_pyIter_list hL1, wpAny_pyIter_list hL2, wpAny_pyIter_list hL3
    exact ⟨_, rfl, h⟩
section
variable {prog : Program} {w : World} {A : Around} {E : Value → Shared → Prop} {s : Shared}
theorem call_zip3 {l1 l2 l3 : Addr} {xs ys zs : Array Value} {Q : Value → Shared → Prop} (hl1 : s.heap.IsList l1 xs) (hl2 : s.heap.IsList l2 ys) (hl3 : s.heap.IsList l3 zs)
    (h : ∀ h', IsZip h' (s.heap.objs.size + 5) (s.heap.objs.size + 3) (s.heap.objs.size + 4) .none → IsTrip h' (s.heap.objs.size + 3) (.ref s.heap.objs.size) (.ref (s.heap.objs.size + 1)) (.ref (s.heap.objs.size + 2)) →
      IsTrip h' (s.heap.objs.size + 4) .none .none .none → h'.IsListIter s.heap.objs.size l1 0 → h'.IsListIter (s.heap.objs.size + 1) l2 0 → h'.IsListIter (s.heap.objs.size + 2) l3 0 →
      (∀ c o, s.heap.get? c = some o → h'.get? c = some o) → Q (.ref (s.heap.objs.size + 5)) { s with heap := h' }) :
    wpAny (model prog w) A (call (.type "zip") [.ref l1, .ref l2, .ref l3]) Q E s := by
  refine callType_new F.called_zip (by decide) (typeCall_zip3 _ _ _) (newCall_zip3 _ _ _) (fun obj => initArgs4 obj _ _ _) F.entry_zip_new
    (meets_zip3 l1 l2 l3 xs ys zs) ⟨hl1, hl2, hl3, ?_⟩
  have z1 : (z3H1 s.heap l1).objs.size = s.heap.objs.size + 1 := Heap.size_push ..
  have z2 : (z3H2 s.heap l1 l2).objs.size = s.heap.objs.size + 2 := by rw [Heap.size_push, z1]
  have z3 : (z3H3 s.heap l1 l2 l3).objs.size = s.heap.objs.size + 3 := by rw [Heap.size_push, z2]
  have z4 : (z3H4 s.heap l1 l2 l3).objs.size = s.heap.objs.size + 4 := by rw [Heap.size_push, z3]
  have z5 : (z3H5 s.heap l1 l2 l3).objs.size = s.heap.objs.size + 5 := by rw [Heap.size_push, z4]
  have g6 : (z3H6 s.heap l1 l2 l3).get? (z3H5 s.heap l1 l2 l3).objs.size = some _ := Heap.get?_push_size _ rfl
  have g5 : (z3H6 s.heap l1 l2 l3).get? (z3H4 s.heap l1 l2 l3).objs.size = some _ := Heap.get?_push_of_some _ (Heap.get?_push_size _ rfl)
  have g4 : (z3H6 s.heap l1 l2 l3).get? (z3H3 s.heap l1 l2 l3).objs.size = some _ := Heap.get?_push_of_some _ (Heap.get?_push_of_some _ (Heap.get?_push_size _ rfl))
  have g3 : (z3H6 s.heap l1 l2 l3).get? (z3H2 s.heap l1 l2).objs.size = some _ := Heap.get?_push_of_some _ (Heap.get?_push_of_some _ (Heap.get?_push_of_some _ (Heap.get?_push_size _ rfl)))
  have g2 : (z3H6 s.heap l1 l2 l3).get? (z3H1 s.heap l1).objs.size = some _ := Heap.get?_push_of_some _ (Heap.get?_push_of_some _ (Heap.get?_push_of_some _ (Heap.get?_push_of_some _ (Heap.get?_push_size _ rfl))))
  have g1 : (z3H6 s.heap l1 l2 l3).get? s.heap.objs.size = some _ := Heap.get?_push_of_some _ (Heap.get?_push_of_some _ (Heap.get?_push_of_some _ (Heap.get?_push_of_some _ (Heap.get?_push_of_some _ (Heap.get?_push_size _ rfl)))))
  show _ ∧ _
  rw [z3, z4, z5] at g6
  rw [z4] at g5
  rw [z1, z2, z3] at g4
  rw [z2] at g3
  rw [z1] at g2
  rw [z5]
  exact ⟨⟨_, g6, rfl⟩, h _ g6 g4 g5 ⟨_, g1, rfl, rfl⟩ ⟨_, g2, rfl, rfl⟩ ⟨_, g3, rfl, rfl⟩ fun c o x =>
    Heap.get?_push_of_some _ (Heap.get?_push_of_some _ (Heap.get?_push_of_some _ (Heap.get?_push_of_some _ (Heap.get?_push_of_some _ (Heap.get?_push_of_some _ x)))))⟩
end
def It3 (K : PySem.W.Frag) (a b c : Addr) : It :=
  ⟨fun i H => ∃ xs ys zs x y q, SqL K H a xs ∧ SqL K H b ys ∧ SqL K H c zs ∧ xs[i]? = some x ∧ ys[i]? = some y ∧ zs[i]? = some q,
   fun i H v H' => ∃ T x y q, v = .ref T ∧ H T = none ∧ H' = upd H T (.tup [x, y, q]) ∧ (∀ xs, SqL K H a xs → xs[i]? = some x) ∧ (∀ ys, SqL K H b ys → ys[i]? = some y) ∧ ∀ zs, SqL K H c zs → zs[i]? = some q,
   fun i H => ∃ xs ys zs, SqL K H a xs ∧ SqL K H b ys ∧ SqL K H c zs ∧ (xs.length ≤ i ∨ ys.length ≤ i ∨ zs.length ≤ i)⟩
def Zip3St (n a b c : Nat) (i : Nat) (h : Heap) : Prop := IsZip h (n + 5) (n + 3) (n + 4) .none ∧ IsTrip h (n + 3) (.ref n) (.ref (n + 1)) (.ref (n + 2)) ∧ (∃ u v w, IsTrip h (n + 4) u v w) ∧ h.IsListIter n a i ∧ h.IsListIter (n + 1) b i ∧ h.IsListIter (n + 2) c i
theorem turn_zip3 {P : Program} {w : World} {K : PySem.W.Frag} {elts : List Expr} {kk : Nat} {tp : Pos} {n a b c : Nat} (n1 : a < n) (n2 : b < n) (n3 : c < n) :
    Turn P w K (.Tuple elts kk tp) (It3 K a b c) [n + 5, n + 3, n + 4, n, n + 1, n + 2] (n + 5) (Zip3St n a b c) where
  mem := by simp
  obj := fun i h st d hd => by
    obtain ⟨h1, h2, ⟨u, v, w', h3⟩, ⟨o1, e1, _, d1⟩, ⟨o2, e2, _, d2⟩, ⟨o3, e3, _, d3⟩⟩ := st
    simp only [List.mem_cons, List.not_mem_nil, or_false] at hd
    rcases hd with rfl | rfl | rfl | rfl | rfl | rfl
    · exact ⟨_, h1, fun v z => by cases (show Data.fields _ = Data.cell v from z)⟩
    · exact ⟨_, h2, fun v z => by cases (show Data.seq _ _ = Data.cell v from z)⟩
    · exact ⟨_, h3, fun v z => by cases (show Data.seq _ _ = Data.cell v from z)⟩
    · exact ⟨_, e1, fun v z => by rw [d1] at z; cases z⟩
    · exact ⟨_, e2, fun v z => by rw [d2] at z; cases z⟩
    · exact ⟨_, e3, fun v z => by rw [d3] at z; cases z⟩
  keep := fun i h h' st k => by
    obtain ⟨h1, h2, ⟨u, v, w', h3⟩, h4, h5, h6⟩ := st
    exact ⟨k _ (by simp) _ h1, k _ (by simp) _ h2, ⟨u, v, w', k _ (by simp) _ h3⟩, h4.at fun o e => k _ (by simp) o e, h5.at fun o e => k _ (by simp) o e, h6.at fun o e => k _ (by simp) o e⟩
  item := by
    intro X hP hw hK hc i pins s σ H E I hf st hg
    subst hP hw hK
    obtain ⟨xs, ys, zs, x, y, q, hx, hy, hq, ex, ey, eq⟩ := hg
    obtain ⟨h1, h2, ⟨u, v, w', h3⟩, h4, h5, h6⟩ := st
    obtain ⟨its, rv, p, hz⟩ := I.list hx
    obtain ⟨jts, rw', p', hz'⟩ := I.list hy
    obtain ⟨kts, rk, p'', hz''⟩ := I.list hq
    obtain ⟨ux, hux, rux⟩ := rv.get ex
    obtain ⟨uy, huy, ruy⟩ := rw'.get ey
    obtain ⟨uq, huq, ruq⟩ := rk.get eq
    refine next_zip3 n1 n2 n3 h1 h2 h3 h4 h5 h6 p.isList p'.isList p''.isList (x := ux) (y := uy) (q := uq) (by simpa using hux) (by simpa using huy) (by simpa using huq) fun h' a1 a2 a3 a4 a5 a6 a7 => ?_
    have ln : n + 5 < s.heap.objs.size := Heap.lt_size h1
    have lt : ∀ d ∈ [n + 5, n + 3, n + 4, n, n + 1, n + 2], d < s.heap.objs.size := fun d hd => by
      simp only [List.mem_cons, List.not_mem_nil, or_false] at hd
      rcases hd with rfl | rfl | rfl | rfl | rfl | rfl <;> omega
    refine ⟨_, rfl, wpAny_letOwnedTupleGo_zip a1 fun h2' b1 b2 => ?_⟩
    have hk : ∀ d o, d ∉ [n + 5, n + 3, n + 4, n, n + 1, n + 2] → s.heap.get? d = some o → h2'.get? d = some o := fun d o hd e => by
      simp only [List.mem_cons, List.not_mem_nil, or_false, not_or] at hd
      exact (b2.2 d hd.1).trans (a7 d o hd.2.2.2.1 hd.2.2.2.2.1 hd.2.2.2.2.2 hd.2.2.1 hd.1 e)
    have I1 := I.turnT (h' := h2') (t' := s.toks) (T := s.heap.objs.size) (xs := [x, y, q]) (its := [ux, uy, uq]) hf hk (Nat.le_refl _) (szl (Nat.le_of_ble_eq_true rfl)) (.cons rux (.cons ruy (.cons ruq .nil))) ⟨_, (b2.2 _ (by show @Ne Nat _ _; omega)).trans a6, rfl, _, rfl⟩
    refine ⟨.ref s.heap.objs.size, _, I1, rfl, ⟨_, x, y, q, rfl, I.hok.fresh (Nat.le_refl _), rfl, fun xs' h => by rw [I.list_inj h hx]; exact ex, fun ys' h => by rw [I.list_inj h hy]; exact ey, fun zs' h => by rw [I.list_inj h hq]; exact eq⟩, ?_, fun d hd => ?_⟩
    · exact ⟨b1, (b2.2 _ (by show @Ne Nat _ _; omega)).trans (a7 _ _ (by show @Ne Nat _ _; omega) (by show @Ne Nat _ _; omega) (by show @Ne Nat _ _; omega) (by show @Ne Nat _ _; omega) (by show @Ne Nat _ _; omega) h2), ⟨_, _, _, (b2.2 _ (by show @Ne Nat _ _; omega)).trans a2⟩, a3.at fun o e => (b2.2 _ (by show @Ne Nat _ _; omega)).trans e, a4.at fun o e => (b2.2 _ (by show @Ne Nat _ _; omega)).trans e, a5.at fun o e => (b2.2 _ (by show @Ne Nat _ _; omega)).trans e⟩
    · rw [upd_ne (Nat.ne_of_lt (lt d hd))]
      exact (hf d hd).1
  done := by
    intro X hP hw hK hc i pins s σ H E I hf st hg
    subst hP hw hK
    obtain ⟨xs, ys, zs, hx, hy, hq, hl⟩ := hg
    obtain ⟨h1, h2, ⟨u, v, w', h3⟩, h4, h5, h6⟩ := st
    obtain ⟨its, rv, p, hz⟩ := I.list hx
    obtain ⟨jts, rw', p', hz'⟩ := I.list hy
    obtain ⟨kts, rk, p'', hz''⟩ := I.list hq
    have l1 := rv.length
    have l2 := rw'.length
    have l3 := rk.length
    refine next_zip3_end (I.ok.hd hc) n1 n2 n3 h1 h2 h3 h4 h5 h6 p.isList p'.isList p''.isList ?_ fun h' hk => ⟨rfl, ?_⟩
    · rcases hl with hl | hl | hl
      · left; simp; omega
      · right; left; simp; omega
      · right; right; simp; omega
    · exact I.turnedL (t' := s.toks) hf fun d o hd e => by
        simp only [List.mem_cons, List.not_mem_nil, or_false, not_or] at hd
        exact hk d o hd.2.2.2.1 hd.2.2.2.2.1 hd.2.2.2.2.2 hd.2.2.1 hd.1 e
  self := fun A i s Q E st h => wpAny_pyIter_zip st.1 h
def iZip3 (K : PySem.W.Frag) (ta : TA) : TI := fun σ H R => ta σ H fun vs H1 => ∃ a b c, vs = [.ref a, .ref b, .ref c] ∧ (∃ xs, SqL K H1 a xs) ∧ (∃ ys, SqL K H1 b ys) ∧ (∃ zs, SqL K H1 c zs) ∧ R (It3 K a b c) H1
section
variable {X : Cx} {elts : List Expr} {kk : Nat} {tp : Pos}
theorem pi_zip3 {a b c : Expr} {ta : TA} {p pos : Pos} (hg : Gl X "zip") (hm : X.mg "zip" = none) (ha : PA X [a, b, c] ta) (hs : starEach [a, b, c] X.env = [(false, eval a X.env), (false, eval b X.env), (false, eval c X.env)] := by rfl) (hs2 : starEach [b, c] X.env = [(false, eval b X.env), (false, eval c X.env)] := by rfl) :
    PI X (.Tuple elts kk tp) (.Call (.Name "zip" p) [a, b, c] [] pos) (iZip3 X.K ta) := by
  intro pins s σ H R I h
  refine Call_ (ld_blt I hg hm bt_zip (PyProof.Rows.callWith_type1 (thn (ha pos pins s σ H _ I h) fun us s1 ⟨vs, H1, I1, r1, q1⟩ => ?_) (by rw [hs, hs2]) (by rw [hs2]; rfl)))
  obtain ⟨x, y, q, e, ⟨xs, hx⟩, ⟨ys, hy⟩, ⟨zs, hq⟩, R1⟩ := q1
  subst e
  cases r1 with
  | cons r rr =>
    cases rr with
    | cons r' rr =>
      cases rr with
      | cons r'' rr =>
        cases rr
        obtain ⟨its, rv, pl, hz⟩ := I1.list hx
        obtain ⟨jts, rw', ql, hz'⟩ := I1.list hy
        obtain ⟨kts, rk, kl, hz''⟩ := I1.list hq
        cases r
        cases r'
        cases r''
        have a1 : x < s1.heap.objs.size := by obtain ⟨_, e, _⟩ := pl.isList; exact Heap.lt_size e
        have a2 : y < s1.heap.objs.size := by obtain ⟨_, e, _⟩ := ql.isList; exact Heap.lt_size e
        have a3 : q < s1.heap.objs.size := by obtain ⟨_, e, _⟩ := kl.isList; exact Heap.lt_size e
        refine call_zip3 pl.isList ql.isList kl.isList fun h' b1 b2 b3 b4 b5 b6 b7 => ?_
        have I2 : Inv X pins σ H1 { s1 with heap := h' } := I1.kept (t' := s1.toks) b7
        refine wpAny_pyIter_zip (s := { s1 with heap := h' }) b1 ⟨_, _, _, _, H1, rfl, I2, turn_zip3 a1 a2 a3, ⟨b1, b2, ⟨_, _, _, b3⟩, b4, b5, b6⟩, fun c hc => ?_, R1⟩
        have hc' : s1.heap.objs.size ≤ c := by
          simp only [List.mem_cons, List.not_mem_nil, or_false] at hc
          rcases hc with rfl | rfl | rfl | rfl | rfl | rfl
          · exact Nat.le_add_right _ _
          · exact Nat.le_add_right _ _
          · exact Nat.le_add_right _ _
          · exact Nat.le_refl _
          · exact Nat.le_add_right _ _
          · exact Nat.le_add_right _ _
        exact I1.fpOk hc' (I1.hok.fresh hc')
theorem pi_zip3K (K : PySem.W.Frag) {a b c : Expr} {ta : TA} {p pos : Pos} (hg : Gl X "zip") (hm : X.mg "zip" = none) (ha : PA X [a, b, c] ta) (hs : starEach [a, b, c] X.env = [(false, eval a X.env), (false, eval b X.env), (false, eval c X.env)] := by rfl) (hs2 : starEach [b, c] X.env = [(false, eval b X.env), (false, eval c X.env)] := by rfl)
    (hK : X.K = K := by rfl) : PI X (.Tuple elts kk tp) (.Call (.Name "zip" p) [a, b, c] [] pos) (iZip3 K ta) := by subst hK; exact pi_zip3 hg hm ha hs hs2
end
section
variable {K : PySem.W.Frag} {g : TG} {ti : TT} {te : TE} {σc : St} {H : Hp} {Q : VK}
theorem cp_zip3 {a b c : Addr} {xs ys ws : List V} (Pv : Nat → List V → Hp → Prop) (h0 : Pv 0 [] H) (hl : ∀ i zs H, Pv i zs H → SqL K H a xs ∧ SqL K H b ys ∧ SqL K H c ws ∧ zs.length ≤ i) (hx : min xs.length (min ys.length ws.length) < sizeLine)
    (hs : ∀ i x y q T zs H, xs[i]? = some x → ys[i]? = some y → ws[i]? = some q → Pv i zs H → H T = none → g (.ref T) σc (upd H T (.tup [x, y, q])) fun σ2 H2 => ti σ2 H2 fun b H3 => if b = true then te σ2 H3 fun y H4 => Pv (i + 1) (zs ++ [y]) H4 else Pv (i + 1) zs H3)
    (hd : ∀ l zs H, Pv (min xs.length (min ys.length ws.length)) zs H → H l = none → Q (.ref l) (upd H l (.lst zs))) : CompI (It3 K a b c) g ti te σc H Q := by
  refine ⟨fun i m zs H => m = min xs.length (min ys.length ws.length) - i ∧ i ≤ min xs.length (min ys.length ws.length) ∧ Pv i zs H, ⟨_, rfl, Nat.zero_le _, h0⟩, ?_⟩
  rintro i m zs H ⟨rfl, hi, p⟩
  obtain ⟨q1, q2, q3, hy⟩ := hl i zs H p
  refine ⟨by omega, ?_⟩
  by_cases hlt : i < min xs.length (min ys.length ws.length)
  · have l1 : i < xs.length := by omega
    have l2 : i < ys.length := by omega
    have l3 : i < ws.length := by omega
    refine .inr ⟨⟨xs, ys, ws, xs[i], ys[i], ws[i], q1, q2, q3, by simp [l1], by simp [l2], by simp [l3]⟩, Pv (i + 1), fun σ' H' p' => ⟨_, by omega, rfl, hlt, p'⟩, fun x H' y => ?_⟩
    obtain ⟨T, x1, y1, z1, rfl, hT, rfl, ex, ey, ez⟩ := y
    exact hs i x1 y1 z1 T zs H (ex xs q1) (ey ys q2) (ez ws q3) p hT
  · have e : i = min xs.length (min ys.length ws.length) := by omega
    exact .inl ⟨⟨xs, ys, ws, q1, q2, q3, by omega⟩, fun l hl => hd l zs H (by rw [← e]; exact p) hl⟩
end
end L2

set_option Elab.async false
set_option linter.all false
set_option maxRecDepth 100000
/-! xs[::-1], xs.index(i), xs.insert(i, x) -/
namespace L2
open PySem PySem.Spec PyProof.Rows
section
variable {X : Cx} {e k : Expr} {te : TE} {tk : TO} {pos p2 : Pos}
def rRev (K : PySem.W.Frag) : V → Hp → VK → Prop := fun x H Q => ∃ a xs, x = .ref a ∧ SqL K H a xs ∧ ∀ p, H p = none → Q (.ref p) (upd H p (.lst xs.reverse))
def tRev (K : PySem.W.Frag) (te : TE) (tk : TO) : TE := fun σ H Q => te σ H fun x H1 => tk σ H1 fun j H2 => j = some (-1) ∧ rRev K x H2 Q
theorem pe_rev (he : PE X e te) (hk : PO X (some k) tk) : PE X (.Subscript e (.Slice none none (some k) p2) pos) (tRev X.K te tk) := by
  intro pins s σ H Q I h
  refine Subscript_ (thn (he pins s σ H _ I h) fun v s1 ⟨x, H1, I1, r1, q1⟩ => ?_)
  refine wpAny_Slice ?_
  rw [evalPart_none]
  refine wpAny_pure ?_
  refine wpAny_pure ?_
  refine thn (hk pins s1 σ H1 _ I1 q1) fun vs s3 ⟨j, H3, I3, ps, q3⟩ => ?_
  obtain ⟨rfl, a, xs, rfl, hx, q⟩ := q3
  cases r1
  have I4 : Inv X pins σ H3 { s3 with heap := s3.heap.push { cls := .type "slice", data := .fields #[.none, .none, vs] } } := I3.kept (t' := s3.toks) fun b ob q => Heap.get?_push_of_some _ q
  show wpAny (model X.prog X.w) X.A (subscriptTail e (.Slice none none (some k) p2) (.ref a) (.ref s3.heap.objs.size)) (EP X pins σ Q) X.xe { s3 with heap := s3.heap.push { cls := .type "slice", data := .fields #[.none, .none, vs] } }
  obtain ⟨its, r, ht, hz⟩ := I4.list hx
  have hlen := r.length
  refine tail_any (ops := [.ref a, .ref s3.heap.objs.size]) ht.isList.typeIs slot_list_getitem.lookup ?_ (by with_unfolding_all rfl)
  refine wpAny_getItem_list_slice ht.isList (Heap.IsSliceOf.new ..) .none .none ps (by simp) ?_ (by rw [List.size_toArray] <;> omega)
  rw [PySem.W.krv_pick]
  refine ⟨.ref _, _, I4.laid (t' := s3.toks) (o := .lst xs.reverse) (fun b ob q => Heap.get?_push_of_some _ q) (Nat.le_refl _) ?_, rfl, q _ (I4.hok.fresh (Nat.le_refl _))⟩
  exact ⟨by rw [List.length_reverse]; exact hz, _, 0, r.reverse, Heap.get?_push_size _ rfl⟩
theorem pe_revK (K : PySem.W.Frag) (he : PE X e te) (hk : PO X (some k) tk) (hK : X.K = K := by rfl) : PE X (.Subscript e (.Slice none none (some k) p2) pos) (tRev K te tk) := by subst hK; exact pe_rev he hk
end
section
variable {X : Cx}
theorem isInt_vals {ns : List Int} {its : List Value} (r : Vals (iL ns) its) : IntsAre its ns := intsAre_of r
def rIndex : V → List V → Hp → VK → Prop := fun x vs H Q => ∃ l ns k, x = .ref l ∧ vs = [.int k] ∧ H l = some (.lst (iL ns)) ∧ k ∈ ns ∧ Q (.int (ns.idxOf k : Nat)) H
theorem mt_index : MtM X "list.index" rIndex := by
  intro pins s σ H x vs v us Q I rx rv h
  obtain ⟨l, ns, k, rfl, rfl, hH, hk, q⟩ := h
  cases rx
  obtain ⟨u, rfl, ru⟩ := rv.one
  obtain ⟨t, rfl⟩ := ru
  obtain ⟨z, its, n, r, hl, e⟩ := I.lstM hH
  have hi := isInt_vals r
  have hlen := hi.length
  have hj : ns.idxOf k < ns.length := List.idxOf_lt_length_iff.mpr hk
  have hz : ns.length ≤ sizeLine := by simpa [iL] using z
  have hsl := sizeLine_eq
  refine call_meets PySem.F.slot_list_index ⟨_, e, rfl⟩ PySem.F.entry_list_index (PySem.F.args_list_index_2 _ _)
    (PySem.SeqAt.list_indexAt l its.toArray n none #[] (.int k t) (isInt k) (ns.idxOf k) (by simpa [hlen] using hj) (by omega) ?_ ?_) ⟨e, fun y hy => (eq_isInt k t hi y (by simpa using hy)).at _ _, ?_⟩
  · show isInt k its[ns.idxOf k] = true
    rw [isInt_at k hi _ (by omega) hj]
    simpa using List.getElem_idxOf hj
  · intro j hjs hlt
    show isInt k its[j] = false
    rw [isInt_at k hi j (by simpa using hjs) (by omega)]
    exact ne_of_lt_idxOf hlt _
  · exact ⟨.int _, H, I.kept (t' := s.toks + 1) (h' := s.heap) (fun _ _ q => q), ⟨_, rfl⟩, q⟩
def rInsert : V → List V → Hp → VK → Prop := fun x vs H Q => ∃ l xs y, x = .ref l ∧ vs = [.int 0, y] ∧ H l = some (.lst xs) ∧ xs.length < sizeLine ∧ Q .non (upd H l (.lst (y :: xs)))
end
section
variable {K : PySem.W.Frag} {H : Hp} {Q : VK}
theorem i_rev {a : Addr} {ns : List Int} (h : SqL K H a (iL ns)) (q : ∀ p, H p = none → Q (.ref p) (upd H p (.lst (iL ns.reverse)))) : some (-1 : Int) = some (-1) ∧ rRev K (.ref a) H Q := ⟨rfl, a, _, rfl, h, fun p hp => by rw [← List.map_reverse]; exact q p hp⟩
theorem atI_neg {α : Type} {xs : List α} {i : Int} {v : α} (h0 : i < 0) (h1 : 0 ≤ i + xs.length) (h : xs[(i + xs.length).toNat]? = some v) : atI xs i = some v := by
  have e : ixN xs.length i = some (i + xs.length).toNat := by
    unfold ixN
    rw [if_neg (by omega), if_pos (by omega)]
  unfold atI
  rw [e]
  exact h
theorem i_ixNeg {p : Addr} {xs : List V} {i : Int} {v : V} (h : SqL K H p xs) (h0 : i < 0) (h1 : 0 ≤ i + xs.length) (e : xs[(i + xs.length).toNat]? = some v) (q : Q v H) : rIxP K (.ref p) (.int i) H Q := .inl ⟨p, _, _, _, rfl, rfl, h, atI_neg h0 h1 e, q⟩
theorem i_index {a : Addr} {ns : List Int} {k : Int} (h : H a = some (.lst (iL ns))) (hk : k ∈ ns) (q : Q (.int (ns.idxOf k : Nat)) H) : rIndex (.ref a) [.int k] H Q := ⟨a, ns, k, rfl, rfl, h, hk, q⟩
end
end L2

set_option Elab.async false
set_option linter.all false
set_option maxRecDepth 100000
/-! sorted(..) by what its runs do, whatever the items are; two pairs -/
namespace L2
open PySem PySem.Spec PyProof.Rows
section
variable {prog : Program} {w : World} {A : Around} {E : Value → Shared → Prop} {s : Shared}
/-- the runs of a sort, the state staying -/
def RunsTo (prog : Program) (w : World) (A : Around) (vs : List Value) (s : Shared) (R : List Value → Prop) : Prop :=
  ∀ {E : Value → Shared → Prop} {P : SortSt → Shared → Prop}, (∀ (st : SortSt) (out : List Value), failedOf st = none → (arrOf st).map (·.2) = out.toArray → out.length = vs.length → R out → P st s) →
    wpAny (model prog w) A (do let kind ← keyKind' vs.toArray; let ((), st) ← (sortRuns').run (SortSt.mk' kind (vs.toArray.zip vs.toArray) #[] 7 none); pure st) P E s
theorem list_sort_raw {a : Addr} {vs : List Value} {n : Nat} {P : Fin → Shared → Prop} {R : List Value → Prop} (ho : s.heap.get? a = some (seqObj "list" vs.toArray n)) (h2 : 2 ≤ vs.length) (hz : vs.length ≤ sizeLine)
    (hr : ∀ h' : Heap, (∀ b o, b ≠ a → s.heap.get? b = some o → h'.get? b = some o) → RunsTo prog w A vs { s with heap := h' } R)
    (h : ∀ out : List Value, out.length = vs.length → R out → P (.done (.ret .none)) { s with heap := sortedHeap s.heap a vs out.toArray }) :
    wpAny (model prog w) A (Builtin.«list.sort» ⟨[.ref a], []⟩) P E s := by
  rw [list_sort_plain]
  have ha : a < s.heap.objs.size := Heap.lt_size ho
  refine wpAny_bind (listItems_at ho rfl ?_)
  refine wpAny_bind (listUpdate_at ho rfl ?_ (by rw [List.size_toArray]; exact hz) (Nat.zero_le _))
  obtain ⟨e1, ho1⟩ : ∃ e1, (s.heap.update a (Obj.mapSeq fun _ => #[])).get? a = some (seqObj "list" #[] e1) := ⟨_, get?_update_seq ho (fun _ => #[])⟩
  refine wpAny_bind (seqEpoch_at ho1 rfl ?_)
  refine wpAny_bind (wpAny_newTuple ?_ (by show vs.length ≤ _; exact hz))
  refine wpAny_bind (wpAny_newList ?_ (Nat.zero_le _))
  refine wpAny_holding ?_
  have ho6 : (((s.heap.update a (Obj.mapSeq fun _ => #[])).push (seqObj "tuple" vs.toArray 0)).push (seqObj "list" #[] 0)).get? a = some (seqObj "list" #[] e1) := by
    rw [Heap.get?_push_ne _ _ _ (by rw [size_push', Heap.size_update]; exact Nat.ne_of_lt (Nat.lt_succ_of_lt ha)), Heap.get?_push_ne _ _ _ (by rw [Heap.size_update]; exact Nat.ne_of_lt ha)]
    exact ho1
  have keep : ∀ b o, b ≠ a → s.heap.get? b = some o → (((s.heap.update a (Obj.mapSeq fun _ => #[])).push (seqObj "tuple" vs.toArray 0)).push (seqObj "list" #[] 0)).get? b = some o := fun b o hb q => by
    have hlt := Heap.lt_size q
    rw [Heap.get?_push_ne _ _ _ (by rw [size_push', Heap.size_update]; exact Nat.ne_of_lt (Nat.lt_succ_of_lt hlt)), Heap.get?_push_ne _ _ _ (by rw [Heap.size_update]; exact Nat.ne_of_lt hlt), Heap.get?_update_ne _ _ _ _ hb]
    exact q
  show wpAny (model prog w) A _ P E { s with heap := ((s.heap.update a (Obj.mapSeq fun _ => #[])).push (seqObj "tuple" vs.toArray 0)).push (seqObj "list" #[] 0) }
  dsimp only
  have hn2 : ¬ vs.toArray.size < 2 := by rw [List.size_toArray]; omega
  rw [if_neg hn2, if_neg hn2]
  have run := hr _ keep (E := E) (P := fun st s' => wpAny (model prog w) A (do
      let sorted := (arrOf st).map (·.2)
      let touched := (← seqEpoch a) != e1
      Builtin.List.listUpdate (.ref a) fun _ => sorted
      if let some e := failedOf st then rule "list.sort.comparison-raised"; throw e
      if touched then rule "list.sort.modified"; raiseError "ValueError" "list modified during sort"
      ret .none) P E s') (fun st out hf har hl hR => ?_)
  · have := wpAny_bind run
    simp only [bind_assoc, pure_bind] at this
    exact this
  · rw [har]
    refine wpAny_bind (seqEpoch_at ho6 rfl ?_)
    refine wpAny_bind (listUpdate_at ho6 rfl ?_ (Nat.zero_le _) (by show out.toArray.size ≤ _; rw [List.size_toArray]; omega))
    rw [hf]
    simp only [bne_self_eq_false, Bool.false_eq_true, if_false]
    exact wpAny_pure (h out hl hR)
theorem sorted_raw {l : Addr} {vs : List Value} {Q : Value → Shared → Prop} {R : List Value → Prop} (hl : s.heap.IsList l vs.toArray) (h2 : 2 ≤ vs.length) (hz : vs.length ≤ sizeLine)
    (hr : ∀ h' : Heap, (∀ b o, s.heap.get? b = some o → h'.get? b = some o) → RunsTo prog w A.in1.in1 vs { s with heap := h' } R)
    (h : ∀ out : List Value, out.length = vs.length → R out → Q (.ref (s.heap.objs.size + 1)) { s with heap := sortedAll s.heap vs out.toArray }) :
    wpAny (model prog w) A (call (.builtin "sorted") [.ref l]) Q E s := by
  refine Calls.call_function_entry kind_sorted plain_sorted entry_sorted (args_sorted1 _) ?_
  unfold Builtin.«sorted»
  refine wpAny_bind (m := checkCount "sorted" 1 1 _) (wpAny_pure ?_)
  refine wpAny_bind (collect_list hl ?_ hz)
  refine wpAny_bind (wpAny_newList ?_ hz)
  have hsz : ((s.heap.push (seqObj "list" #[] 0)).update s.heap.objs.size (Obj.mapSeq (· ++ vs.toArray))).objs.size = s.heap.objs.size + 1 := by
    rw [Heap.size_update, size_push']
  have hoL : (((s.heap.push (seqObj "list" #[] 0)).update s.heap.objs.size (Obj.mapSeq (· ++ vs.toArray))).push (seqObj "list" vs.toArray 0)).get? (s.heap.objs.size + 1) = some (seqObj "list" vs.toArray 0) := by
    rw [← hsz]; exact Heap.get?_push_size _ rfl
  have keep : ∀ b o, s.heap.get? b = some o → (((s.heap.push (seqObj "list" #[] 0)).update s.heap.objs.size (Obj.mapSeq (· ++ vs.toArray))).push (seqObj "list" vs.toArray 0)).get? b = some o := fun b o q => by
    have hlt : b < s.heap.objs.size := Heap.lt_size q
    rw [Heap.get?_push_ne _ _ _ (by rw [hsz]; exact Nat.ne_of_lt (Nat.lt_succ_of_lt hlt)), Heap.get?_update_ne _ _ _ _ (Nat.ne_of_lt hlt), Heap.get?_push_ne _ _ _ (Nat.ne_of_lt hlt)]
    exact q
  show wpAny _ _ _ _ _ { s with heap := ((s.heap.push (seqObj "list" #[] 0)).update s.heap.objs.size (Obj.mapSeq (· ++ vs.toArray))).push (seqObj "list" vs.toArray 0) }
  rw [hsz]
  refine wpAny_bind (wpAny_holding (wpAny_call_entry slot_list_sort ⟨_, hoL, rfl⟩ entry_list_sort (list_sort_raw (R := R) hoL h2 hz (fun h' k => ?_) fun out a1 a2 => ⟨_, rfl, ?_⟩) (args_list_sort _)))
  · exact hr h' fun b o q => k b o (Nat.ne_of_lt (Nat.lt_succ_of_lt (Heap.lt_size q))) (keep b o q)
  · exact wpAny_pure ⟨_, rfl, h out a1 a2⟩
/-- two pairs of ints -/
theorem runs_two {x y : Addr} {i j p q : Int} {ti tj tp tq : Tok} {n k : Nat} {ox oy : Obj} (hx : s.heap.get? x = some ox) (cx : ox.cls = .type "tuple") (dx : ox.data = .seq #[.int i ti, .int j tj] n) (hy : s.heap.get? y = some oy) (cy : oy.cls = .type "tuple") (dy : oy.data = .seq #[.int p tp, .int q tq] k) :
    RunsTo prog w A [.ref x, .ref y] s fun out => out = if (p < i ∨ (p = i ∧ q < j)) then [.ref y, .ref x] else [.ref x, .ref y] := by
  intro E P hP
  refine wpAny_bind (PySem.W.kat_kind (fs := [.int i ti, .int p tp]) (T := .type "int") ⟨⟨x, _, _, _, rfl, hx, cx, dx, rfl⟩, ⟨y, _, _, _, rfl, hy, cy, dy, rfl⟩, trivial⟩ (by simp) (fun v hv => ?_) (by decide) ?_)
  · simp only [List.mem_cons, List.not_mem_nil, or_false] at hv
    rcases hv with rfl | rfl
    · exact PySem.W.Looks.of_pure rfl
    · exact PySem.W.Looks.of_pure rfl
  · refine wpAny_bind (PySem.W.kat_run (vs := [.ref x, .ref y]) (ks := [.ref x, .ref y]) (Q := fun st s' => wpAny (model prog w) A (pure st) P E s') (G := fun pm s' => s' = s ∧ pm = if (p < i ∨ (p = i ∧ q < j)) then #[1, 0] else #[0, 1]) rfl (by simp) (by simp) (fun pm st' s' h1 h2 h3 h4 => ?_) ?_)
    · obtain ⟨rfl, h4⟩ := h4
      refine wpAny_pure (hP st' _ h3 (PySem.W.kat_snds (ks := [.ref x, .ref y]) rfl h2) (by simpa using h1) ?_)
      rw [h4]
      split <;> rfl
    · show PySem.W.kas_ask prog w A _ _ 1 0 _ s
      refine PySem.W.kat_lt hy dy hx dx ?_
      refine PySem.W.kat_cons (wpAny_eqBool_int ?_)
      refine PySem.W.kat_go (fun e => PySem.W.kat_yes (PySem.W.kat_cons (wpAny_eqBool_int (PySem.W.kat_go (fun e2 => PySem.W.kat_yes (PySem.W.kat_nil ?_)) fun e2 => PySem.W.kat_no ?_)))) fun e => PySem.W.kat_no ?_
      · have e' : p = i := by simpa using e
        have e2' : q = j := by simpa using e2
        subst e' e2'
        exact ⟨rfl, by simp; rfl⟩
      · have e' : p = i := by simpa using e
        have e2' : q ≠ j := by simpa using e2
        subst e'
        refine PySem.W.kat_one _ _ (lt_int ?_)
        by_cases g : q < j
        · simp [g]
          exact ⟨rfl, rfl⟩
        · simp [g]
          exact ⟨rfl, rfl⟩
      · have e' : p ≠ i := by simpa using e
        refine oneLt_int ?_
        by_cases g : p < i
        · simp [g]
          exact ⟨rfl, rfl⟩
        · simp [g, e']
          exact ⟨rfl, rfl⟩
end
section
variable {X : Cx}
def rSortT (K : PySem.W.Frag) : List V → Hp → VK → Prop := fun vs H Q => ∃ l x y i j p q, vs = [.ref l] ∧ SqL K H l [.ref x, .ref y] ∧ SqT K H x [.int i, .int j] ∧ SqT K H y [.int p, .int q] ∧
  ∀ r, H r = none → Q (.ref r) (upd H r (.lst (if p < i ∨ (p = i ∧ q < j) then [.ref y, .ref x] else [.ref x, .ref y])))
theorem call_sortedTN : CallR X (.builtin "sorted") (rSortT X.K) := by
  intro pins s σ H xs us Q I r h
  obtain ⟨l, x, y, i, j, p, q, rfl, hq, hx, hy, qq⟩ := h
  obtain ⟨u, rfl, ru⟩ := vals1 r
  cases ru
  obtain ⟨its, rv, pl, hz⟩ := I.list hq
  cases rv with
  | cons r1 rv =>
    cases rv with
    | cons r2 rv =>
      cases rv
      cases r1
      cases r2
      obtain ⟨xi, rx, px, _⟩ := I.tuple hx
      obtain ⟨yi, ry, py, _⟩ := I.tuple hy
      cases rx with
      | cons a1 rx =>
        cases rx with
        | cons a2 rx =>
          cases rx
          obtain ⟨ti, rfl⟩ := a1
          obtain ⟨tj, rfl⟩ := a2
          cases ry with
          | cons b1 ry =>
            cases ry with
            | cons b2 ry =>
              cases ry
              obtain ⟨tp, rfl⟩ := b1
              obtain ⟨tq, rfl⟩ := b2
              obtain ⟨ox, hox, hcx, nx, hdx⟩ := (show s.heap.IsTuple x _ from px)
              obtain ⟨oy, hoy, hcy, ny, hdy⟩ := (show s.heap.IsTuple y _ from py)
              refine sorted_raw (R := fun out => out = if (p < i ∨ (p = i ∧ q < j)) then [.ref y, .ref x] else [.ref x, .ref y]) pl.isList (by simp) (szl (by simp)) (fun h' k => runs_two (k _ _ hox) hcx hdx (k _ _ hoy) hcy hdy) fun out hl ho => ?_
              obtain ⟨e, he⟩ := sortedAll_at s.heap [.ref x, .ref y] out.toArray
              have hn : H (s.heap.objs.size + 1) = none := I.hok.fresh (Nat.le_succ _)
              have I1 := I.kept (t' := s.toks) (h' := sortedAll s.heap [.ref x, .ref y] out.toArray) (fun _ _ => sortedAll_old)
              have a := I.aside (Nat.le_succ s.heap.objs.size) hn
              have v : Vals (if (p < i ∨ (p = i ∧ q < j)) then [V.ref y, V.ref x] else [V.ref x, V.ref y]) out := by
                rw [ho]
                split <;> exact .cons rfl (.cons rfl .nil)
              have lz : (if (p < i ∨ (p = i ∧ q < j)) then [V.ref y, V.ref x] else [V.ref x, V.ref y]).length ≤ sizeLine := by split <;> exact szl (by simp)
              refine ⟨.ref (s.heap.objs.size + 1), upd H (s.heap.objs.size + 1) (.lst _), I1.track hn a.ne a.ab a.cl a.pn ⟨lz, out, e, v, ?_⟩, rfl, qq _ hn⟩
              simpa [seqObj] using he
theorem call_sortedTK (K : PySem.W.Frag) (hK : X.K = K := by rfl) : CallR X (.builtin "sorted") (rSortT K) := by subst hK; exact call_sortedTN
end
end L2

set_option Elab.async false
set_option linter.all false
set_option maxRecDepth 100000
/-! Tuples: comprehensions over one, tuple(list), what isinstance says of one. -/
namespace L2
open PySem PySem.Spec PyProof.Rows
section
variable {K : PySem.W.Frag} {g : TG} {ti : TT} {te : TE} {σc : St} {H : Hp} {Q : VK}
end
def rTupOf (K : PySem.W.Frag) : List V → Hp → VK → Prop := fun xs H Q => ∃ p ys, xs = [.ref p] ∧ ((SqL K H p ys ∧ ∀ l, H l = none → Q (.ref l) (upd H l (.tup ys))) ∨ (SqT K H p ys ∧ Q (.ref p) H))
section
variable {K : PySem.W.Frag} {H : Hp} {Q : VK}
end
end L2

set_option Elab.async false
set_option linter.all false
set_option maxRecDepth 100000
set_option maxHeartbeats 4000000
namespace My
open PySem L2 M
local macro_rules | `(tactic| walk_at "s1") => `(tactic| first
  | with_reducible refine i_var rfl ?_
  | with_reducible refine i_I0 ?_
  | with_reducible refine iteF ?_
  | with_reducible refine iteNT ?_
  | with_reducible refine iteNF ?_
  | with_reducible refine iteT ?_
  | with_reducible refine i_truB ?_
  | with_reducible refine i_addI ?_
  | with_reducible refine i_U ?_
  | with_reducible refine i_isB ?_
  | with_reducible refine i_isNotB ?_
  | with_reducible refine i_eqI ?_
  | with_reducible refine i_neI ?_
  | with_reducible refine i_intB ?_
  | with_reducible refine i_abs ?_
  | with_reducible refine i_isiII ?_
  | with_reducible refine i_isiIB ?_
  | with_reducible refine i_isiIL ?_
  | with_reducible refine i_isiID ?_
  | with_reducible refine i_isiIT ?_
  | with_reducible refine i_isiBB ?_
  | with_reducible refine i_div (by omega) (by omega) ?_
  | with_reducible refine i_mod (by omega) ?_
  | with_reducible refine And.intro (szl (Nat.le_of_ble_eq_true rfl)) ?_
  | with_reducible refine ⟨_, rfl, ?_⟩)
local macro_rules | `(tactic| walk_at "un") => `(tactic| try dsimp only [tSeq, tAsg, gName, tOp, tUn, tTest, tB, tAnd, tOr, tNot, tAndV, tOrV, tNotV, tIf, tIfS, tRet, tRetN, tDrop, tNext, tCons, tNil, tCB, tCall, tMenu, tComp, tDComp, tDGet, iZip2, iEnum, tNoIf, tTru, tJoin, cxOf_K, tLst, tTup, tSl, tPart, tNoPart, tBM, tBM0, tChain, tC, tFor_eq, gTup, gCons, gNil, gSub, iList, iRng1, iRng2, iRng3, iTup, iZip3, tWhile, tRev, tRaise, tCallS, tTry, tAug, tPar, tNever, ipI, List.append_nil])
local macro_rules | `(tactic| walk_at "st") => `(tactic| (walk_at "un"; repeat walk_at "s1"))

def top (i : Nat) : Stmt := PySem.Challenge.pw_lugtrain_k40_whole_rows_that_leave_all_a.main.body.getD i (.Pass ⟨0, 0, 0, 0⟩)
abbrev s_refuse_no_top : Stmt := top 16
theorem sc_refuse_no_top : FnScope ["top"] ["top"] (defScope s_refuse_no_top) := ⟨rfl, rfl, rfl, by decide +kernel, rfl, by decide +kernel, by decide +kernel⟩
theorem bd_refuse_no_top (kV doc pm : Value) (an : Option Addr) (cdv ct : Value) (us : List Value) (hl : us.length = (["top"] : List Str).length) : bindArgs (PySem.W.fnOf "refuse_no_top" "refuse_no_top" (defArgs s_refuse_no_top) (defBody s_refuse_no_top) (defScope s_refuse_no_top) .none kV doc pm an cdv ct) ⟨us, []⟩ = pure ((["top"] : List Str).zip us) := match us, hl with | [_], _ => rfl
abbrev s_refuse_no_place : Stmt := top 17
theorem sc_refuse_no_place : FnScope ["top", "place"] ["top", "place"] (defScope s_refuse_no_place) := ⟨rfl, rfl, rfl, by decide +kernel, rfl, by decide +kernel, by decide +kernel⟩
theorem bd_refuse_no_place (kV doc pm : Value) (an : Option Addr) (cdv ct : Value) (us : List Value) (hl : us.length = (["top", "place"] : List Str).length) : bindArgs (PySem.W.fnOf "refuse_no_place" "refuse_no_place" (defArgs s_refuse_no_place) (defBody s_refuse_no_place) (defScope s_refuse_no_place) .none kV doc pm an cdv ct) ⟨us, []⟩ = pure ((["top", "place"] : List Str).zip us) := match us, hl with | [_, _], _ => rfl
abbrev s_moves_of : Stmt := top 19
theorem sc_moves_of : FnScope ["row", "places", "place"] ["row"] (defScope s_moves_of) := ⟨rfl, rfl, rfl, by decide +kernel, rfl, by decide +kernel, by decide +kernel⟩
theorem bd_moves_of (kV doc pm : Value) (an : Option Addr) (cdv ct : Value) (us : List Value) (hl : us.length = (["row"] : List Str).length) : bindArgs (PySem.W.fnOf "moves_of" "moves_of" (defArgs s_moves_of) (defBody s_moves_of) (defScope s_moves_of) .none kV doc pm an cdv ct) ⟨us, []⟩ = pure ((["row"] : List Str).zip us) := match us, hl with | [_], _ => rfl
abbrev s_turning_of : Stmt := top 20
theorem sc_turning_of : FnScope ["row", "places", "turns"] ["row"] (defScope s_turning_of) := ⟨rfl, rfl, rfl, by decide +kernel, rfl, by decide +kernel, by decide +kernel⟩
theorem bd_turning_of (kV doc pm : Value) (an : Option Addr) (cdv ct : Value) (us : List Value) (hl : us.length = (["row"] : List Str).length) : bindArgs (PySem.W.fnOf "turning_of" "turning_of" (defArgs s_turning_of) (defBody s_turning_of) (defScope s_turning_of) .none kV doc pm an cdv ct) ⟨us, []⟩ = pure ((["row"] : List Str).zip us) := match us, hl with | [_], _ => rfl
abbrev s_standing_of : Stmt := top 21
theorem sc_standing_of : FnScope ["row", "turns", "last_times", "least", "greatest", "at_greatest", "standing", "rest"] ["row"] (defScope s_standing_of) := ⟨rfl, rfl, rfl, by decide +kernel, rfl, by decide +kernel, by decide +kernel⟩
theorem bd_standing_of (kV doc pm : Value) (an : Option Addr) (cdv ct : Value) (us : List Value) (hl : us.length = (["row"] : List Str).length) : bindArgs (PySem.W.fnOf "standing_of" "standing_of" (defArgs s_standing_of) (defBody s_standing_of) (defScope s_standing_of) .none kV doc pm an cdv ct) ⟨us, []⟩ = pure ((["row"] : List Str).zip us) := match us, hl with | [_], _ => rfl
abbrev s_left_of : Stmt := top 23
theorem sc_left_of : FnScope ["row", "places", "last"] ["row"] (defScope s_left_of) := ⟨rfl, rfl, rfl, by decide +kernel, rfl, by decide +kernel, by decide +kernel⟩
theorem bd_left_of (kV doc pm : Value) (an : Option Addr) (cdv ct : Value) (us : List Value) (hl : us.length = (["row"] : List Str).length) : bindArgs (PySem.W.fnOf "left_of" "left_of" (defArgs s_left_of) (defBody s_left_of) (defScope s_left_of) .none kV doc pm an cdv ct) ⟨us, []⟩ = pure ((["row"] : List Str).zip us) := match us, hl with | [_], _ => rfl
abbrev s_alike_rows : Stmt := top 24
theorem sc_alike_rows : FnScope ["top", "one", "other", "place"] ["top", "one", "other"] (defScope s_alike_rows) := ⟨rfl, rfl, rfl, by decide +kernel, rfl, by decide +kernel, by decide +kernel⟩
theorem bd_alike_rows (kV doc pm : Value) (an : Option Addr) (cdv ct : Value) (us : List Value) (hl : us.length = (["top", "one", "other"] : List Str).length) : bindArgs (PySem.W.fnOf "alike_rows" "alike_rows" (defArgs s_alike_rows) (defBody s_alike_rows) (defScope s_alike_rows) .none kV doc pm an cdv ct) ⟨us, []⟩ = pure ((["top", "one", "other"] : List Str).zip us) := match us, hl with | [_, _, _], _ => rfl
abbrev s_law_cell_at : Stmt := top 26
theorem sc_law_cell_at : FnScope ["script", "k"] ["script", "k"] (defScope s_law_cell_at) := ⟨rfl, rfl, rfl, by decide +kernel, rfl, by decide +kernel, by decide +kernel⟩
theorem bd_law_cell_at (kV doc pm : Value) (an : Option Addr) (cdv ct : Value) (us : List Value) (hl : us.length = (["script", "k"] : List Str).length) : bindArgs (PySem.W.fnOf "_law_cell_at" "_law_cell_at" (defArgs s_law_cell_at) (defBody s_law_cell_at) (defScope s_law_cell_at) .none kV doc pm an cdv ct) ⟨us, []⟩ = pure ((["script", "k"] : List Str).zip us) := match us, hl with | [_, _], _ => rfl
abbrev s_law_draws : Stmt := top 27
theorem sc_law_draws : FnScope ["cell", "many", "base", "found", "rest", "stirred", "k"] ["cell", "many", "base"] (defScope s_law_draws) := ⟨rfl, rfl, rfl, by decide +kernel, rfl, by decide +kernel, by decide +kernel⟩
theorem bd_law_draws (kV doc pm : Value) (an : Option Addr) (cdv ct : Value) (us : List Value) (hl : us.length = (["cell", "many", "base"] : List Str).length) : bindArgs (PySem.W.fnOf "_law_draws" "_law_draws" (defArgs s_law_draws) (defBody s_law_draws) (defScope s_law_draws) .none kV doc pm an cdv ct) ⟨us, []⟩ = pure ((["cell", "many", "base"] : List Str).zip us) := match us, hl with | [_, _, _], _ => rfl
abbrev s_law_places_of : Stmt := top 28
theorem sc_law_places_of : FnScope ["cell", "many", "top", "found", "pick"] ["cell", "many", "top"] (defScope s_law_places_of) := ⟨rfl, rfl, rfl, by decide +kernel, rfl, by decide +kernel, by decide +kernel⟩
theorem bd_law_places_of (kV doc pm : Value) (an : Option Addr) (cdv ct : Value) (us : List Value) (hl : us.length = (["cell", "many", "top"] : List Str).length) : bindArgs (PySem.W.fnOf "_law_places_of" "_law_places_of" (defArgs s_law_places_of) (defBody s_law_places_of) (defScope s_law_places_of) .none kV doc pm an cdv ct) ⟨us, []⟩ = pure ((["cell", "many", "top"] : List Str).zip us) := match us, hl with | [_, _, _], _ => rfl
abbrev s_law_a_last : Stmt := top 29
theorem sc_law_a_last : FnScope ["row", "place"] ["row", "place"] (defScope s_law_a_last) := ⟨rfl, rfl, rfl, by decide +kernel, rfl, by decide +kernel, by decide +kernel⟩
theorem bd_law_a_last (kV doc pm : Value) (an : Option Addr) (cdv ct : Value) (us : List Value) (hl : us.length = (["row", "place"] : List Str).length) : bindArgs (PySem.W.fnOf "_law_a_last" "_law_a_last" (defArgs s_law_a_last) (defBody s_law_a_last) (defScope s_law_a_last) .none kV doc pm an cdv ct) ⟨us, []⟩ = pure ((["row", "place"] : List Str).zip us) := match us, hl with | [_, _], _ => rfl
abbrev s_law_a_standing : Stmt := top 30
theorem sc_law_a_standing : FnScope ["row", "marks", "found", "at", "rest", "place"] ["row"] (defScope s_law_a_standing) := ⟨rfl, rfl, rfl, by decide +kernel, rfl, by decide +kernel, by decide +kernel⟩
theorem bd_law_a_standing (kV doc pm : Value) (an : Option Addr) (cdv ct : Value) (us : List Value) (hl : us.length = (["row"] : List Str).length) : bindArgs (PySem.W.fnOf "_law_a_standing" "_law_a_standing" (defArgs s_law_a_standing) (defBody s_law_a_standing) (defScope s_law_a_standing) .none kV doc pm an cdv ct) ⟨us, []⟩ = pure ((["row"] : List Str).zip us) := match us, hl with | [_], _ => rfl
abbrev s_law_a_kin : Stmt := top 31
theorem sc_law_a_kin : FnScope ["e", "kin"] ["e"] (defScope s_law_a_kin) := ⟨rfl, rfl, rfl, by decide +kernel, rfl, by decide +kernel, by decide +kernel⟩
theorem bd_law_a_kin (kV doc pm : Value) (an : Option Addr) (cdv ct : Value) (us : List Value) (hl : us.length = (["e"] : List Str).length) : bindArgs (PySem.W.fnOf "_law_a_kin" "_law_a_kin" (defArgs s_law_a_kin) (defBody s_law_a_kin) (defScope s_law_a_kin) .none kV doc pm an cdv ct) ⟨us, []⟩ = pure ((["e"] : List Str).zip us) := match us, hl with | [_], _ => rfl
abbrev s_law_due_kin : Stmt := top 32
theorem sc_law_due_kin : FnScope ["name", "names"] ["name"] (defScope s_law_due_kin) := ⟨rfl, rfl, rfl, by decide +kernel, rfl, by decide +kernel, by decide +kernel⟩
theorem bd_law_due_kin (kV doc pm : Value) (an : Option Addr) (cdv ct : Value) (us : List Value) (hl : us.length = (["name"] : List Str).length) : bindArgs (PySem.W.fnOf "_law_due_kin" "_law_due_kin" (defArgs s_law_due_kin) (defBody s_law_due_kin) (defScope s_law_due_kin) .none kV doc pm an cdv ct) ⟨us, []⟩ = pure ((["name"] : List Str).zip us) := match us, hl with | [_], _ => rfl
abbrev s_law_told : Stmt := top 33
theorem sc_law_told : FnScope ["top", "one", "other", "found", "kin", "e"] ["top", "one", "other"] (defScope s_law_told) := ⟨rfl, rfl, rfl, by decide +kernel, rfl, by decide +kernel, by decide +kernel⟩
theorem bd_law_told (kV doc pm : Value) (an : Option Addr) (cdv ct : Value) (us : List Value) (hl : us.length = (["top", "one", "other"] : List Str).length) : bindArgs (PySem.W.fnOf "_law_told" "_law_told" (defArgs s_law_told) (defBody s_law_told) (defScope s_law_told) .none kV doc pm an cdv ct) ⟨us, []⟩ = pure ((["top", "one", "other"] : List Str).zip us) := match us, hl with | [_, _, _], _ => rfl
abbrev s_law_a_on : Stmt := top 34
theorem sc_law_a_on : FnScope ["low", "high", "row", "state", "place"] ["low", "high", "row"] (defScope s_law_a_on) := ⟨rfl, rfl, rfl, by decide +kernel, rfl, by decide +kernel, by decide +kernel⟩
theorem bd_law_a_on (kV doc pm : Value) (an : Option Addr) (cdv ct : Value) (us : List Value) (hl : us.length = (["low", "high", "row"] : List Str).length) : bindArgs (PySem.W.fnOf "_law_a_on" "_law_a_on" (defArgs s_law_a_on) (defBody s_law_a_on) (defScope s_law_a_on) .none kV doc pm an cdv ct) ⟨us, []⟩ = pure ((["low", "high", "row"] : List Str).zip us) := match us, hl with | [_, _, _], _ => rfl
abbrev s_law_a_rest : Stmt := top 35
theorem sc_law_a_rest : FnScope ["row"] ["row"] (defScope s_law_a_rest) := ⟨rfl, rfl, rfl, by decide +kernel, rfl, by decide +kernel, by decide +kernel⟩
theorem bd_law_a_rest (kV doc pm : Value) (an : Option Addr) (cdv ct : Value) (us : List Value) (hl : us.length = (["row"] : List Str).length) : bindArgs (PySem.W.fnOf "_law_a_rest" "_law_a_rest" (defArgs s_law_a_rest) (defBody s_law_a_rest) (defScope s_law_a_rest) .none kV doc pm an cdv ct) ⟨us, []⟩ = pure ((["row"] : List Str).zip us) := match us, hl with | [_], _ => rfl
abbrev s_law_a_other : Stmt := top 36
theorem sc_law_a_other : FnScope ["row", "picks", "top", "at", "here", "there"] ["row", "picks", "top"] (defScope s_law_a_other) := ⟨rfl, rfl, rfl, by decide +kernel, rfl, by decide +kernel, by decide +kernel⟩
theorem bd_law_a_other (kV doc pm : Value) (an : Option Addr) (cdv ct : Value) (us : List Value) (hl : us.length = (["row", "picks", "top"] : List Str).length) : bindArgs (PySem.W.fnOf "_law_a_other" "_law_a_other" (defArgs s_law_a_other) (defBody s_law_a_other) (defScope s_law_a_other) .none kV doc pm an cdv ct) ⟨us, []⟩ = pure ((["row", "picks", "top"] : List Str).zip us) := match us, hl with | [_, _, _], _ => rfl
abbrev s_law : Stmt := top 37
theorem sc_law : FnScope ["script", "heads", "top", "cell", "picks", "one", "other", "handed", "found", "kin", "due", "low", "high", "odd", "both", "bad"] ["script"] (defScope s_law) := ⟨rfl, rfl, rfl, by decide +kernel, rfl, by decide +kernel, by decide +kernel⟩
structure Txt (mg : Str → Option Value) : Prop where
  z_ValueError : mg "ValueError" = none
  z_bool : mg "bool" = none
  z_enumerate : mg "enumerate" = none
  z_int : mg "int" = none
  z_isinstance : mg "isinstance" = none
  z_len : mg "len" = none
  z_list : mg "list" = none
  z_max : mg "max" = none
  z_min : mg "min" = none
  z_range : mg "range" = none
  z_sorted : mg "sorted" = none
  z_zip : mg "zip" = none
  g_MOST_TOP : ∃ t, mg "MOST_TOP" = some (.int 16 t)
structure Cls (K : PySem.W.Frag) (mg : Str → Option Value) where
  c_TrainError : Addr
  c_NoTrain : Addr
  c_NoStand : Addr
  c_NoPaper : Addr
  c_NoBox : Addr
  c_NoSwitch : Addr
  c_NoPlace : Addr
  c_NoTable : Addr
  c_NoText : Addr
  c_NoRow : Addr
  c_NoPiece : Addr
  c_NothingLeft : Addr
  c_TooMany : Addr
  m_TrainError : mg "TrainError" = some (.ref c_TrainError)
  m_NoTrain : mg "NoTrain" = some (.ref c_NoTrain)
  m_NoStand : mg "NoStand" = some (.ref c_NoStand)
  m_NoPaper : mg "NoPaper" = some (.ref c_NoPaper)
  m_NoBox : mg "NoBox" = some (.ref c_NoBox)
  m_NoSwitch : mg "NoSwitch" = some (.ref c_NoSwitch)
  m_NoPlace : mg "NoPlace" = some (.ref c_NoPlace)
  m_NoTable : mg "NoTable" = some (.ref c_NoTable)
  m_NoText : mg "NoText" = some (.ref c_NoText)
  m_NoRow : mg "NoRow" = some (.ref c_NoRow)
  m_NoPiece : mg "NoPiece" = some (.ref c_NoPiece)
  m_NothingLeft : mg "NothingLeft" = some (.ref c_NothingLeft)
  m_TooMany : mg "TooMany" = some (.ref c_TooMany)
  x_NoBox : PySem.W.excIn K c_NoBox [.type "ValueError", .type "Exception", .type "BaseException", .type "object"] "ValueError.__new__" = true
  e_NoBox : PySem.W.exmOne K (.ref c_NoBox) (.ref c_TrainError) = some true
  i_NoBox_ga : PySem.W.findIn K (.ref c_NoBox) "__getattribute__" = some (some (.builtin "BaseException.__getattribute__"))
  i_NoBox_gt : PySem.W.findIn K (.ref c_NoBox) "__getattr__" = some none
  i_NoBox_mb : PySem.W.mroIn K c_NoBox (.type "BaseException") = some true
  i_NoBox_hd : PySem.W.hasDictIn K c_NoBox = true
  i_NoBox_ca : PySem.W.findIn K (.ref c_NoBox) "__class__" = some (some (.builtin "object.__class__"))
  i_NoBox_sp : PySem.W.specialIn K (.builtin "object.__class__") "__get__" = some (some (.builtin "getset_descriptor.__get__"))
  i_NoBox_tk : PySem.W.takesIn K (.builtin "object.__class__") = some true
  i_NoBox_mr : PySem.W.mroIn K c_NoBox (.type "object") = some true
  k_NoBox_NoTrain : PySem.W.kitOne K (.ref c_NoBox) (.ref c_NoTrain) = some false
  k_NoBox_NoStand : PySem.W.kitOne K (.ref c_NoBox) (.ref c_NoStand) = some false
  k_NoBox_NoPaper : PySem.W.kitOne K (.ref c_NoBox) (.ref c_NoPaper) = some false
  k_NoBox_NoBox : PySem.W.kitOne K (.ref c_NoBox) (.ref c_NoBox) = some true
  k_NoBox_NoSwitch : PySem.W.kitOne K (.ref c_NoBox) (.ref c_NoSwitch) = some false
  k_NoBox_NoPlace : PySem.W.kitOne K (.ref c_NoBox) (.ref c_NoPlace) = some false
  k_NoBox_NoTable : PySem.W.kitOne K (.ref c_NoBox) (.ref c_NoTable) = some false
  k_NoBox_NoText : PySem.W.kitOne K (.ref c_NoBox) (.ref c_NoText) = some false
  k_NoBox_NoRow : PySem.W.kitOne K (.ref c_NoBox) (.ref c_NoRow) = some false
  k_NoBox_NoPiece : PySem.W.kitOne K (.ref c_NoBox) (.ref c_NoPiece) = some false
  k_NoBox_NothingLeft : PySem.W.kitOne K (.ref c_NoBox) (.ref c_NothingLeft) = some false
  k_NoBox_TooMany : PySem.W.kitOne K (.ref c_NoBox) (.ref c_TooMany) = some false
  k_NoBox_ValueError : PySem.W.kitOne K (.ref c_NoBox) (.type "ValueError") = some true
  x_NoPlace : PySem.W.excIn K c_NoPlace [.type "ValueError", .type "Exception", .type "BaseException", .type "object"] "ValueError.__new__" = true
  e_NoPlace : PySem.W.exmOne K (.ref c_NoPlace) (.ref c_TrainError) = some true
  i_NoPlace_ga : PySem.W.findIn K (.ref c_NoPlace) "__getattribute__" = some (some (.builtin "BaseException.__getattribute__"))
  i_NoPlace_gt : PySem.W.findIn K (.ref c_NoPlace) "__getattr__" = some none
  i_NoPlace_mb : PySem.W.mroIn K c_NoPlace (.type "BaseException") = some true
  i_NoPlace_hd : PySem.W.hasDictIn K c_NoPlace = true
  i_NoPlace_ca : PySem.W.findIn K (.ref c_NoPlace) "__class__" = some (some (.builtin "object.__class__"))
  i_NoPlace_sp : PySem.W.specialIn K (.builtin "object.__class__") "__get__" = some (some (.builtin "getset_descriptor.__get__"))
  i_NoPlace_tk : PySem.W.takesIn K (.builtin "object.__class__") = some true
  i_NoPlace_mr : PySem.W.mroIn K c_NoPlace (.type "object") = some true
  k_NoPlace_NoTrain : PySem.W.kitOne K (.ref c_NoPlace) (.ref c_NoTrain) = some false
  k_NoPlace_NoStand : PySem.W.kitOne K (.ref c_NoPlace) (.ref c_NoStand) = some false
  k_NoPlace_NoPaper : PySem.W.kitOne K (.ref c_NoPlace) (.ref c_NoPaper) = some false
  k_NoPlace_NoBox : PySem.W.kitOne K (.ref c_NoPlace) (.ref c_NoBox) = some false
  k_NoPlace_NoSwitch : PySem.W.kitOne K (.ref c_NoPlace) (.ref c_NoSwitch) = some false
  k_NoPlace_NoPlace : PySem.W.kitOne K (.ref c_NoPlace) (.ref c_NoPlace) = some true
  k_NoPlace_NoTable : PySem.W.kitOne K (.ref c_NoPlace) (.ref c_NoTable) = some false
  k_NoPlace_NoText : PySem.W.kitOne K (.ref c_NoPlace) (.ref c_NoText) = some false
  k_NoPlace_NoRow : PySem.W.kitOne K (.ref c_NoPlace) (.ref c_NoRow) = some false
  k_NoPlace_NoPiece : PySem.W.kitOne K (.ref c_NoPlace) (.ref c_NoPiece) = some false
  k_NoPlace_NothingLeft : PySem.W.kitOne K (.ref c_NoPlace) (.ref c_NothingLeft) = some false
  k_NoPlace_TooMany : PySem.W.kitOne K (.ref c_NoPlace) (.ref c_TooMany) = some false
  k_NoPlace_ValueError : PySem.W.kitOne K (.ref c_NoPlace) (.type "ValueError") = some true
theorem Cls.exc_NoBox {K : PySem.W.Frag} {mg : Str → Option Value} (Z : Cls K mg) : ExcCls K mg "NoBox" Z.c_NoBox [.type "ValueError", .type "Exception", .type "BaseException", .type "object"] "ValueError.__new__" := ⟨Z.m_NoBox, Z.x_NoBox⟩
theorem Cls.isi_NoBox {K : PySem.W.Frag} {mg : Str → Option Value} (Z : Cls K mg) : IsiCls K Z.c_NoBox := ⟨Z.i_NoBox_ga, Z.i_NoBox_gt, Z.i_NoBox_mb, Z.i_NoBox_hd, Z.i_NoBox_ca, Z.i_NoBox_sp, Z.i_NoBox_tk, Z.i_NoBox_mr⟩
theorem Cls.exc_NoPlace {K : PySem.W.Frag} {mg : Str → Option Value} (Z : Cls K mg) : ExcCls K mg "NoPlace" Z.c_NoPlace [.type "ValueError", .type "Exception", .type "BaseException", .type "object"] "ValueError.__new__" := ⟨Z.m_NoPlace, Z.x_NoPlace⟩
theorem Cls.isi_NoPlace {K : PySem.W.Frag} {mg : Str → Option Value} (Z : Cls K mg) : IsiCls K Z.c_NoPlace := ⟨Z.i_NoPlace_ga, Z.i_NoPlace_gt, Z.i_NoPlace_mb, Z.i_NoPlace_hd, Z.i_NoPlace_ca, Z.i_NoPlace_sp, Z.i_NoPlace_tk, Z.i_NoPlace_mr⟩
section
variable {P : Program} {w : World} {K : PySem.W.Frag} {mg : Str → Option Value} {base : Heap}
/-- a new list of ints has come -/
structure NewI (H H' : Hp) (l : Addr) (xs : List Int) : Prop where
  fr : H l = none
  sm : Same H H'
  at_ : H' l = some (.lst (iL xs))
theorem NewI.app {H H' : Hp} {l : Addr} {xs : List Int} {x : Int} (N : NewI H H' l xs) : NewI H (upd H' l (.lst (iL xs ++ [V.int x]))) l (xs ++ [x]) :=
  ⟨N.fr, fun b o e => by rw [upd_ne (ne_of_none e N.fr)]; exact N.sm b o e, by rw [upd_same]; simp [iL]⟩
theorem NewI.more {H H' H2 : Hp} {l : Addr} {xs : List Int} (N : NewI H H' l xs) (s : Same H' H2) : NewI H H2 l xs := ⟨N.fr, N.sm.trans s, s _ _ N.at_⟩
def spLaw (K : PySem.W.Frag) : Sp := fun vs H Q _ => ∃ (a : Addr) (ns : List Int), vs = [.ref a] ∧ SqL K H a (ns.map V.int) ∧ ns.length ≤ 63 ∧ ∀ H', Q (.bl true) H'

/-- what is raised: NoTrain where it is no train, else NoStand where no stand -/
def Exs (E : XK) (H : Hp) (CT CS : Addr) (tr st : Prop) : Prop := (¬ tr → ∀ H', Same H H' → E (.ref CT) none H') ∧ (tr → ¬ st → ∀ H', Same H H' → E (.ref CS) none H')
def spCellAt (K : PySem.W.Frag) : Sp := fun vs H Q _ => ∃ (a : Addr) (ns : List Int) (k : Int), vs = [.ref a, .int k] ∧ SqL K H a (iL ns) ∧ 0 ≤ k ∧ ∀ v, Q (.int v) H
theorem ok_law_cell_at (T : Txt mg) (D : Def K mg "_law_cell_at" s_law_cell_at) : Callee P w K mg base "_law_cell_at" 1 (spCellAt K) := by
  refine D.ok sc_law_cell_at bd_law_cell_at (fun vs H Q E h => ?len) (fun f cdv A outer s H vs Q E hr h => ?body)
  case len => obtain ⟨a, ns, k, rfl, _⟩ := h; rfl
  case body =>
    obtain ⟨a, ns, kk, rfl, hS, h0, k⟩ := h
    have hu := hr.units
    refine ⟨_, (pss_cons (ps_if (pt_cmpR op_lt (pv 1) (pe_callB (call_lenK K) (by rfl) T.z_len bt_len (pa_cons (pv 0) pa_nil)) (nomark _))
 (pss_one (ps_ret (pe_ix (ix_K K) (pv 0) (pv 1) (by exact fun _ _ => rfl))))
 pss_nil)
 (pss_one (ps_ret pe_int))), ?_⟩
    dsimp only [tSeq, tAsg, gName, tOp, tUn, tTest, tB, tAnd, tOr, tNot, tAndV, tOrV, tNotV, tIf, tIfS, tRet, tRetN, tDrop, tNext, tCons, tNil, tCB, tCall, tMenu, tComp, tDComp, tDGet, iZip2, iEnum, tNoIf, tTru, tJoin, cxOf_K, tLst, tTup, tSl, tPart, tNoPart, tBM, tBM0, tChain, tC, tFor_eq, gTup, gCons, gNil, gSub, iList, iRng1, iRng2, iRng3, iTup, iZip3, tWhile, tRev, tRaise, tCallS, tTry, tAug, tPar, tNever, ipI, List.append_nil]
    walk_at "st"
    refine i_lenI hS ?_
    walk_at "st"
    refine i_if (fun g => ?_) (fun g => ?_)
    · walk_at "st"
      exact i_ixL hS h0 g (fun v _ _ => k v)
    · walk_at "st"
      exact k 0

def spDraws : Sp := fun vs H Q _ => ∃ cell many bas : Int, vs = [.int cell, .int many, .int bas] ∧ 0 ≤ many ∧ many ≤ 5000 ∧ 0 < bas ∧ bas < 1073741824 ∧
  ∀ l H' xs, NewI H H' l xs → (xs.length : Int) = many → (∀ x ∈ xs, 0 ≤ x ∧ x < bas) → Q (.ref l) H'
theorem ok_law_draws (T : Txt mg) (D : Def K mg "_law_draws" s_law_draws) : Callee P w K mg base "_law_draws" 1 spDraws := by
  refine D.ok sc_law_draws bd_law_draws (fun vs H Q E h => ?len) (fun f cdv A outer s H vs Q E hr h => ?body)
  case len => obtain ⟨p, a, x, rfl, _⟩ := h; rfl
  case body =>
    obtain ⟨cell, many, bas, rfl, h1, h2, h3, h4, k⟩ := h
    refine ⟨_, (pss_cons (ps_set (i := 3) sc_law_draws.nd rfl (Or.inl rfl) (pe_lst pa_nil))
 (pss_cons (ps_set (i := 4) sc_law_draws.nd rfl (Or.inl rfl) (pe_op op_mulP (pv 0) (pe_callTy call_intK (by rfl) T.z_int bt_int (pa_cons (pe_cmpR op_ge (pv 0) (pe_powK (r := 1000000000000000000) (by decide)) (nomark _)) pa_nil))))
 (pss_cons (ps_set (i := 5) sc_law_draws.nd rfl (Or.inl rfl) (pe_op op_mod (pv 0) pe_int))
 (pss_cons (ps_for PassesOwn.never rfl (pi_range1 (by rfl) T.z_range (pa_cons (pe_op op_addP (pv 1) pe_int) pa_nil)) (pg_name (i := 6) sc_law_draws.nd rfl (Or.inl rfl))
 (pss_cons (ps_set (i := 5) sc_law_draws.nd rfl (Or.inl rfl) (pe_op op_mod (pe_op op_addP (pe_op op_addP (pe_op op_addP (pe_op op_mulP (pv 5) (pv 5)) (pe_op op_mulP pe_int (pv 5))) (pv 6)) pe_int) pe_int))
 (pss_one (ps_if (PW.pt (pw_and (pt_cmpR op_gt (pv 6) pe_int (nomark _)) (pw_and1 (pt_cmpR op_gt (pv 4) pe_int (nomark _)))))
 (pss_cons (ps_expr (pe_bmK K PySem.F.plainAttrs_list PySem.F.slot_list_append PySem.F.type_list_append mt_append (pv 3) (pa_cons (pe_op op_mod (pv 4) (pv 2)) pa_nil)))
 (pss_one (ps_set (i := 4) sc_law_draws.nd rfl (Or.inl rfl) (pe_op op_fdiv (pv 4) (pv 2)))))
 (pss_one (ps_if (pt_cmpR op_gt (pv 6) pe_int (nomark _))
 (pss_one (ps_expr (pe_bmK K PySem.F.plainAttrs_list PySem.F.slot_list_append PySem.F.type_list_append mt_append (pv 3) (pa_cons (pe_op op_mod (pe_op op_fdiv (pv 5) pe_int) (pv 2)) pa_nil))))
 pss_nil))))))
 (pss_one (ps_ret (pv 3))))))), ?_⟩
    dsimp only [tSeq, tAsg, gName, tOp, tUn, tTest, tB, tAnd, tOr, tNot, tAndV, tOrV, tNotV, tIf, tIfS, tRet, tRetN, tDrop, tNext, tCons, tNil, tCB, tCall, tMenu, tComp, tDComp, tDGet, iZip2, iEnum, tNoIf, tTru, tJoin, cxOf_K, tLst, tTup, tSl, tPart, tNoPart, tBM, tBM0, tChain, tC, tFor_eq, gTup, gCons, gNil, gSub, iList, iRng1, iRng2, iRng3, iTup, iZip3, tWhile, tRev, tRaise, tCallS, tTry, tAug, tPar, tNever, ipI, List.append_nil]
    refine ⟨szl (by decide), fun l hl => ?_⟩
    walk_at "st"
    refine i_mulI (cmul_r ?_ ?_) ?_
    · split <;> decide
    · split <;> decide
    generalize cell * _ = rest
    walk_at "st"
    have hst0 : 0 ≤ cell % 2305843009213693951 := Int.emod_nonneg _ (by decide)
    have hst1 : cell % 2305843009213693951 < 2305843009213693951 := Int.emod_lt_of_pos _ (by decide)
    generalize cell % 2305843009213693951 = stirred at *
    refine ⟨by omega, by omega, lp_range (fun i σ H2 => ∃ (rest stirred : Int) (kk : Option V) (xs : List Int), σ = [some (.int cell), some (.int many), some (.int bas), some (.ref l), some (.int rest), some (.int stirred), kk] ∧
      0 ≤ stirred ∧ stirred < 2305843009213693951 ∧ NewI H H2 l xs ∧ xs.length = i - 3 ∧ ∀ x ∈ xs, 0 ≤ x ∧ x < bas) ?_ ?_ ?_⟩
    · exact ⟨rest, stirred, none, [], rfl, hst0, hst1, ⟨hl, same_upd hl, upd_same⟩, rfl, by simp⟩
    · rintro i σ H2 hi ⟨rest, stirred, kk, xs, rfl, s0, s1, N, hx, hb⟩
      walk_at "st"
      refine i_mulI (cmul_l (by omega) (by omega)) ?_
      walk_at "st"
      refine i_mulI (cmul_l (by decide) (by decide)) ?_
      walk_at "st"
      have hst0 := Int.emod_nonneg (stirred * stirred + 48271 * stirred + (0 + (i : Int)) + 1) (show (2305843009213693951 : Int) ≠ 0 by decide)
      have hst1 := Int.emod_lt_of_pos (stirred * stirred + 48271 * stirred + (0 + (i : Int)) + 1) (show (0 : Int) < 2305843009213693951 by decide)
      generalize (stirred * stirred + 48271 * stirred + (0 + (i : Int)) + 1) % 2305843009213693951 = stirred2 at *
      have app : ∀ v, 3 ≤ i → 0 ≤ v → v < bas → ∀ rest2, ∃ (rest stirred : Int) (kk : Option V) (ys : List Int), [some (V.int cell), some (.int many), some (.int bas), some (.ref l), some (.int rest2), some (.int stirred2), some (V.int (0 + (i : Int)))] = [some (.int cell), some (.int many), some (.int bas), some (.ref l), some (.int rest), some (.int stirred), kk] ∧
        0 ≤ stirred ∧ stirred < 2305843009213693951 ∧ NewI H (upd H2 l (.lst (iL xs ++ [V.int v]))) l ys ∧ ys.length = i + 1 - 3 ∧ ∀ x ∈ ys, 0 ≤ x ∧ x < bas := by
        intro v hi3 hv0 hv1 rest2
        refine ⟨rest2, stirred2, some (V.int (0 + (i : Int))), xs ++ [v], rfl, hst0, hst1, N.app, ?_, ?_⟩
        · simp; omega
        · intro x hxm
          rcases List.mem_append.mp hxm with z | z
          · exact hb x z
          · simp at z; subst z; exact ⟨hv0, hv1⟩
      have lenx : xs.length ≤ 100000 := by omega
      refine i_if (fun g1 => ?_) (fun g1 => ?_)
      · walk_at "st"
        refine i_if (fun g2 => ?_) (fun g2 => ?_)
        · walk_at "st"
          refine ⟨.inl ⟨rfl, _, SqL.of N.at_⟩, ?_⟩
          walk_at "st"
          refine i_app N.at_ (szlt (by simpa [iL] using lenx)) ?_
          walk_at "st"
          exact app _ (by omega) (Int.emod_nonneg _ (by omega)) (Int.emod_lt_of_pos _ h3) _
        · walk_at "st"
          refine i_if (fun g3 => ?_) (fun g3 => absurd g1 g3)
          walk_at "st"
          refine ⟨.inl ⟨rfl, _, SqL.of N.at_⟩, ?_⟩
          walk_at "st"
          refine i_app N.at_ (szlt (by simpa [iL] using lenx)) ?_
          exact app _ (by omega) (Int.emod_nonneg _ (by omega)) (Int.emod_lt_of_pos _ h3) _
      · walk_at "st"
        refine i_if (fun g3 => absurd g3 g1) (fun g3 => ?_)
        exact ⟨rest, stirred2, _, xs, rfl, hst0, hst1, N, by omega, hb⟩
    · rintro σ H2 ⟨rest, stirred, kk, xs, rfl, s0, s1, N, hx, hb⟩
      walk_at "st"
      exact k l H2 xs N (by omega) hb

--SPLIT
abbrev bL (bs : List Bool) : List V := bs.map V.bl
theorem i_isx {H : Hp} {Q : VK} {e D C' : Addr} {b : Bool} (he : H e = some (.ext (ExcAt e (.ref D)))) (C : IsiCls K D) (hk : PySem.W.kitOne K (.ref D) (.ref C') = some b) (q : Q (.bl b) H) : rIsiX K [.ref e, .ref C'] H Q := ⟨e, D, _, _, b, rfl, fun _ h => h, he, C, hk, q⟩
theorem i_isxT {H : Hp} {Q : VK} {e D : Addr} {n : String} {b : Bool} (he : H e = some (.ext (ExcAt e (.ref D)))) (C : IsiCls K D) (hk : PySem.W.kitOne K (.ref D) (.type n) = some b) (q : Q (.bl b) H) : rIsiX K [.ref e, .ty n] H Q := ⟨e, D, _, _, b, rfl, fun _ h => h, he, C, hk, q⟩
theorem bt_ValueError : bootBuiltins "ValueError" = some (.type "ValueError") := by decide +kernel
structure KinF (Z : Cls K mg) (C : Addr) (b0 b1 b2 b3 b4 b5 b6 b7 b8 b9 b10 b11 : Bool) : Prop where
  isi : IsiCls K C
  f0 : PySem.W.kitOne K (.ref C) (.ref Z.c_NoTrain) = some b0
  f1 : PySem.W.kitOne K (.ref C) (.ref Z.c_NoStand) = some b1
  f2 : PySem.W.kitOne K (.ref C) (.ref Z.c_NoPaper) = some b2
  f3 : PySem.W.kitOne K (.ref C) (.ref Z.c_NoBox) = some b3
  f4 : PySem.W.kitOne K (.ref C) (.ref Z.c_NoSwitch) = some b4
  f5 : PySem.W.kitOne K (.ref C) (.ref Z.c_NoPlace) = some b5
  f6 : PySem.W.kitOne K (.ref C) (.ref Z.c_NoTable) = some b6
  f7 : PySem.W.kitOne K (.ref C) (.ref Z.c_NoText) = some b7
  f8 : PySem.W.kitOne K (.ref C) (.ref Z.c_NoRow) = some b8
  f9 : PySem.W.kitOne K (.ref C) (.ref Z.c_NoPiece) = some b9
  f10 : PySem.W.kitOne K (.ref C) (.ref Z.c_NothingLeft) = some b10
  f11 : PySem.W.kitOne K (.ref C) (.ref Z.c_TooMany) = some b11
  f12 : PySem.W.kitOne K (.ref C) (.type "ValueError") = some true
def spKinG (Z : Cls K mg) : Sp := fun vs H Q _ => ∃ (e C : Addr) (b0 b1 b2 b3 b4 b5 b6 b7 b8 b9 b10 b11 : Bool), vs = [.ref e] ∧ H e = some (.ext (ExcAt e (.ref C))) ∧ KinF Z C b0 b1 b2 b3 b4 b5 b6 b7 b8 b9 b10 b11 ∧ ∀ l H', Same H H' → H' l = some (.lst (bL [b0, b1, b2, b3, b4, b5, b6, b7, b8, b9, b10, b11, true])) → Q (.ref l) H'
theorem ok_law_a_kin (T : Txt mg) (Z : Cls K mg) (D : Def K mg "_law_a_kin" s_law_a_kin) : CalleeN P w K mg base "_law_a_kin" 1 (spKinG Z) := by
  refine Def.okN D sc_law_a_kin bd_law_a_kin (fun vs H Q E h => ?len) (fun f cdv A outer s H vs Q E hr h => ?body)
  case len => obtain ⟨e, C, b0, b1, b2, b3, b4, b5, b6, b7, b8, b9, b10, b11, rfl, _⟩ := h; rfl
  case body =>
    obtain ⟨e, C, b0, b1, b2, b3, b4, b5, b6, b7, b8, b9, b10, b11, rfl, hE, F, k⟩ := h
    refine ⟨_, (pss_cons (ps_set (i := 1) sc_law_a_kin.nd rfl (Or.inl rfl) (pe_lst (pa_cons (pe_callB (call_isinstanceX K) (by rfl) T.z_isinstance bt_isinstance (pa_cons (pv 0) (pa_cons (pe_globR Z.m_NoTrain (by rfl)) pa_nil))) (pa_cons (pe_callB (call_isinstanceX K) (by rfl) T.z_isinstance bt_isinstance (pa_cons (pv 0) (pa_cons (pe_globR Z.m_NoStand (by rfl)) pa_nil))) (pa_cons (pe_callB (call_isinstanceX K) (by rfl) T.z_isinstance bt_isinstance (pa_cons (pv 0) (pa_cons (pe_globR Z.m_NoPaper (by rfl)) pa_nil))) (pa_cons (pe_callB (call_isinstanceX K) (by rfl) T.z_isinstance bt_isinstance (pa_cons (pv 0) (pa_cons (pe_globR Z.m_NoBox (by rfl)) pa_nil))) pa_nil))))))
 (pss_cons (ps_set (i := 1) sc_law_a_kin.nd rfl (Or.inl rfl) (pe_op op_addP (pv 1) (pe_lst (pa_cons (pe_callB (call_isinstanceX K) (by rfl) T.z_isinstance bt_isinstance (pa_cons (pv 0) (pa_cons (pe_globR Z.m_NoSwitch (by rfl)) pa_nil))) (pa_cons (pe_callB (call_isinstanceX K) (by rfl) T.z_isinstance bt_isinstance (pa_cons (pv 0) (pa_cons (pe_globR Z.m_NoPlace (by rfl)) pa_nil))) (pa_cons (pe_callB (call_isinstanceX K) (by rfl) T.z_isinstance bt_isinstance (pa_cons (pv 0) (pa_cons (pe_globR Z.m_NoTable (by rfl)) pa_nil))) pa_nil))))))
 (pss_cons (ps_set (i := 1) sc_law_a_kin.nd rfl (Or.inl rfl) (pe_op op_addP (pv 1) (pe_lst (pa_cons (pe_callB (call_isinstanceX K) (by rfl) T.z_isinstance bt_isinstance (pa_cons (pv 0) (pa_cons (pe_globR Z.m_NoText (by rfl)) pa_nil))) (pa_cons (pe_callB (call_isinstanceX K) (by rfl) T.z_isinstance bt_isinstance (pa_cons (pv 0) (pa_cons (pe_globR Z.m_NoRow (by rfl)) pa_nil))) (pa_cons (pe_callB (call_isinstanceX K) (by rfl) T.z_isinstance bt_isinstance (pa_cons (pv 0) (pa_cons (pe_globR Z.m_NoPiece (by rfl)) pa_nil))) pa_nil))))))
 (pss_one (ps_ret (pe_op op_addP (pv 1) (pe_lst (pa_cons (pe_callB (call_isinstanceX K) (by rfl) T.z_isinstance bt_isinstance (pa_cons (pv 0) (pa_cons (pe_globR Z.m_NothingLeft (by rfl)) pa_nil))) (pa_cons (pe_callB (call_isinstanceX K) (by rfl) T.z_isinstance bt_isinstance (pa_cons (pv 0) (pa_cons (pe_globR Z.m_TooMany (by rfl)) pa_nil))) (pa_cons (pe_callB (call_isinstanceX K) (by rfl) T.z_isinstance bt_isinstance (pa_cons (pv 0) (pa_cons (pe_bltn (by rfl) T.z_ValueError bt_ValueError (show RelV (.ty "ValueError") _ from rfl)) pa_nil))) pa_nil)))))))))), ?_⟩
    dsimp only [tSeq, tAsg, gName, tOp, tUn, tTest, tB, tAnd, tOr, tNot, tAndV, tOrV, tNotV, tIf, tIfS, tRet, tRetN, tDrop, tNext, tCons, tNil, tCB, tCall, tMenu, tComp, tDComp, tDGet, iZip2, iEnum, tNoIf, tTru, tJoin, cxOf_K, tLst, tTup, tSl, tPart, tNoPart, tBM, tBM0, tChain, tC, tFor_eq, gTup, gCons, gNil, gSub, iList, iRng1, iRng2, iRng3, iTup, iZip3, tWhile, tRev, tRaise, tCallS, tTry, tAug, tPar, tNever, ipI, List.append_nil]
    walk_at "st"
    refine i_isx hE F.isi F.f0 ?_
    walk_at "st"
    refine i_isx hE F.isi F.f1 ?_
    walk_at "st"
    refine i_isx hE F.isi F.f2 ?_
    walk_at "st"
    refine i_isx hE F.isi F.f3 ?_
    walk_at "st"
    intro l1 h1
    have s1 : Same H _ := same_upd (o := .lst [.bl b0, .bl b1, .bl b2, .bl b3]) h1
    have e1 : upd H l1 (.lst [.bl b0, .bl b1, .bl b2, .bl b3]) l1 = some (.lst [.bl b0, .bl b1, .bl b2, .bl b3]) := upd_same
    generalize upd H l1 (.lst [.bl b0, .bl b1, .bl b2, .bl b3]) = H1 at *
    have hE1 := s1 _ _ hE
    walk_at "st"
    refine i_isx hE1 F.isi F.f4 ?_
    walk_at "st"
    refine i_isx hE1 F.isi F.f5 ?_
    walk_at "st"
    refine i_isx hE1 F.isi F.f6 ?_
    walk_at "st"
    intro l2 h2
    refine i_addL (a := l1) (b := l2) (same_upd h2 _ _ e1) upd_same (szl (by simp)) (fun l3 h3 => ?_)
    have s3 : Same H1 _ := (same_upd (o := .lst [.bl b4, .bl b5, .bl b6]) h2).trans (same_upd (o := .lst ([.bl b0, .bl b1, .bl b2, .bl b3] ++ [.bl b4, .bl b5, .bl b6])) h3)
    have e3 : upd (upd H1 l2 (.lst [.bl b4, .bl b5, .bl b6])) l3 (.lst ([.bl b0, .bl b1, .bl b2, .bl b3] ++ [.bl b4, .bl b5, .bl b6])) l3 = some (.lst ([.bl b0, .bl b1, .bl b2, .bl b3] ++ [.bl b4, .bl b5, .bl b6])) := upd_same
    generalize upd (upd H1 l2 (.lst [.bl b4, .bl b5, .bl b6])) l3 (.lst ([.bl b0, .bl b1, .bl b2, .bl b3] ++ [.bl b4, .bl b5, .bl b6])) = H3 at *
    have S3 := s1.trans s3
    have hE3 := S3 _ _ hE
    walk_at "st"
    refine i_isx hE3 F.isi F.f7 ?_
    walk_at "st"
    refine i_isx hE3 F.isi F.f8 ?_
    walk_at "st"
    refine i_isx hE3 F.isi F.f9 ?_
    walk_at "st"
    intro l4 h4
    refine i_addL (a := l3) (b := l4) (same_upd h4 _ _ e3) upd_same (szl (by simp)) (fun l5 h5 => ?_)
    generalize hx5 : ([.bl b0, .bl b1, .bl b2, .bl b3] ++ [.bl b4, .bl b5, .bl b6] ++ [.bl b7, .bl b8, .bl b9] : List V) = x5 at *
    have s5 : Same H3 _ := (same_upd (o := .lst [.bl b7, .bl b8, .bl b9]) h4).trans (same_upd (o := .lst x5) h5)
    have e5 : upd (upd H3 l4 (.lst [.bl b7, .bl b8, .bl b9])) l5 (.lst x5) l5 = some (.lst x5) := upd_same
    generalize upd (upd H3 l4 (.lst [.bl b7, .bl b8, .bl b9])) l5 (.lst x5) = H5 at *
    have S5 := S3.trans s5
    have hE5 := S5 _ _ hE
    walk_at "st"
    refine i_isx hE5 F.isi F.f10 ?_
    walk_at "st"
    refine i_isx hE5 F.isi F.f11 ?_
    walk_at "st"
    refine i_isxT hE5 F.isi F.f12 ?_
    walk_at "st"
    intro l6 h6
    refine i_addL (a := l5) (b := l6) (same_upd h6 _ _ e5) upd_same (szl (by rw [← hx5]; simp)) (fun l7 h7 => ?_)
    refine k l7 _ ((S5.trans (same_upd h6)).trans (same_upd h7)) ?_
    rw [upd_same, ← hx5]
    rfl

def kinNames : List Str := ["NoTrain", "NoStand", "NoPaper", "NoBox", "NoSwitch", "NoPlace", "NoTable", "NoText", "NoRow", "NoPiece", "NothingLeft", "TooMany"]
theorem pd_str {H : Hp} {n : Nat} {x : Str} (h : PyData.strOk x = true) : PdAt K H n (.str x) (.str x) := by cases n <;> exact ⟨rfl, h⟩
theorem i_eqS {H : Hp} {Q : VK} {x y : Str} (hx : PyData.strOk x = true) (hy : PyData.strOk y = true) (q : Q (.bl (x == y)) H) : rEqP K (.str x) (.str y) H Q := ⟨_, _, pd_str hx, pd_str hy, by simpa [PyData.eqv] using q⟩
theorem names_ok : kinNames.all PyData.strOk = true := by decide +kernel
def dueX (x : Str) : List Bool := kinNames.map (· == x) ++ [true]
def spDueKinG : Sp := fun vs H Q _ => ∃ x : Str, vs = [.str x] ∧ PyData.strOk x = true ∧ ∀ l H', Same H H' → H' l = some (.lst (bL (dueX x))) → Q (.ref l) H'
theorem ok_law_due_kin (T : Txt mg) (D : Def K mg "_law_due_kin" s_law_due_kin) : Callee P w K mg base "_law_due_kin" 1 spDueKinG := by
  refine D.ok sc_law_due_kin bd_law_due_kin (fun vs H Q E h => ?len) (fun f cdv A outer s H vs Q E hr h => ?body)
  case len => obtain ⟨x, rfl, _⟩ := h; rfl
  case body =>
    obtain ⟨nm, rfl, hnm, k⟩ := h
    have hu := hr.units
    refine ⟨_, (pss_cons (ps_set (i := 1) sc_law_due_kin.nd rfl (Or.inl rfl) (pe_lst (pa_cons pe_str (pa_cons pe_str (pa_cons pe_str (pa_cons pe_str (pa_cons pe_str (pa_cons pe_str (pa_cons pe_str (pa_cons pe_str (pa_cons pe_str pa_nil)))))))))))
 (pss_cons (ps_set (i := 1) sc_law_due_kin.nd rfl (Or.inl rfl) (pe_op op_addP (pv 1) (pe_lst (pa_cons pe_str (pa_cons pe_str (pa_cons pe_str pa_nil))))))
 (pss_one (ps_ret (pe_op op_addP (by exact pe_comp (N := ["one", "name"]) (fr := [none, some 0]) ⟨by rfl, by decide +kernel, by decide +kernel, (show ∀ y ∈ (_ : List (Str × NameKind)), y.2 = NameKind.free → (defScope s_law_due_kin).names.lookup y.1 = some .cell ∨ (defScope s_law_due_kin).names.lookup y.1 = some .free by decide +kernel), (fr_none (fr_some (by rfl) (by first | exact Or.inl rfl | exact Or.inr rfl) (by rfl) fr_nil))⟩ (by rfl) (pi_listK K (pv 1)) (fun _ _ _ _ => (pg_name (i := 0) (show List.Nodup (["one", "name"] : List Str) by decide) (by rfl) (by exact Or.inl rfl))) (fun _ _ _ _ => pifs_nil) (fun _ _ _ _ => (pe_cmpR (op_eqK K hu) (pv 0) (pv 1) (nomark _))) (gw_name (by rfl))) (pe_lst (pa_cons pe_bl pa_nil))))))), ?_⟩
    dsimp only [tSeq, tAsg, gName, tOp, tUn, tTest, tB, tAnd, tOr, tNot, tAndV, tOrV, tNotV, tIf, tIfS, tRet, tRetN, tDrop, tNext, tCons, tNil, tCB, tCall, tMenu, tComp, tDComp, tDGet, iZip2, iEnum, tNoIf, tTru, tJoin, cxOf_K, tLst, tTup, tSl, tPart, tNoPart, tBM, tBM0, tChain, tC, tFor_eq, gTup, gCons, gNil, gSub, iList, iRng1, iRng2, iRng3, iTup, iZip3, tWhile, tRev, tRaise, tCallS, tTry, tAug, tPar, tNever, ipI, List.append_nil]
    walk_at "st"
    intro l1 h1
    walk_at "st"
    intro l2 h2
    refine i_addL (a := l1) (b := l2) (same_upd h2 _ _ upd_same) upd_same (szl (by simp)) (fun l3 h3 => ?_)
    have s3' : ∀ o, Same H (upd _ l3 o) := fun o => ((same_upd h1).trans (same_upd h2)).trans (same_upd (o := o) h3)
    generalize hH : upd _ l3 _ = H3
    have s3 : Same H H3 := by rw [← hH]; exact s3' _
    have e4 : H3 l3 = some (.lst (kinNames.map V.str)) := by rw [← hH, upd_same]; rfl
    walk_at "st"
    refine ⟨⟨_, SqL.of e4⟩, cp_list (xs := kinNames.map V.str) (fun i ys H4 => ys = bL ((kinNames.take i).map (· == nm)) ∧ i ≤ 12 ∧ H3 = H4) ⟨by simp [bL], Nat.zero_le _, rfl⟩ ?_ (szlt (by simp [kinNames])) ?_ ?_⟩
    · rintro i ys H4 ⟨rfl, hi, rfl⟩
      exact ⟨SqL.of e4, by simp [bL]; omega⟩
    · rintro i x ys H4 hx ⟨rfl, hi, rfl⟩
      rw [List.getElem?_map] at hx
      obtain ⟨z, hz, rfl⟩ := Option.map_eq_some_iff.mp hx
      have hil : i < kinNames.length := (List.getElem?_eq_some_iff.mp hz).1
      walk_at "st"
      refine i_eqS (List.all_eq_true.mp names_ok z (List.mem_of_getElem? hz)) hnm ?_
      refine ⟨?_, by simp [kinNames] at hil; omega, rfl⟩
      rw [take_snoc_get hz]
      simp [bL]
    · rintro l5 ys H4 ⟨rfl, hi, rfl⟩ h5
      walk_at "st"
      intro l6 h6
      refine i_addL (a := l5) (b := l6) (same_upd h6 _ _ upd_same) upd_same (szl (by simp [bL, kinNames])) (fun l7 h7 => ?_)
      refine k l7 _ (((s3.trans (same_upd h5)).trans (same_upd h6)).trans (same_upd h7)) ?_
      rw [upd_same]
      rfl

--SPLIT
def spMoves (K : PySem.W.Frag) : Sp := fun vs H Q _ => ∃ (a : Addr) (row : List Int), vs = [.ref a] ∧ SqL K H a (iL row) ∧ row.length ≤ 50000 ∧ ∀ l H', NewI H H' l (moves row) → Q (.ref l) H'
theorem ifT {b : Bool} {A B : Prop} (e : b = true) (h : A) : if b = true then A else B := by rw [if_pos e]; exact h
theorem ifF {b : Bool} {A B : Prop} (e : b = false) (h : B) : if b = true then A else B := by rw [if_neg (by rw [e]; exact Bool.false_ne_true)]; exact h
theorem ok_moves_of (T : Txt mg) (D : Def K mg "moves_of" s_moves_of) : Callee P w K mg base "moves_of" 1 (spMoves K) := by
  refine D.ok sc_moves_of bd_moves_of (fun vs H Q E h => ?len) (fun f cdv A outer s H vs Q E hr h => ?body)
  case len => obtain ⟨a, row, rfl, _⟩ := h; rfl
  case body =>
    obtain ⟨a, row, rfl, hA, hrow, k⟩ := h
    have hu := hr.units
    refine ⟨_, (pss_cons (ps_set (i := 1) sc_moves_of.nd rfl (Or.inl rfl) (pe_lst pa_nil))
 (pss_cons (ps_for PassesOwn.never rfl (pi_listK K (pv 0)) (pg_name (i := 2) sc_moves_of.nd rfl (Or.inl rfl))
 (pss_one (ps_if (PW.pt (pw_or (pt_not (pt_truthK K (pv 1))) (pw_or1 (pt_cmpR (op_neK K hu) (pv 2) (pe_ix (ix_K K) (pv 1) (pe_negK (r := -1) (by decide)) (by exact fun _ _ => rfl)) (nomark _)))))
 (pss_one (ps_expr (pe_bmK K PySem.F.plainAttrs_list PySem.F.slot_list_append PySem.F.type_list_append mt_append (pv 1) (pa_cons (pv 2) pa_nil))))
 pss_nil)))
 (pss_one (ps_ret (pv 1))))), ?_⟩
    dsimp only [tSeq, tAsg, gName, tOp, tUn, tTest, tB, tAnd, tOr, tNot, tAndV, tOrV, tNotV, tIf, tIfS, tRet, tRetN, tDrop, tNext, tCons, tNil, tCB, tCall, tMenu, tComp, tDComp, tDGet, iZip2, iEnum, tNoIf, tTru, tJoin, cxOf_K, tLst, tTup, tSl, tPart, tNoPart, tBM, tBM0, tChain, tC, tFor_eq, gTup, gCons, gNil, gSub, iList, iRng1, iRng2, iRng3, iTup, iZip3, tWhile, tRev, tRaise, tCallS, tTry, tAug, tPar, tNever, ipI, List.append_nil]
    walk_at "st"
    intro l hl
    walk_at "st"
    have s1 : Same H (upd H l (.lst [])) := same_upd hl
    refine ⟨⟨_, s1.seq hA⟩, lp_ints (ns := row) (fun i σ H2 => ∃ (u : Option V) (dn : List Int), σ = [some (.ref a), some (.ref l), u] ∧ NewI H H2 l dn ∧ dn.length ≤ i ∧ ((dn = [] ∧ i = 0) ∨ ∃ dn' x, dn = dn' ++ [x] ∧ moves row = dn' ++ x :: mvFrom x (row.drop i))) ?_ ?_ ?_ ?_⟩
    · exact ⟨_, [], rfl, ⟨hl, s1, upd_same⟩, Nat.le_refl _, .inl ⟨rfl, rfl⟩⟩
    · rintro i σ H2 _ ⟨u, dn, rfl, N, hdl, _⟩
      exact N.sm.seq hA
    · rintro i x σ H2 hxi ⟨u, dn, rfl, N, hdl, hd⟩
      have hil : i < row.length := (List.getElem?_eq_some_iff.mp hxi).1
      walk_at "st"
      refine i_truL (SqL.of N.at_) ?_
      rcases hd with ⟨rfl, rfl⟩ | ⟨dn', x0, rfl, hm⟩
      · refine ifT (by rfl) ?_
        walk_at "st"
        refine ⟨.inl ⟨rfl, _, SqL.of N.at_⟩, ?_⟩
        walk_at "st"
        refine i_app N.at_ (szlt (by simp [iL])) ?_
        refine ⟨_, [x], rfl, N.app, by simp, .inr ⟨[], x, rfl, ?_⟩⟩
        have e : row = x :: row.drop (0 + 1) := by have := dropc hxi; simpa using this
        rw [e]; simp [moves]
      · refine ifF (by cases dn' <;> rfl) ?_
        walk_at "st"
        refine i_ixLast (xs := iL dn') (v := .int x0) (SqL.of (by rw [N.at_]; simp [iL])) ?_
        walk_at "st"
        rw [dropc hxi] at hm
        refine i_ifn (fun g => ?_) (fun g => ?_)
        · walk_at "st"
          refine ⟨.inl ⟨rfl, _, SqL.of N.at_⟩, ?_⟩
          walk_at "st"
          refine i_app N.at_ (szlt (by simp [iL] at hdl ⊢; omega)) ?_
          refine ⟨_, dn' ++ [x0] ++ [x], rfl, N.app, by simp at hdl ⊢; omega, .inr ⟨dn' ++ [x0], x, rfl, ?_⟩⟩
          rw [hm]; simp only [mvFrom]; rw [if_neg g]; simp
        · refine ⟨_, dn' ++ [x0], rfl, N, by omega, .inr ⟨dn', x0, rfl, ?_⟩⟩
          rw [hm]; simp only [mvFrom]; rw [if_pos g]
    · rintro σ H2 ⟨u, dn, rfl, N, hdl, hd⟩
      walk_at "st"
      have e : dn = moves row := by
        rcases hd with ⟨rfl, e⟩ | ⟨dn', x0, rfl, hm⟩
        · have : row = [] := List.length_eq_zero_iff.mp e
          rw [this]; rfl
        · rw [hm, List.drop_of_length_le (Nat.le_refl _)]; rfl
      rw [e] at N
      exact k l H2 N

def spTurning (K : PySem.W.Frag) : Sp := fun vs H Q _ => ∃ (a : Addr) (row : List Int), vs = [.ref a] ∧ SqL K H a (iL row) ∧ row.length ≤ 50000 ∧ ∀ l H', NewI H H' l (turn (moves row)) → Q (.ref l) H'
theorem moves_len (row : List Int) : (moves row).length ≤ row.length := by
  cases row with
  | nil => simp [moves]
  | cons x r => have := mv_length r x; simp [moves]; omega
theorem last_split : ∀ (xs : List Int) (a : Int), ∃ ini, a :: xs = ini ++ [lastOf a xs]
  | [], a => ⟨[], rfl⟩
  | x :: xs, a => by
    obtain ⟨ini, e⟩ := last_split xs x
    exact ⟨a :: ini, by simp only [lastOf]; rw [List.cons_append, ← e]⟩
theorem ok_turning_of (T : Txt mg) (D : Def K mg "turning_of" s_turning_of) (C_moves_of : Callee P w K mg base "moves_of" 1 (spMoves K)) : Callee P w K mg base "turning_of" 2 (spTurning K) := by
  refine D.ok sc_turning_of bd_turning_of (fun vs H Q E h => ?len) (fun f cdv A outer s H vs Q E hr h => ?body)
  case len => obtain ⟨a, row, rfl, _⟩ := h; rfl
  case body =>
    obtain ⟨a, row, rfl, hA, hrow, k⟩ := h
    have hu := hr.units
    refine ⟨_, (pss_cons (ps_set (i := 1) sc_turning_of.nd rfl (Or.inl rfl) (pe_callN C_moves_of (hr.mono (by decide)) (by rfl) (pa_cons (pv 0) pa_nil)))
 (pss_cons (ps_if (pt_cmpR op_lt (pe_callB (call_lenK K) (by rfl) T.z_len bt_len (pa_cons (pv 1) pa_nil)) pe_int (nomark _))
 (pss_one (ps_ret (pv 1)))
 pss_nil)
 (pss_cons (by exact ps_setC (i := 2) sc_turning_of.nd rfl (Or.inl rfl) (N := ["ahead", "here", "behind"]) (fr := [none, none, none]) ⟨by rfl, by decide +kernel, by decide +kernel, (show ∀ y ∈ (_ : List (Str × NameKind)), y.2 = NameKind.free → (defScope s_turning_of).names.lookup y.1 = some .cell ∨ (defScope s_turning_of).names.lookup y.1 = some .free by decide +kernel), (fr_none (fr_none (fr_none fr_nil)))⟩ (by rfl) (pi_zip3K K (by rfl) T.z_zip (pa_cons (pv 1) (pa_cons (pe_slice (sl_listK K) (pv 1) (po_some pe_int) po_none) (pa_cons (pe_slice (sl_listK K) (pv 1) (po_some pe_int) po_none) pa_nil)))) (fun _ _ _ _ => (pg_tupK K 3 (pgs_cons (pg_name (i := 0) (show List.Nodup (["ahead", "here", "behind"] : List Str) by decide) (by rfl) (by exact Or.inl rfl)) (pgs_cons (pg_name (i := 1) (show List.Nodup (["ahead", "here", "behind"] : List Str) by decide) (by rfl) (by exact Or.inl rfl)) (pgs_cons (pg_name (i := 2) (show List.Nodup (["ahead", "here", "behind"] : List Str) by decide) (by rfl) (by exact Or.inl rfl)) pgs_nil))))) (fun _ _ _ _ => (pifs_one (pt_cmpR (op_eqK K hu) (pe_cmpR op_lt (pv 0) (pv 1) (nomark _)) (pe_cmpR op_lt (pv 2) (pv 1) (nomark _)) (nomark _)))) (fun _ _ _ _ => (pv 1)) (gw_tup (gws_cons (gw_name (by rfl)) (gws_cons (gw_name (by rfl)) (gws_cons (gw_name (by rfl)) gws_nil)))))
 (pss_one (ps_ret (pe_op op_addP (pe_op op_addP (pe_lst (pa_cons (pe_ix (ix_K K) (pv 1) pe_int (by exact fun _ _ => rfl)) pa_nil)) (pv 2)) (pe_lst (pa_cons (pe_ix (ix_K K) (pv 1) (pe_negK (r := -1) (by decide)) (by exact fun _ _ => rfl)) pa_nil)))))))), ?_⟩
    dsimp only [tSeq, tAsg, gName, tOp, tUn, tTest, tB, tAnd, tOr, tNot, tAndV, tOrV, tNotV, tIf, tIfS, tRet, tRetN, tDrop, tNext, tCons, tNil, tCB, tCall, tMenu, tComp, tDComp, tDGet, iZip2, iEnum, tNoIf, tTru, tJoin, cxOf_K, tLst, tTup, tSl, tPart, tNoPart, tBM, tBM0, tChain, tC, tFor_eq, gTup, gCons, gNil, gSub, iList, iRng1, iRng2, iRng3, iTup, iZip3, tWhile, tRev, tRaise, tCallS, tTry, tAug, tPar, tNever, ipI, List.append_nil]
    walk_at "st"
    refine ⟨a, row, rfl, hA, hrow, fun l H1 N => ?_⟩
    have hml := moves_len row
    walk_at "st"
    refine i_lenI (SqL.of N.at_) ?_
    walk_at "st"
    generalize moves row = m at *
    refine i_if (fun g => ?_) (fun g => ?_)
    · walk_at "st"
      have e : turn m = m := by
        match m, g with
        | [], _ => rfl
        | [x], _ => rfl
        | x :: y :: r, g => simp at g; omega
      rw [e] at k
      exact k l H1 N
    · obtain ⟨x0, y0, r, rfl⟩ : ∃ x0 y0 r, m = x0 :: y0 :: r := by
        match m, g with
        | [], g => simp at g
        | [x], g => simp at g
        | x :: y :: r, _ => exact ⟨x, y, r, rfl⟩
      generalize hm : x0 :: y0 :: r = m at *
      have hk : turn m = x0 :: tn x0 y0 r := by rw [← hm]; rfl
      have hml2 : m.length = r.length + 2 := by rw [← hm]; rfl
      walk_at "st"
      refine i_slFrom (SqL.of N.at_) (by decide) (fun p hp => ?_)
      have s2 : Same H1 _ := same_upd (o := .lst (iL (m.drop (1 : Int).toNat))) hp
      have e2 : upd H1 p (.lst (iL (m.drop (1 : Int).toNat))) p = some (.lst (iL (m.drop 1))) := upd_same
      generalize upd H1 p (.lst (iL (m.drop (1 : Int).toNat))) = H2 at *
      walk_at "st"
      refine i_slFrom (SqL.of (s2 _ _ N.at_)) (by decide) (fun p2 hp2 => ?_)
      have s3 : Same H2 _ := same_upd (o := .lst (iL (m.drop (2 : Int).toNat))) hp2
      have e3 : upd H2 p2 (.lst (iL (m.drop (2 : Int).toNat))) p2 = some (.lst (iL (m.drop 2))) := upd_same
      generalize upd H2 p2 (.lst (iL (m.drop (2 : Int).toNat))) = H3 at *
      have N3 := N.more (s2.trans s3)
      have e23 := s3 _ _ e2
      walk_at "st"
      refine ⟨_, _, _, rfl, ⟨_, SqL.of N3.at_⟩, ⟨_, SqL.of e23⟩, ⟨_, SqL.of e3⟩, cp_zip3 (xs := iL m) (ys := iL (m.drop 1)) (ws := iL (m.drop 2)) (fun i zs H4 => ∃ (ds : List Int) (x y : Int), zs = iL ds ∧ ds.length ≤ i ∧ Same H3 H4 ∧ m[i]? = some x ∧ m[i + 1]? = some y ∧ tn x0 y0 r = ds ++ tn x y (m.drop (i + 2))) ⟨[], x0, y0, rfl, Nat.le_refl _, Same.refl _, by rw [← hm]; rfl, by rw [← hm]; rfl, by rw [← hm]; rfl⟩ ?_ (szlt (by simp [iL]; omega)) ?_ ?_⟩
      · rintro i zs H4 ⟨ds, x, y, rfl, hdl, sm, _⟩
        exact ⟨SqL.of (sm _ _ N3.at_), SqL.of (sm _ _ e23), SqL.of (sm _ _ e3), by simp [iL]; omega⟩
      · rintro i x1 y1 z1 t zs H4 hx hy hz ⟨ds, x, y, rfl, hdl, sm, hmx, hmy, htn⟩ ht
        rw [List.getElem?_map] at hx hy hz
        obtain ⟨x2, hx2, rfl⟩ := Option.map_eq_some_iff.mp hx
        obtain ⟨y2, hy2, rfl⟩ := Option.map_eq_some_iff.mp hy
        obtain ⟨z2, hz2, rfl⟩ := Option.map_eq_some_iff.mp hz
        rw [List.getElem?_drop, Nat.add_comm] at hy2 hz2
        rw [hmx] at hx2
        cases hx2
        rw [hmy] at hy2
        cases hy2
        have hnext : tn x y (m.drop (i + 2)) = if decide (x < y) = decide (z2 < y) then y :: tn y z2 (m.drop (i + 1 + 2)) else tn y z2 (m.drop (i + 1 + 2)) := by
          rw [dropc hz2]; rfl
        walk_at "st"
        refine ⟨_, _, rfl, SqT.of upd_same, rfl, _, _, rfl, _, _, rfl, _, _, rfl, rfl, ?_⟩
        walk_at "st"
        refine i_eqB ?_
        walk_at "st"
        refine i_if (fun g2 => ?_) (fun g2 => ?_)
        · walk_at "st"
          rw [if_pos g2] at hnext
          refine ⟨ds ++ [y], y, z2, by simp [iL], by simp; omega, sm.trans (same_upd ht), hmy, hz2, ?_⟩
          rw [htn, hnext]; simp
        · rw [if_neg g2] at hnext
          refine ⟨ds, y, z2, rfl, by omega, sm.trans (same_upd ht), hmy, hz2, ?_⟩
          rw [htn, hnext]
      · rintro lt zs H4 ⟨ds, x, y, rfl, hdl, sm, hmx, hmy, htn⟩ hlt
        have hmin : min (iL m).length (min (iL (m.drop 1)).length (iL (m.drop 2)).length) = r.length := by simp [iL]; omega
        rw [hmin] at hdl hmx hmy htn
        rw [List.drop_of_length_le (by omega)] at htn
        have htn2 : tn x0 y0 r = ds ++ [y] := htn
        have s5 := sm.trans (same_upd (o := .lst (iL ds)) hlt)
        have e5 : upd H4 lt (.lst (iL ds)) lt = some (.lst (iL ds)) := upd_same
        generalize upd H4 lt (.lst (iL ds)) = H5 at *
        have N5 := N3.more s5
        walk_at "st"
        refine i_ixN (SqL.of N5.at_) (by decide) (v := .int x0) (by rw [← hm]; rfl) ?_
        walk_at "st"
        intro g1 hg1
        walk_at "st"
        refine i_addL (a := g1) (b := lt) (xs := [V.int x0]) (ys := iL ds) upd_same (same_upd hg1 _ _ e5) (by simp [iL]; exact szl (by omega)) (fun g2 hg2 => ?_)
        have s6 : Same H5 _ := (same_upd hg1).trans (same_upd (o := .lst ([V.int x0] ++ iL ds)) hg2)
        have e6 : upd (upd H5 g1 (.lst [V.int x0])) g2 (.lst ([V.int x0] ++ iL ds)) g2 = some (.lst (iL (x0 :: ds))) := by rw [upd_same]; rfl
        generalize upd (upd H5 g1 (.lst [V.int x0])) g2 (.lst ([V.int x0] ++ iL ds)) = H6 at *
        have N6 := N5.more s6
        obtain ⟨ini, hini⟩ : ∃ ini, m = ini ++ [y] := by
          obtain ⟨ini, q⟩ := last_split (y0 :: r) x0
          rw [hm] at q
          have hl := congrArg List.length q
          refine ⟨ini, ?_⟩
          have : m[r.length + 1]? = some (lastOf x0 (y0 :: r)) := by
            rw [q]
            have : ini.length = r.length + 1 := by simp at hl; omega
            rw [List.getElem?_append_right (by omega)]; simp [this]
          rw [hmy] at this
          cases this
          exact q
        walk_at "st"
        refine i_ixLast (xs := iL ini) (v := .int y) (SqL.of (by rw [N6.at_, hini]; simp [iL])) ?_
        walk_at "st"
        intro g3 hg3
        refine i_addL (a := g2) (b := g3) (xs := iL (x0 :: ds)) (ys := [V.int y]) (same_upd hg3 _ _ e6) upd_same (by simp [iL]; exact szl (by omega)) (fun g4 hg4 => ?_)
        have S : Same H _ := (N6.sm.trans (same_upd (o := .lst [V.int y]) hg3)).trans (same_upd (o := .lst (iL (x0 :: ds) ++ [V.int y])) hg4)
        rw [hk, htn2] at k
        exact k g4 _ ⟨(N6.sm.trans (same_upd hg3)).free hg4, S, by rw [upd_same]; simp [iL]⟩

theorem ne_kind {H : Hp} {a b : Addr} {o1 o2 : HO} (h1 : H a = some o1) (h2 : H b = some o2) (h : o1 ≠ o2) : a ≠ b := fun z => by
  subst z
  rw [h1] at h2
  exact h (Option.some.inj h2)
--SPLIT
theorem dcp_enum {g : TG} {ti : TT} {tk tv : TE} {σc : St} {H : Hp} {Q : VK} {a : Addr} {xs : List V} (Pv : Nat → List (Key × V) → Hp → Prop) (h0 : Pv 0 [] H) (hl : ∀ i ys H, Pv i ys H → SqL K H a xs ∧ ys.length ≤ i) (hx : xs.length < sizeLine)
    (hs : ∀ i x T ys H, xs[i]? = some x → Pv i ys H → H T = none → g (.ref T) σc (upd H T (.tup [.int i, x])) fun σ2 H2 => ti σ2 H2 fun b H3 => if b = true then tk σ2 H3 fun y H4 => ∃ k : Key, y = kV k ∧ tv σ2 H4 fun v H5 => Pv (i + 1) (putK ys k v) H5 else Pv (i + 1) ys H3)
    (hd : ∀ l ys H, Pv xs.length ys H → H l = none → Q (.ref l) (upd H l (.dK ys))) : DCompI (Ite K a) g ti tk tv σc H Q := by
  refine ⟨fun i m ys H => m = xs.length - i ∧ i ≤ xs.length ∧ Pv i ys H, ⟨_, rfl, Nat.zero_le _, h0⟩, ?_⟩
  rintro i m ys H ⟨rfl, hi, p⟩
  obtain ⟨q1, hy⟩ := hl i ys H p
  refine ⟨by omega, ?_⟩
  by_cases hlt : i < xs.length
  · refine .inr ⟨⟨xs, xs[i], q1, by simp [hlt]⟩, Pv (i + 1), fun σ' H' p' => ⟨_, by omega, rfl, hlt, p'⟩, fun x H' y => ?_⟩
    obtain ⟨T, x1, rfl, hT, rfl, ex⟩ := y
    exact hs i x1 T ys H (ex xs q1) p hT
  · have e : i = xs.length := by omega
    exact .inl ⟨⟨xs, q1, by omega⟩, fun l hl => hd l ys H (by rw [← e]; exact p) hl⟩
/-- of each place its last time -/
def Times (row : List Int) (kvs : List (Key × V)) : Prop := ∀ p ∈ row, ∃ t : Nat, LastT row p t ∧ valV kvs (Sum.inl p : Key) = some (.int t)
theorem times_snoc {row : List Int} {kvs : List (Key × V)} {x : Int} (h : Times row kvs) : Times (row ++ [x]) (putK kvs (Sum.inl x : Key) (.int (row.length : Nat))) := by
  intro p hp
  by_cases e : p = x
  · subst e
    refine ⟨row.length, ⟨by simp, fun k hk => ?_⟩, by rw [valV_put, if_pos rfl]⟩
    rw [List.getElem?_eq_none (by simp; omega)]
    simp
  · have hp2 : p ∈ row := by
      rcases List.mem_append.mp hp with z | z
      · exact z
      · simp at z; exact absurd z e
    obtain ⟨t, ⟨h1, h2⟩, h3⟩ := h p hp2
    have htl : t < row.length := (List.getElem?_eq_some_iff.mp h1).1
    refine ⟨t, ⟨by rw [List.getElem?_append_left htl]; exact h1, fun k hk => ?_⟩, by rw [valV_put, if_neg (fun z => e (Sum.inl.inj z))]; exact h3⟩
    by_cases hkl : k < row.length
    · rw [List.getElem?_append_left hkl]; exact h2 k hk
    · by_cases hk2 : k = row.length
      · subst hk2
        simp
        exact fun z => e z.symm
      · rw [List.getElem?_eq_none (by simp; omega)]
        simp
def spStanding : Sp := fun vs H Q _ => ∃ (a : Addr) (row : List Int), vs = [.ref a] ∧ H a = some (.lst (iL row)) ∧ row.length ≤ 50000 ∧ ∀ l H', NewI H H' l (std row) → Q (.ref l) H'
def StW (H : Hp) (a l1 ld : Addr) (row : List Int) (kvs : List (Key × V)) (mn mx : Int) : Nat → St → Hp → Prop := fun n σ H3 => ∃ (S : List Int) (c : Int) (t : Nat) (b : Bool) (ls : Addr) (u : Option V), σ = [some (.ref a), some (.ref l1), some (.ref ld), some (.int mn), some (.int mx), some (.bl b), some (.ref ls), u] ∧ NewI H H3 ls S ∧ H3 ld = some (.dK kvs) ∧ Gen row S c t b ∧ n = row.length - t
theorem getLast_split : ∀ {xs : List Int}, xs ≠ [] → ∃ ini z, xs = ini ++ [z]
  | [], h => absurd rfl h
  | x :: r, _ => by obtain ⟨ini, e⟩ := last_split r x; exact ⟨ini, _, e⟩
theorem ok_standing_of (T : Txt mg) (D : Def K mg "standing_of" s_standing_of) (C_turning_of : Callee P w K mg base "turning_of" 2 (spTurning K)) : Callee P w K mg base "standing_of" 3 spStanding := by
  refine D.ok sc_standing_of bd_standing_of (fun vs H Q E h => ?len) (fun f cdv A outer s H vs Q E hr h => ?body)
  case len => obtain ⟨a, row, rfl, _⟩ := h; rfl
  case body =>
    obtain ⟨a, row, rfl, hA, hl, k⟩ := h
    have hu := hr.units
    have hu1 := Nat.lt_of_le_of_lt (Nat.add_le_add_left (show 1 ≤ 64 by decide) _) hu
    refine ⟨_, (pss_cons (ps_set (i := 1) sc_standing_of.nd rfl (Or.inl rfl) (pe_callN C_turning_of (hr.mono (by decide)) (by rfl) (pa_cons (pv 0) pa_nil)))
 (pss_cons (ps_if (pt_cmpR op_lt (pe_callB (call_lenK K) (by rfl) T.z_len bt_len (pa_cons (pv 1) pa_nil)) pe_int (nomark _))
 (pss_one (ps_ret (pv 1)))
 pss_nil)
 (pss_cons (by exact ps_setDC (i := 2) sc_standing_of.nd rfl (Or.inl rfl) (N := ["when", "place"]) (fr := [none, none]) ⟨by rfl, by decide +kernel, by decide +kernel, (show ∀ y ∈ (_ : List (Str × NameKind)), y.2 = NameKind.free → (defScope s_standing_of).names.lookup y.1 = some .cell ∨ (defScope s_standing_of).names.lookup y.1 = some .free by decide +kernel), (fr_none (fr_none fr_nil))⟩ (by rfl) (pi_enumerate1K K (by rfl) T.z_enumerate (pa_cons (pv 0) pa_nil)) (fun _ _ _ _ => (pg_tupK K 2 (pgs_cons (pg_name (i := 0) (show List.Nodup (["when", "place"] : List Str) by decide) (by rfl) (by exact Or.inl rfl)) (pgs_cons (pg_name (i := 1) (show List.Nodup (["when", "place"] : List Str) by decide) (by rfl) (by exact Or.inl rfl)) pgs_nil)))) (fun _ _ _ _ => pifs_nil) (fun _ _ _ _ => (pv 1)) (fun _ _ _ _ => (pv 0)) (gw_tup (gws_cons (gw_name (by rfl)) (gws_cons (gw_name (by rfl)) gws_nil))))
 (pss_cons (ps_par (i := 3) (j := 4) rfl sc_standing_of.nd rfl rfl (by decide) rfl rfl (pa_cons (pe_callB (call_minK K) (by rfl) T.z_min bt_min (pa_cons (pv 0) pa_nil)) (pa_cons (pe_callB (call_maxK K) (by rfl) T.z_max bt_max (pa_cons (pv 0) pa_nil)) pa_nil)) (by rfl))
 (pss_cons (ps_set (i := 5) sc_standing_of.nd rfl (Or.inl rfl) (pe_cmpR op_lt (pe_dget hu1 (pv 2) (pv 3) (by exact fun _ _ => rfl)) (pe_dget hu1 (pv 2) (pv 4) (by exact fun _ _ => rfl)) (nomark _)))
 (pss_cons (ps_set (i := 6) sc_standing_of.nd rfl (Or.inl rfl) (pe_ifExp (pt_truthK K (pv 5)) (pe_lst (pa_cons (pv 3) (pa_cons (pv 4) pa_nil))) (pe_lst (pa_cons (pv 4) (pa_cons (pv 3) pa_nil)))))
 (pss_cons (ps_while PassesOwn.never (pt_cmpR (op_neK K hu) (pe_ix (ix_K K) (pv 6) (pe_negK (r := -1) (by decide)) (by exact fun _ _ => rfl)) (pe_ix (ix_K K) (pv 0) (pe_negK (r := -1) (by decide)) (by exact fun _ _ => rfl)) (nomark _))
 (pss_cons (ps_set (i := 7) sc_standing_of.nd rfl (Or.inl rfl) (pe_slice (sl_listK K) (pv 0) (po_some (pe_op op_addP (pe_dget hu1 (pv 2) (pe_ix (ix_K K) (pv 6) (pe_negK (r := -1) (by decide)) (by exact fun _ _ => rfl)) (by exact fun _ _ => rfl)) pe_int)) po_none))
 (pss_cons (ps_expr (pe_bmK K PySem.F.plainAttrs_list PySem.F.slot_list_append PySem.F.type_list_append mt_append (pv 6) (pa_cons (pe_ifExp (pt_truthK K (pv 5)) (pe_callB (call_minK K) (by rfl) T.z_min bt_min (pa_cons (pv 7) pa_nil)) (pe_callB (call_maxK K) (by rfl) T.z_max bt_max (pa_cons (pv 7) pa_nil))) pa_nil)))
 (pss_one (ps_set (i := 5) sc_standing_of.nd rfl (Or.inl rfl) (pe_not (pv 5)))))))
 (pss_one (ps_ret (pv 6)))))))))), ?_⟩
    dsimp only [tSeq, tAsg, gName, tOp, tUn, tTest, tB, tAnd, tOr, tNot, tAndV, tOrV, tNotV, tIf, tIfS, tRet, tRetN, tDrop, tNext, tCons, tNil, tCB, tCall, tMenu, tComp, tDComp, tDGet, iZip2, iEnum, tNoIf, tTru, tJoin, cxOf_K, tLst, tTup, tSl, tPart, tNoPart, tBM, tBM0, tChain, tC, tFor_eq, gTup, gCons, gNil, gSub, iList, iRng1, iRng2, iRng3, iTup, iZip3, tWhile, tRev, tRaise, tCallS, tTry, tAug, tPar, tNever, ipI, List.append_nil]
    walk_at "st"
    refine ⟨a, row, rfl, SqL.of hA, hl, fun l1 H1 N1 => ?_⟩
    walk_at "st"
    refine i_lenI (SqL.of N1.at_) ?_
    walk_at "st"
    refine i_if (fun g => ?_) (fun g => ?_)
    · walk_at "st"
      obtain ⟨q1, q2, q3, q4⟩ := std_short (row := row) (by omega)
      exact k l1 H1 ((std_is (row := row) (.inl ⟨rfl, by omega⟩)) ▸ N1)
    obtain ⟨p0, hp0, p1, hp1, hne⟩ := turn_long (row := row) (by omega)
    have hA1 := N1.sm _ _ hA
    have S1 := N1.sm
    have hrp : 0 < row.length := List.length_pos_of_mem hp0
    clear N1 g
    walk_at "st"
    refine ⟨⟨_, hA1⟩, dcp_enum (xs := iL row) (fun i ys H3 => ys.length ≤ i ∧ i ≤ row.length ∧ Times (row.take i) ys ∧ Same H1 H3) ⟨Nat.le_refl _, Nat.zero_le _, by intro p hp; simp at hp, Same.refl _⟩ ?_ (szlt (by simp [iL]; omega)) ?_ ?_⟩
    · rintro i ys H3 ⟨hy, hi, _, sm⟩
      exact ⟨SqL.of (sm _ _ hA1), hy⟩
    · rintro i x t ys H3 hx ⟨hy, hi, hT, sm⟩ ht
      rw [List.getElem?_map] at hx
      obtain ⟨z, hz, rfl⟩ := Option.map_eq_some_iff.mp hx
      have hil : i < row.length := (List.getElem?_eq_some_iff.mp hz).1
      walk_at "st"
      refine ⟨_, _, rfl, SqT.of upd_same, rfl, _, _, rfl, _, _, rfl, rfl, ?_⟩
      walk_at "st"
      refine ⟨Sum.inl z, rfl, ?_⟩
      walk_at "st"
      refine ⟨by have := length_putK ys (Sum.inl z : Key) (V.int (i : Int)); omega, by omega, ?_, sm.trans (same_upd ht)⟩
      rw [take_snoc_get hz]
      have hts := times_snoc (x := z) hT
      rw [List.length_take, Nat.min_eq_left (by omega)] at hts
      exact hts
    rintro ld kvs H3 ⟨_, _, hTm, sm3⟩ hld
    rw [List.take_of_length_le (by simp [iL])] at hTm
    have s4 : Same H1 _ := sm3.trans (same_upd (o := .dK kvs) hld)
    have hD : upd H3 ld (.dK kvs) ld = some (.dK kvs) := upd_same
    have S4 := S1.trans s4
    generalize upd H3 ld (.dK kvs) = H4 at *
    have hA4 := S4 _ _ hA
    clear s4 sm3 S1 hA1 hld
    walk_at "st"
    refine i_minL (SqL.of hA4) hrp (fun mn hmn hmnb => ?_)
    walk_at "st"
    refine i_maxL (SqL.of hA4) hrp (fun mx hmx hmxb => ?_)
    walk_at "st"
    obtain ⟨tm, hlm, hvm⟩ := hTm mn hmn
    obtain ⟨tM, hlM, hvM⟩ := hTm mx hmx
    have hmM : mn ≠ mx := fun z => by
      have a1 := hmnb p0 hp0
      have a2 := hmxb p0 hp0
      have a3 := hmnb p1 hp1
      have a4 := hmxb p1 hp1
      omega
    have tf1 := fun h : tm < tM => Gen.up hlm hlM (fun p hp => ⟨hmnb p hp, hmxb p hp⟩) hmM h
    have tf2 := fun h : ¬ tm < tM => Gen.down hlm hlM (fun p hp => ⟨hmnb p hp, hmxb p hp⟩) hmM h
    refine ⟨_, _, rfl, ?_⟩
    walk_at "st"
    refine ⟨ld, .int tm, rfl, by have q := DGet.k (k := (Sum.inl mn : Key)) hD; rw [hvm] at q; exact q, ?_⟩
    walk_at "st"
    refine ⟨ld, .int tM, rfl, by have q := DGet.k (k := (Sum.inl mx : Key)) hD; rw [hvM] at q; exact q, ?_⟩
    walk_at "st"
    refine i_if (fun g => ?_) (fun g => ?_)
    · walk_at "st"
      intro ls hls
      walk_at "st"
      refine ⟨StW H a l1 ld row kvs mn mx, ⟨_, [mn, mx], mx, tM, true, ls, none, (by rw [decide_eq_true g]; rfl), ⟨S4.free hls, S4.trans (same_upd hls), upd_same⟩, same_upd hls _ _ hD, tf1 (by omega), rfl⟩, ?_⟩
      clear hls tf1 tf2 hlm hlM hvm hvM S4 hA4 hD
      rintro n σ H5 ⟨S, c, t, b, ls, u, rfl, N, hD, hT, rfl⟩
      obtain ⟨ini, hini⟩ := hT.told.en
      obtain ⟨ini2, zl, hrow⟩ := getLast_split (xs := row) (by intro z; rw [z] at hrp; simp at hrp)
      have hA5 := N.sm _ _ hA
      have iS : ∀ {Q' : VK}, Q' (.int c) H5 → rIxP K (.ref ls) (.int (-1)) H5 Q' := fun q => i_ixLast (xs := iL ini) (v := .int c) (SqL.of (by rw [N.at_, hini]; simp [iL])) q
      have htl : t < row.length := (List.getElem?_eq_some_iff.mp hT.told.lt.1).1
      have hzl : row[row.length - 1]? = some zl := by rw [hrow]; simp
      walk_at "st"
      refine iS ?_
      walk_at "st"
      refine i_ixLast (xs := iL ini2) (v := .int zl) (SqL.of (by rw [hA5, hrow]; simp [iL])) ?_
      walk_at "st"
      refine i_ifn (fun g => ?_) (fun g => ?_)
      · have htl2 : t + 1 < row.length := by
          rcases Nat.lt_or_ge (t + 1) row.length with z | z
          · exact z
          · exfalso
            have e := hT.told.lt.1
            rw [show t = row.length - 1 by omega, hzl] at e
            exact g (Option.some.inj e).symm
        obtain ⟨t2, hl2, hv2⟩ := hTm c (List.mem_of_getElem? hT.told.lt.1)
        have et := hl2.uniq hT.told.lt
        subst et
        refine ⟨fun σ' H' => ∃ m', m' < row.length - t2 ∧ StW H a l1 ld row kvs mn mx m' σ' H', fun _ _ z => z, ?_⟩
        walk_at "st"
        refine iS ?_
        walk_at "st"
        refine ⟨ld, .int t2, rfl, by have q := DGet.k (k := (Sum.inl c : Key)) hD; rw [hv2] at q; exact q, ?_⟩
        walk_at "st"
        refine i_slFrom (SqL.of hA5) (by omega) (fun lr hlr => ?_)
        rw [show ((t2 : Int) + 1).toNat = t2 + 1 by omega]
        have s6 : Same H5 _ := same_upd (o := .lst (iL (row.drop (t2 + 1)))) hlr
        have e6 : upd H5 lr (.lst (iL (row.drop (t2 + 1)))) lr = some (.lst (iL (row.drop (t2 + 1)))) := upd_same
        have N6 := N.more s6
        have hD6 := s6 _ _ hD
        generalize upd H5 lr (.lst (iL (row.drop (t2 + 1)))) = H6 at *
        have hrl : 0 < (row.drop (t2 + 1)).length := by simp; omega
        have hSl := hT.told.len
        have nld : ld ≠ ls := ne_kind hD6 N6.at_ (by intro z; cases z)
        walk_at "st"
        refine ⟨.inl ⟨rfl, _, SqL.of N6.at_⟩, ?_⟩
        cases b with
        | true =>
          walk_at "st"
          refine i_minL (SqL.of e6) hrl (fun d hd hdb => ?_)
          obtain ⟨u2, hlu, _⟩ := hTm d (List.mem_of_mem_drop hd)
          have hlt := (told_next hT.told hd hlu (fun p hp => by simpa using hdb p hp)).1
          have hT2 := Gen.next hT hd hlu (fun p hp => by simpa using hdb p hp)
          have hul : u2 < row.length := (List.getElem?_eq_some_iff.mp hlu.1).1
          walk_at "st"
          refine i_app N6.at_ (szlt (by simp [iL]; omega)) ?_
          walk_at "st"
          exact ⟨row.length - u2, by omega, S ++ [d], d, u2, false, ls, _, rfl, N6.app, by rw [upd_ne nld]; exact hD6, hT2, rfl⟩
        | false =>
          walk_at "st"
          refine i_maxL (SqL.of e6) hrl (fun d hd hdb => ?_)
          obtain ⟨u2, hlu, _⟩ := hTm d (List.mem_of_mem_drop hd)
          have hlt := (told_next hT.told hd hlu (fun p hp => by simpa using hdb p hp)).1
          have hT2 := Gen.next hT hd hlu (fun p hp => by simpa using hdb p hp)
          have hul : u2 < row.length := (List.getElem?_eq_some_iff.mp hlu.1).1
          walk_at "st"
          refine i_app N6.at_ (szlt (by simp [iL]; omega)) ?_
          walk_at "st"
          exact ⟨row.length - u2, by omega, S ++ [d], d, u2, true, ls, _, rfl, N6.app, by rw [upd_ne nld]; exact hD6, hT2, rfl⟩
      · subst g
        have et : t = row.length - 1 := by
          rcases Nat.lt_or_ge t (row.length - 1) with z | z
          · exact absurd hzl (hT.told.lt.2 _ z)
          · omega
        walk_at "st"
        exact k ls H5 ((std_is (row := row) (.inr ⟨_, t, b, hT, by omega⟩)) ▸ N)
    · walk_at "st"
      intro ls hls
      walk_at "st"
      refine ⟨StW H a l1 ld row kvs mn mx, ⟨_, [mx, mn], mn, tm, false, ls, none, (by rw [decide_eq_false g]; rfl), ⟨S4.free hls, S4.trans (same_upd hls), upd_same⟩, same_upd hls _ _ hD, tf2 (by omega), rfl⟩, ?_⟩
      clear hls tf1 tf2 hlm hlM hvm hvM S4 hA4 hD
      rintro n σ H5 ⟨S, c, t, b, ls, u, rfl, N, hD, hT, rfl⟩
      obtain ⟨ini, hini⟩ := hT.told.en
      obtain ⟨ini2, zl, hrow⟩ := getLast_split (xs := row) (by intro z; rw [z] at hrp; simp at hrp)
      have hA5 := N.sm _ _ hA
      have iS : ∀ {Q' : VK}, Q' (.int c) H5 → rIxP K (.ref ls) (.int (-1)) H5 Q' := fun q => i_ixLast (xs := iL ini) (v := .int c) (SqL.of (by rw [N.at_, hini]; simp [iL])) q
      have htl : t < row.length := (List.getElem?_eq_some_iff.mp hT.told.lt.1).1
      have hzl : row[row.length - 1]? = some zl := by rw [hrow]; simp
      walk_at "st"
      refine iS ?_
      walk_at "st"
      refine i_ixLast (xs := iL ini2) (v := .int zl) (SqL.of (by rw [hA5, hrow]; simp [iL])) ?_
      walk_at "st"
      refine i_ifn (fun g => ?_) (fun g => ?_)
      · have htl2 : t + 1 < row.length := by
          rcases Nat.lt_or_ge (t + 1) row.length with z | z
          · exact z
          · exfalso
            have e := hT.told.lt.1
            rw [show t = row.length - 1 by omega, hzl] at e
            exact g (Option.some.inj e).symm
        obtain ⟨t2, hl2, hv2⟩ := hTm c (List.mem_of_getElem? hT.told.lt.1)
        have et := hl2.uniq hT.told.lt
        subst et
        refine ⟨fun σ' H' => ∃ m', m' < row.length - t2 ∧ StW H a l1 ld row kvs mn mx m' σ' H', fun _ _ z => z, ?_⟩
        walk_at "st"
        refine iS ?_
        walk_at "st"
        refine ⟨ld, .int t2, rfl, by have q := DGet.k (k := (Sum.inl c : Key)) hD; rw [hv2] at q; exact q, ?_⟩
        walk_at "st"
        refine i_slFrom (SqL.of hA5) (by omega) (fun lr hlr => ?_)
        rw [show ((t2 : Int) + 1).toNat = t2 + 1 by omega]
        have s6 : Same H5 _ := same_upd (o := .lst (iL (row.drop (t2 + 1)))) hlr
        have e6 : upd H5 lr (.lst (iL (row.drop (t2 + 1)))) lr = some (.lst (iL (row.drop (t2 + 1)))) := upd_same
        have N6 := N.more s6
        have hD6 := s6 _ _ hD
        generalize upd H5 lr (.lst (iL (row.drop (t2 + 1)))) = H6 at *
        have hrl : 0 < (row.drop (t2 + 1)).length := by simp; omega
        have hSl := hT.told.len
        have nld : ld ≠ ls := ne_kind hD6 N6.at_ (by intro z; cases z)
        walk_at "st"
        refine ⟨.inl ⟨rfl, _, SqL.of N6.at_⟩, ?_⟩
        cases b with
        | true =>
          walk_at "st"
          refine i_minL (SqL.of e6) hrl (fun d hd hdb => ?_)
          obtain ⟨u2, hlu, _⟩ := hTm d (List.mem_of_mem_drop hd)
          have hlt := (told_next hT.told hd hlu (fun p hp => by simpa using hdb p hp)).1
          have hT2 := Gen.next hT hd hlu (fun p hp => by simpa using hdb p hp)
          have hul : u2 < row.length := (List.getElem?_eq_some_iff.mp hlu.1).1
          walk_at "st"
          refine i_app N6.at_ (szlt (by simp [iL]; omega)) ?_
          walk_at "st"
          exact ⟨row.length - u2, by omega, S ++ [d], d, u2, false, ls, _, rfl, N6.app, by rw [upd_ne nld]; exact hD6, hT2, rfl⟩
        | false =>
          walk_at "st"
          refine i_maxL (SqL.of e6) hrl (fun d hd hdb => ?_)
          obtain ⟨u2, hlu, _⟩ := hTm d (List.mem_of_mem_drop hd)
          have hlt := (told_next hT.told hd hlu (fun p hp => by simpa using hdb p hp)).1
          have hT2 := Gen.next hT hd hlu (fun p hp => by simpa using hdb p hp)
          have hul : u2 < row.length := (List.getElem?_eq_some_iff.mp hlu.1).1
          walk_at "st"
          refine i_app N6.at_ (szlt (by simp [iL]; omega)) ?_
          walk_at "st"
          exact ⟨row.length - u2, by omega, S ++ [d], d, u2, true, ls, _, rfl, N6.app, by rw [upd_ne nld]; exact hD6, hT2, rfl⟩
      · subst g
        have et : t = row.length - 1 := by
          rcases Nat.lt_or_ge t (row.length - 1) with z | z
          · exact absurd hzl (hT.told.lt.2 _ z)
          · omega
        walk_at "st"
        exact k ls H5 ((std_is (row := row) (.inr ⟨_, t, b, hT, by omega⟩)) ▸ N)

--SPLIT
def spLast (K : PySem.W.Frag) : Sp := fun vs H Q _ => ∃ (a : Addr) (row : List Int) (p : Int), vs = [.ref a, .int p] ∧ H a = some (.lst (iL row)) ∧ p ∈ row ∧ ∀ (t : Nat) H', LastT row p t → Same H H' → Q (.int t) H'
theorem ok_law_a_last (T : Txt mg) (D : Def K mg "_law_a_last" s_law_a_last) : Callee P w K mg base "_law_a_last" 1 (spLast K) := by
  refine D.ok sc_law_a_last bd_law_a_last (fun vs H Q E h => ?len) (fun f cdv A outer s H vs Q E hr h => ?body)
  case len => obtain ⟨a, row, p, rfl, _⟩ := h; rfl
  case body =>
    obtain ⟨a, row, p, rfl, hA, hp, k⟩ := h
    have hu := hr.units
    refine ⟨_, (pss_one (ps_ret (pe_op op_sub (pe_op op_sub (pe_callB (call_lenK K) (by rfl) T.z_len bt_len (pa_cons (pv 0) pa_nil)) pe_int) (pe_bmK K PySem.F.plainAttrs_list PySem.F.slot_list_index PySem.F.type_list_index mt_index (pe_revK K (pv 0) (po_some (pe_negK (r := -1) (by decide)))) (pa_cons (pv 1) pa_nil))))), ?_⟩
    dsimp only [tSeq, tAsg, gName, tOp, tUn, tTest, tB, tAnd, tOr, tNot, tAndV, tOrV, tNotV, tIf, tIfS, tRet, tRetN, tDrop, tNext, tCons, tNil, tCB, tCall, tMenu, tComp, tDComp, tDGet, iZip2, iEnum, tNoIf, tTru, tJoin, cxOf_K, tLst, tTup, tSl, tPart, tNoPart, tBM, tBM0, tChain, tC, tFor_eq, gTup, gCons, gNil, gSub, iList, iRng1, iRng2, iRng3, iTup, iZip3, tWhile, tRev, tRaise, tCallS, tTry, tAug, tPar, tNever, ipI, List.append_nil]
    walk_at "st"
    refine i_lenI (SqL.of hA) ?_
    walk_at "st"
    refine i_rev (SqL.of hA) (fun l hl => ?_)
    have s1 : Same H _ := same_upd (o := .lst (iL row.reverse)) hl
    have e1 : upd H l (.lst (iL row.reverse)) l = some (.lst (iL row.reverse)) := upd_same
    generalize upd H l (.lst (iL row.reverse)) = H1 at *
    walk_at "st"
    refine ⟨.inl ⟨rfl, _, SqL.of e1⟩, ?_⟩
    walk_at "st"
    refine i_index e1 (by simpa using hp) ?_
    walk_at "st"
    have hj : row.reverse.idxOf p < row.reverse.length := List.idxOf_lt_length_iff.mpr (by simpa using hp)
    rw [List.length_reverse] at hj
    have := k (row.length - 1 - row.reverse.idxOf p) H1 (last_rev hp) s1
    rw [show (((row.length - 1 - row.reverse.idxOf p : Nat)) : Int) = (row.length : Int) - 1 - (row.reverse.idxOf p : Nat) by omega] at this
    exact this

--SPLIT
def spLawStanding : Sp := fun vs H Q _ => ∃ (a : Addr) (row : List Int), vs = [.ref a] ∧ H a = some (.lst (iL row)) ∧ row.length ≤ 50000 ∧ ∀ l H', NewI H H' l (std row) → Q (.ref l) H'
def LwW (H : Hp) (a lm : Addr) (row : List Int) : Nat → St → Hp → Prop := fun n σ H3 => ∃ (S : List Int) (c : Int) (t : Nat) (b : Bool) (lf : Addr) (u v : Option V), σ = [some (.ref a), some (.ref lm), some (.ref lf), some (.int t), u, v] ∧ NewI H H3 lf S ∧ Gen row S c t b ∧ n = row.length - t
theorem ok_law_a_standing (T : Txt mg) (D : Def K mg "_law_a_standing" s_law_a_standing) (C_law_a_last : Callee P w K mg base "_law_a_last" 1 (spLast K)) : Callee P w K mg base "_law_a_standing" 2 spLawStanding := by
  refine D.ok sc_law_a_standing bd_law_a_standing (fun vs H Q E h => ?len) (fun f cdv A outer s H vs Q E hr h => ?body)
  case len => obtain ⟨a, row, rfl, _⟩ := h; rfl
  case body =>
    obtain ⟨a, row, rfl, hA, hl, k⟩ := h
    have hu := hr.units
    refine ⟨_, (pss_cons (ps_if (PW.pt (pw_or (pt_cmpR (op_eqK K hu) (pv 0) (pe_lst pa_nil) (nomark _)) (pw_or1 (pt_cmpR (op_eqK K hu) (pe_callB (call_maxK K) (by rfl) T.z_max bt_max (pa_cons (pv 0) pa_nil)) (pe_callB (call_minK K) (by rfl) T.z_min bt_min (pa_cons (pv 0) pa_nil)) (nomark _)))))
 (pss_one (ps_ret (pe_slice (sl_listK K) (pv 0) po_none (po_some pe_int))))
 pss_nil)
 (pss_cons (ps_set (i := 1) sc_law_a_standing.nd rfl (Or.inl rfl) (pe_callB (call_sortedTK K) (by rfl) T.z_sorted bt_sorted (pa_cons (pe_lst (pa_cons (pe_tup (pa_cons (pe_callN C_law_a_last (hr.mono (by decide)) (by rfl) (pa_cons (pv 0) (pa_cons (pe_callB (call_maxK K) (by rfl) T.z_max bt_max (pa_cons (pv 0) pa_nil)) pa_nil))) (pa_cons (pe_callB (call_maxK K) (by rfl) T.z_max bt_max (pa_cons (pv 0) pa_nil)) pa_nil))) (pa_cons (pe_tup (pa_cons (pe_callN C_law_a_last (hr.mono (by decide)) (by rfl) (pa_cons (pv 0) (pa_cons (pe_callB (call_minK K) (by rfl) T.z_min bt_min (pa_cons (pv 0) pa_nil)) pa_nil))) (pa_cons (pe_callB (call_minK K) (by rfl) T.z_min bt_min (pa_cons (pv 0) pa_nil)) pa_nil))) pa_nil))) pa_nil)))
 (pss_cons (ps_set (i := 2) sc_law_a_standing.nd rfl (Or.inl rfl) (pe_lst (pa_cons (pe_ix (ix_K K) (pe_ix (ix_K K) (pv 1) pe_int (by exact fun _ _ => rfl)) pe_int (by exact fun _ _ => rfl)) (pa_cons (pe_ix (ix_K K) (pe_ix (ix_K K) (pv 1) pe_int (by exact fun _ _ => rfl)) pe_int (by exact fun _ _ => rfl)) pa_nil))))
 (pss_cons (ps_set (i := 3) sc_law_a_standing.nd rfl (Or.inl rfl) (pe_ix (ix_K K) (pe_ix (ix_K K) (pv 1) pe_int (by exact fun _ _ => rfl)) pe_int (by exact fun _ _ => rfl)))
 (pss_cons (ps_while PassesOwn.never (pt_cmpR op_lt (pv 3) (pe_op op_sub (pe_callB (call_lenK K) (by rfl) T.z_len bt_len (pa_cons (pv 0) pa_nil)) pe_int) (nomark _))
 (pss_cons (ps_set (i := 4) sc_law_a_standing.nd rfl (Or.inl rfl) (pe_slice (sl_listK K) (pv 0) (po_some (pe_op op_addP (pv 3) pe_int)) po_none))
 (pss_cons (ps_set (i := 5) sc_law_a_standing.nd rfl (Or.inl rfl) (pe_callB (call_maxK K) (by rfl) T.z_max bt_max (pa_cons (pv 4) pa_nil)))
 (pss_join (ps_if (pt_cmpR op_gt (pe_ix (ix_K K) (pv 2) (pe_negK (r := -1) (by decide)) (by exact fun _ _ => rfl)) (pe_ix (ix_K K) (pv 2) (pe_negK (r := -2) (by decide)) (by exact fun _ _ => rfl)) (nomark _))
 (pss_one (ps_set (i := 5) sc_law_a_standing.nd rfl (Or.inl rfl) (pe_callB (call_minK K) (by rfl) T.z_min bt_min (pa_cons (pv 4) pa_nil))))
 pss_nil)
 (pss_cons (ps_expr (pe_bmK K PySem.F.plainAttrs_list PySem.F.slot_list_append PySem.F.type_list_append mt_append (pv 2) (pa_cons (pv 5) pa_nil)))
 (pss_one (ps_set (i := 3) sc_law_a_standing.nd rfl (Or.inl rfl) (pe_op op_addP (pe_op op_addP (pv 3) pe_int) (pe_callN C_law_a_last (hr.mono (by decide)) (by rfl) (pa_cons (pv 4) (pa_cons (pv 5) pa_nil)))))))))))
 (pss_one (ps_ret (pv 2)))))))), ?_⟩
    dsimp only [tSeq, tAsg, gName, tOp, tUn, tTest, tB, tAnd, tOr, tNot, tAndV, tOrV, tNotV, tIf, tIfS, tRet, tRetN, tDrop, tNext, tCons, tNil, tCB, tCall, tMenu, tComp, tDComp, tDGet, iZip2, iEnum, tNoIf, tTru, tJoin, cxOf_K, tLst, tTup, tSl, tPart, tNoPart, tBM, tBM0, tChain, tC, tFor_eq, gTup, gCons, gNil, gSub, iList, iRng1, iRng2, iRng3, iTup, iZip3, tWhile, tRev, tRaise, tCallS, tTry, tAug, tPar, tNever, ipI, List.append_nil]
    walk_at "st"
    intro l0 hl0
    have s0 : Same H _ := same_upd (o := .lst []) hl0
    have e0 : upd H l0 (.lst []) l0 = some (.lst (iL [])) := upd_same
    generalize upd H l0 (.lst []) = H0 at *
    have hA0 := s0 _ _ hA
    refine i_eqL (SqL.of hA0) (SqL.of e0) ?_
    walk_at "st"
    refine i_if (fun g => ?_) (fun g => ?_)
    · subst g
      walk_at "st"
      refine i_slTo (SqL.of hA0) (by decide) (fun l1 hl1 => ?_)
      exact k l1 _ ⟨s0.free hl1, s0.trans (same_upd hl1), by rw [← std_is (stands_flat (row := []) (m := 0) (by simp))]; exact upd_same⟩
    have hrp : 0 < row.length := List.length_pos_iff.mpr g
    walk_at "st"
    refine i_maxL (SqL.of hA0) hrp (fun mx hmx hmxb => ?_)
    walk_at "st"
    refine i_minL (SqL.of hA0) hrp (fun mn hmn hmnb => ?_)
    walk_at "st"
    refine i_if (fun g2 => ?_) (fun g2 => ?_)
    · walk_at "st"
      refine i_slTo (SqL.of hA0) (by decide) (fun l1 hl1 => ?_)
      refine k l1 _ ⟨s0.free hl1, s0.trans (same_upd hl1), ?_⟩
      rw [← std_is (stands_flat (row := row) (m := mx) (fun p hp => by have h1 := hmxb p hp; have h2 := hmnb p hp; omega))]
      exact upd_same
    walk_at "st"
    refine i_maxL (SqL.of hA0) hrp (fun mx1 hmx1 hmxb1 => ?_)
    have em : mx1 = mx := by have h1 := hmxb _ hmx1; have h2 := hmxb1 _ hmx; omega
    subst em
    clear hmx1 hmxb1
    walk_at "st"
    refine ⟨a, row, mx1, rfl, hA0, hmx, fun tM H1 lM s1 => ?_⟩
    have hA1 := s1 _ _ hA0
    walk_at "st"
    refine i_maxL (SqL.of hA1) hrp (fun mx2 hmx2 hmxb2 => ?_)
    have em : mx2 = mx1 := by have h1 := hmxb _ hmx2; have h2 := hmxb2 _ hmx; omega
    subst em
    clear hmx2 hmxb2
    walk_at "st"
    intro t1 ht1
    have s2 : Same H1 _ := same_upd (o := .tup [.int tM, .int mx2]) ht1
    have e2 : upd H1 t1 (.tup [.int tM, .int mx2]) t1 = some (.tup [.int tM, .int mx2]) := upd_same
    generalize upd H1 t1 (.tup [.int tM, .int mx2]) = H2 at *
    have hA2 := s2 _ _ hA1
    walk_at "st"
    refine i_minL (SqL.of hA2) hrp (fun mn1 hmn1 hmnb1 => ?_)
    have em : mn1 = mn := by have h1 := hmnb _ hmn1; have h2 := hmnb1 _ hmn; omega
    subst em
    clear hmn1 hmnb1
    walk_at "st"
    refine ⟨a, row, mn1, rfl, hA2, hmn, fun tm H3 lm s3 => ?_⟩
    have hA3 := s3 _ _ hA2
    walk_at "st"
    refine i_minL (SqL.of hA3) hrp (fun mn2 hmn2 hmnb2 => ?_)
    have em : mn2 = mn1 := by have h1 := hmnb _ hmn2; have h2 := hmnb2 _ hmn; omega
    subst em
    clear hmn2 hmnb2
    walk_at "st"
    intro t2 ht2
    have s4 : Same H3 _ := same_upd (o := .tup [.int tm, .int mn2]) ht2
    have e4 : upd H3 t2 (.tup [.int tm, .int mn2]) t2 = some (.tup [.int tm, .int mn2]) := upd_same
    generalize upd H3 t2 (.tup [.int tm, .int mn2]) = H4 at *
    walk_at "st"
    intro l5 hl5
    have s5 : Same H4 _ := same_upd (o := .lst [.ref t1, .ref t2]) hl5
    have e5 : upd H4 l5 (.lst [.ref t1, .ref t2]) l5 = some (.lst [.ref t1, .ref t2]) := upd_same
    generalize upd H4 l5 (.lst [.ref t1, .ref t2]) = H5 at *
    have f1 := s5 _ _ (s4 _ _ (s3 _ _ e2))
    have f2 := s5 _ _ e4
    have S5 : Same H H5 := s0.trans (s1.trans (s2.trans (s3.trans (s4.trans s5))))
    have hb : ∀ p ∈ row, mn2 ≤ p ∧ p ≤ mx2 := fun p hp => ⟨hmnb p hp, hmxb p hp⟩
    have hne : mn2 ≠ mx2 := fun z => g2 z.symm
    have htt : tm ≠ tM := fun z => by
      have e := lM.1
      rw [← z, lm.1] at e
      exact hne (Option.some.inj e)
    walk_at "st"
    refine ⟨l5, t1, t2, _, _, _, _, rfl, SqL.of e5, SqT.of f1, SqT.of f2, fun l6 hl6 => ?_⟩
    obtain ⟨m1, m2, x0, x1, t0, tt, b, hlist, g1, g3, hG⟩ : ∃ (m1 m2 : Addr) (x0 x1 : Int) (t0 tt : Nat) (b : Bool), (if (tm : Int) < tM ∨ ((tm : Int) = tM ∧ mn2 < mx2) then [V.ref t2, V.ref t1] else [V.ref t1, V.ref t2]) = [.ref m1, .ref m2] ∧ H5 m1 = some (.tup [.int t0, .int x0]) ∧ H5 m2 = some (.tup [.int tt, .int x1]) ∧ Gen row [x0, x1] x1 tt b := by
      by_cases z : tm < tM
      · exact ⟨t2, t1, mn2, mx2, tm, tM, true, by rw [if_pos (.inl (by omega))], f2, f1, Gen.up lm lM hb hne z⟩
      · exact ⟨t1, t2, mx2, mn2, tM, tm, false, by rw [if_neg (by omega)], f1, f2, Gen.down lm lM hb hne z⟩
    rw [hlist]
    have s6 : Same H5 _ := same_upd (o := .lst [.ref m1, .ref m2]) hl6
    have e6 : upd H5 l6 (.lst [.ref m1, .ref m2]) l6 = some (.lst [.ref m1, .ref m2]) := upd_same
    generalize upd H5 l6 (.lst [.ref m1, .ref m2]) = H6 at *
    have S6 := S5.trans s6
    replace g1 := s6 _ _ g1
    replace g3 := s6 _ _ g3
    clear hA0 hA1 hA2 hA3 e0 e2 e4 e5 f1 f2 s0 s1 s2 s3 s4 s5 s6 S5 hlist lm lM hmx hmn hmxb hmnb htt hb hne
    walk_at "st"
    refine i_ixN (SqL.of e6) (by decide) (v := .ref m1) rfl ?_
    walk_at "st"
    refine i_ixT (SqT.of g1) (by decide) (v := .int x0) rfl ?_
    walk_at "st"
    refine i_ixN (SqL.of e6) (by decide) (v := .ref m2) rfl ?_
    walk_at "st"
    refine i_ixT (SqT.of g3) (by decide) (v := .int x1) rfl ?_
    walk_at "st"
    intro lf hlf
    have s7 : Same H6 _ := same_upd (o := .lst [.int x0, .int x1]) hlf
    have N7 : NewI H (upd H6 lf (.lst [.int x0, .int x1])) lf [x0, x1] := ⟨S6.free hlf, S6.trans s7, upd_same⟩
    generalize upd H6 lf (.lst [.int x0, .int x1]) = H7 at *
    walk_at "st"
    refine i_ixN (SqL.of (s7 _ _ e6)) (by decide) (v := .ref m2) rfl ?_
    walk_at "st"
    refine i_ixT (SqT.of (s7 _ _ g3)) (by decide) (v := .int tt) rfl ?_
    walk_at "st"
    refine ⟨LwW H a l6 row, ⟨_, [x0, x1], x1, tt, b, lf, none, none, rfl, N7, hG, rfl⟩, ?_⟩
    clear hG N7 s7 g1 g3 e6 S6 hlf hl6 hl5 ht1 ht2 hl0
    rintro n σ H8 ⟨S, c, t, b, lf, u, v, rfl, N, hG, rfl⟩
    have hA8 := N.sm _ _ hA
    have hT := hG.told
    have htl : t < row.length := (List.getElem?_eq_some_iff.mp hT.lt.1).1
    have hSl := hT.len
    walk_at "st"
    refine i_lenI (SqL.of hA8) ?_
    walk_at "st"
    refine i_if (fun g => ?_) (fun g => ?_)
    · refine ⟨fun σ' H' => ∃ m', m' < row.length - t ∧ LwW H a l6 row m' σ' H', fun _ _ z => z, ?_⟩
      obtain ⟨ini, a0, hS, _, hbt, _⟩ := hG.nest
      walk_at "st"
      refine i_slFrom (SqL.of hA8) (by omega) (fun lr hlr => ?_)
      rw [show ((t : Int) + 1).toNat = t + 1 by omega]
      have s9 : Same H8 _ := same_upd (o := .lst (iL (row.drop (t + 1)))) hlr
      have e9 : upd H8 lr (.lst (iL (row.drop (t + 1)))) lr = some (.lst (iL (row.drop (t + 1)))) := upd_same
      have N9 := N.more s9
      generalize upd H8 lr (.lst (iL (row.drop (t + 1)))) = H9 at *
      have hrl : 0 < (row.drop (t + 1)).length := by simp; omega
      walk_at "st"
      refine i_maxL (SqL.of e9) hrl (fun dx hdx hdxb => ?_)
      walk_at "st"
      have lf1 : H9 lf = some (.lst (iL ini ++ [.int a0, .int c])) := by rw [N9.at_, hS]; simp [iL]
      refine ⟨fun σ' H' => ∃ d : Int, σ' = [some (.ref a), some (.ref l6), some (.ref lf), some (.int t), some (.ref lr), some (.int d)] ∧ H9 = H' ∧ d ∈ row.drop (t + 1) ∧ ∀ p ∈ row.drop (t + 1), if b then d ≤ p else p ≤ d, ?_, ?_⟩
      · walk_at "st"
        refine i_ixNeg (SqL.of lf1) (by decide) (by simp; omega) (v := .int c) (by rw [show (-1 + (((iL ini ++ [V.int a0, V.int c]).length : Nat) : Int)).toNat = ini.length + 1 by simp; omega]; simp [iL]) ?_
        walk_at "st"
        refine i_ixNeg (SqL.of lf1) (by decide) (by simp; omega) (v := .int a0) (by rw [show (-2 + (((iL ini ++ [V.int a0, V.int c]).length : Nat) : Int)).toNat = ini.length by simp; omega]; simp [iL]) ?_
        walk_at "st"
        refine i_if (fun z => ?_) (fun z => ?_)
        · walk_at "st"
          refine i_minL (SqL.of e9) hrl (fun dn hdn hdnb => ?_)
          walk_at "st"
          have hb : b = true := hbt.mpr (by omega)
          subst hb
          exact ⟨rfl, hdn, fun p hp => by simpa using hdnb p hp⟩
        · walk_at "st"
          have hb : b = false := by
            cases b with
            | false => rfl
            | true => exact absurd (hbt.mp rfl) (by omega)
          subst hb
          exact ⟨rfl, hdx, fun p hp => by simpa using hdxb p hp⟩
      rintro σ' H' ⟨d, rfl, rfl, hd, hdb⟩
      walk_at "st"
      refine ⟨.inl ⟨rfl, _, SqL.of N9.at_⟩, ?_⟩
      walk_at "st"
      refine i_app N9.at_ (szlt (by simp [iL]; omega)) ?_
      have nlr : lr ≠ lf := fun z => by rw [z, N.at_] at hlr; cases hlr
      have N10 := N9.app (x := d)
      have e10 : upd H9 lf (.lst (iL S ++ [V.int d])) lr = some (.lst (iL (row.drop (t + 1)))) := by rw [upd_ne nlr]; exact e9
      generalize upd H9 lf (.lst (iL S ++ [V.int d])) = H10 at *
      walk_at "st"
      refine ⟨lr, _, d, rfl, e10, hd, fun w H11 hw s11 => ?_⟩
      walk_at "st"
      have hlu : LastT row d (t + 1 + w) := by
        refine ⟨by rw [← List.getElem?_drop]; exact hw.1, fun j hj => ?_⟩
        have := hw.2 (j - (t + 1)) (by omega)
        rw [List.getElem?_drop, show t + 1 + (j - (t + 1)) = j by omega] at this
        exact this
      have ew : (t : Int) + 1 + w = ((t + 1 + w : Nat) : Int) := by omega
      rw [ew]
      exact ⟨row.length - (t + 1 + w), by omega, S ++ [d], d, t + 1 + w, !b, lf, _, _, rfl, N10.more s11, Gen.next hG hd hlu hdb, rfl⟩
    · walk_at "st"
      exact k lf H8 ((std_is (row := row) (.inr ⟨_, t, b, hG, by omega⟩)) ▸ N)

--SPLIT
def spPlacesOf : Sp := fun vs H Q _ => ∃ (cell many top : Int), vs = [.int cell, .int many, .int top] ∧ 0 ≤ many ∧ many ≤ 5000 ∧ 1 ≤ top ∧ top ≤ 16 ∧ ∀ l H' xs, NewI H H' l xs → (xs.length : Int) = many → (∀ x ∈ xs, 0 ≤ x ∧ x ≤ top) → Q (.ref l) H'
theorem ok_law_places_of (T : Txt mg) (D : Def K mg "_law_places_of" s_law_places_of) (C_law_draws : Callee P w K mg base "_law_draws" 1 spDraws) : Callee P w K mg base "_law_places_of" 2 spPlacesOf := by
  refine D.ok sc_law_places_of bd_law_places_of (fun vs H Q E h => ?len) (fun f cdv A outer s H vs Q E hr h => ?body)
  case len => obtain ⟨cell, many, top, rfl, _⟩ := h; rfl
  case body =>
    obtain ⟨cell, many, top, rfl, h0, h1, h2, h3, k⟩ := h
    refine ⟨_, (pss_cons (ps_set (i := 3) sc_law_places_of.nd rfl (Or.inl rfl) (pe_lst pa_nil))
 (pss_cons (ps_for PassesOwn.never rfl (pi_listK K (pe_callN C_law_draws (hr.mono (by decide)) (by rfl) (pa_cons (pv 0) (pa_cons (pv 1) (pa_cons (pe_powK (r := 1000000) (by decide)) pa_nil))))) (pg_name (i := 4) sc_law_places_of.nd rfl (Or.inl rfl))
 (pss_one (ps_expr (pe_bmK K PySem.F.plainAttrs_list PySem.F.slot_list_append PySem.F.type_list_append mt_append (pv 3) (pa_cons (pe_menu (pa_cons (pe_op op_mod (pe_op op_fdiv (pv 4) pe_int) (pe_op op_addP (pv 2) pe_int)) (pa_cons (pe_op op_mod (pe_op op_fdiv (pv 4) pe_int) (pe_op op_addP (pv 2) pe_int)) (pa_cons pe_int (pa_cons (pv 2) pa_nil)))) (pe_op op_mod (pv 4) pe_int) (by exact fun _ _ => rfl)) pa_nil)))))
 (pss_one (ps_ret (pv 3))))), ?_⟩
    dsimp only [tSeq, tAsg, gName, tOp, tUn, tTest, tB, tAnd, tOr, tNot, tAndV, tOrV, tNotV, tIf, tIfS, tRet, tRetN, tDrop, tNext, tCons, tNil, tCB, tCall, tMenu, tComp, tDComp, tDGet, iZip2, iEnum, tNoIf, tTru, tJoin, cxOf_K, tLst, tTup, tSl, tPart, tNoPart, tBM, tBM0, tChain, tC, tFor_eq, gTup, gCons, gNil, gSub, iList, iRng1, iRng2, iRng3, iTup, iZip3, tWhile, tRev, tRaise, tCallS, tTry, tAug, tPar, tNever, ipI, List.append_nil]
    walk_at "st"
    intro l hl
    walk_at "st"
    refine ⟨cell, many, 1000000, rfl, h0, h1, by decide, by decide, fun lq H2 pk N2 l2 b2 => ?_⟩
    have hlq : H lq = none := (same_upd hl).free N2.fr
    have hne : lq ≠ l := fun e => by have := N2.fr; rw [e, upd_same] at this; cases this
    walk_at "st"
    refine ⟨⟨_, SqL.of N2.at_⟩, lp_ints (ns := pk) (fun i σ H3 => ∃ (u : Option V) (xs : List Int), σ = [some (.int cell), some (.int many), some (.int top), some (.ref l), u] ∧ NewI H H3 l xs ∧ H3 lq = some (.lst (iL pk)) ∧ xs.length = i ∧ ∀ x ∈ xs, 0 ≤ x ∧ x ≤ top) ?_ ?_ ?_ ?_⟩
    · exact ⟨_, [], rfl, ⟨hl, (same_upd hl).trans N2.sm, N2.sm _ _ upd_same⟩, N2.at_, rfl, by simp⟩
    · rintro i σ H3 _ ⟨u, xs, rfl, N, hq, hx, hb⟩
      exact SqL.of hq
    · rintro i x σ H3 hxi ⟨u, xs, rfl, N, hq, hx, hb⟩
      have hil : i < pk.length := (List.getElem?_eq_some_iff.mp hxi).1
      walk_at "st"
      refine ⟨.inl ⟨rfl, _, SqL.of N.at_⟩, ?_⟩
      walk_at "st"
      have r1 := Int.emod_nonneg (x / 4) (show top + 1 ≠ 0 by omega)
      have r2 := Int.emod_lt_of_pos (x / 4) (show 0 < top + 1 by omega)
      refine i_menu4 (Int.emod_nonneg _ (by decide)) (Int.emod_lt_of_pos _ (by decide)) (fun z hz => ?_)
      have hz2 : 0 ≤ z ∧ z ≤ top := by omega
      walk_at "st"
      refine i_app N.at_ (szlt (by simp [iL]; omega)) ?_
      refine ⟨_, xs ++ [z], rfl, N.app, by rw [upd_ne hne]; exact hq, by simp; omega, fun y hy => ?_⟩
      rcases List.mem_append.mp hy with q | q
      · exact hb y q
      · simp at q; subst q; exact hz2
    · rintro σ H3 ⟨u, xs, rfl, N, hq, hx, hb⟩
      walk_at "st"
      exact k l H3 xs N (by omega) hb

def okTop (top : Int) : Prop := 1 ≤ top ∧ top ≤ 16
def spRefTopE (CB : Addr) : Sp := fun vs H Q E => ∃ top : Int, vs = [.int top] ∧ (okTop top → Q .non H) ∧ (¬ okTop top → E (.ref CB) none H)
theorem ok_refuse_no_top (T : Txt mg) (Z : Cls K mg) (D : Def K mg "refuse_no_top" s_refuse_no_top) : CalleeE P w K mg base "refuse_no_top" 1 (spRefTopE Z.c_NoBox) := by
  refine Def.okE D sc_refuse_no_top bd_refuse_no_top (fun vs H Q E h => ?len) (fun f cdv A outer s H vs Q E hr h => ?body)
  case len => obtain ⟨top, rfl, _⟩ := h; rfl
  case body =>
    obtain ⟨top, rfl, k1, k2⟩ := h
    refine ⟨_, (pss_one (ps_if (pt_not (pt_chain op_le op_le pe_int (pv 0) (pe_globI T.g_MOST_TOP (by rfl))))
 (pss_one (ps_raise Z.exc_NoBox PySem.F.excBase_ValueError (by rfl) (pa_cons pe_str pa_nil)))
 pss_nil)), ?_⟩
    dsimp only [tSeq, tAsg, gName, tOp, tUn, tTest, tB, tAnd, tOr, tNot, tAndV, tOrV, tNotV, tIf, tIfS, tRet, tRetN, tDrop, tNext, tCons, tNil, tCB, tCall, tMenu, tComp, tDComp, tDGet, iZip2, iEnum, tNoIf, tTru, tJoin, cxOf_K, tLst, tTup, tSl, tPart, tNoPart, tBM, tBM0, tChain, tC, tFor_eq, gTup, gCons, gNil, gSub, iList, iRng1, iRng2, iRng3, iTup, iZip3, tWhile, tRev, tRaise, tCallS, tTry, tAug, tPar, tNever, ipI, List.append_nil]
    walk_at "st"
    refine i_if (fun g1 => ?_) (fun g1 => ?_)
    · walk_at "st"
      refine i_ifn (fun g2 => ?_) (fun g2 => ?_)
      · walk_at "st"
        exact ⟨by simp, k2 fun z => g2 z.2⟩
      · walk_at "st"
        exact k1 ⟨g1, g2⟩
    · walk_at "st"
      exact ⟨by simp, k2 fun z => g1 z.1⟩
def spRefPlaceE (CP : Addr) : Sp := fun vs H Q E => ∃ top c : Int, vs = [.int top, .int c] ∧ (0 ≤ c ∧ c ≤ top → Q .non H) ∧ (¬ (0 ≤ c ∧ c ≤ top) → E (.ref CP) none H)
theorem ok_refuse_no_place (T : Txt mg) (Z : Cls K mg) (D : Def K mg "refuse_no_place" s_refuse_no_place) : CalleeE P w K mg base "refuse_no_place" 1 (spRefPlaceE Z.c_NoPlace) := by
  refine Def.okE D sc_refuse_no_place bd_refuse_no_place (fun vs H Q E h => ?len) (fun f cdv A outer s H vs Q E hr h => ?body)
  case len => obtain ⟨top, c, rfl, _⟩ := h; rfl
  case body =>
    obtain ⟨top, c, rfl, k1, k2⟩ := h
    refine ⟨_, (pss_one (ps_if (pt_not (pt_chain op_le op_le pe_int (pv 1) (pv 0)))
 (pss_one (ps_raise Z.exc_NoPlace PySem.F.excBase_ValueError (by rfl) (pa_cons pe_str pa_nil)))
 pss_nil)), ?_⟩
    dsimp only [tSeq, tAsg, gName, tOp, tUn, tTest, tB, tAnd, tOr, tNot, tAndV, tOrV, tNotV, tIf, tIfS, tRet, tRetN, tDrop, tNext, tCons, tNil, tCB, tCall, tMenu, tComp, tDComp, tDGet, iZip2, iEnum, tNoIf, tTru, tJoin, cxOf_K, tLst, tTup, tSl, tPart, tNoPart, tBM, tBM0, tChain, tC, tFor_eq, gTup, gCons, gNil, gSub, iList, iRng1, iRng2, iRng3, iTup, iZip3, tWhile, tRev, tRaise, tCallS, tTry, tAug, tPar, tNever, ipI, List.append_nil]
    walk_at "st"
    refine i_if (fun g1 => ?_) (fun g1 => ?_)
    · walk_at "st"
      refine i_ifn (fun g2 => ?_) (fun g2 => ?_)
      · walk_at "st"
        exact ⟨by simp, k2 fun z => g2 z.2⟩
      · walk_at "st"
        exact k1 ⟨g1, g2⟩
    · walk_at "st"
      exact ⟨by simp, k2 fun z => g1 z.1⟩
theorem cp_enum {g : TG} {ti : TT} {te : TE} {σc : St} {H : Hp} {Q : VK} {a : Addr} {xs : List V} (Pv : Nat → List V → Hp → Prop) (h0 : Pv 0 [] H) (hl : ∀ i zs H, Pv i zs H → SqL K H a xs ∧ zs.length ≤ i) (hx : xs.length < sizeLine)
    (hs : ∀ i x T zs H, xs[i]? = some x → Pv i zs H → H T = none → g (.ref T) σc (upd H T (.tup [.int i, x])) fun σ2 H2 => ti σ2 H2 fun b H3 => if b = true then te σ2 H3 fun y H4 => Pv (i + 1) (zs ++ [y]) H4 else Pv (i + 1) zs H3)
    (hd : ∀ l zs H, Pv xs.length zs H → H l = none → Q (.ref l) (upd H l (.lst zs))) : CompI (Ite K a) g ti te σc H Q := by
  refine ⟨fun i m zs H => m = xs.length - i ∧ i ≤ xs.length ∧ Pv i zs H, ⟨_, rfl, Nat.zero_le _, h0⟩, ?_⟩
  rintro i m zs H ⟨rfl, hi, p⟩
  obtain ⟨q1, hy⟩ := hl i zs H p
  refine ⟨by omega, ?_⟩
  by_cases hlt : i < xs.length
  · refine .inr ⟨⟨xs, xs[i], q1, by simp [hlt]⟩, Pv (i + 1), fun σ' H' p' => ⟨_, by omega, rfl, hlt, p'⟩, fun x H' y => ?_⟩
    obtain ⟨T, x1, rfl, hT, rfl, ex⟩ := y
    exact hs i x1 T zs H (ex xs q1) p hT
  · have e : i = xs.length := by omega
    exact .inl ⟨⟨xs, q1, by omega⟩, fun l hl => hd l zs H (by rw [← e]; exact p) hl⟩
def spLeft : Sp := fun vs H Q _ => ∃ (a : Addr) (row : List Int), vs = [.ref a] ∧ H a = some (.lst (iL row)) ∧ row.length ≤ 40000 ∧ ∀ l H', NewI H H' l (left row) → Q (.ref l) H'
theorem ok_left_of (T : Txt mg) (D : Def K mg "left_of" s_left_of) (C_standing_of : Callee P w K mg base "standing_of" 3 spStanding) : Callee P w K mg base "left_of" 4 spLeft := by
  refine D.ok sc_left_of bd_left_of (fun vs H Q E h => ?len) (fun f cdv A outer s H vs Q E hr h => ?body)
  case len => obtain ⟨a, row, rfl, _⟩ := h; rfl
  case body =>
    obtain ⟨a, row, rfl, hA, hl, k⟩ := h
    have hu := hr.units
    refine ⟨_, (pss_cons (ps_set (i := 1) sc_left_of.nd rfl (Or.inl rfl) (pe_op op_addP (pe_lst (pa_cons pe_int pa_nil)) (pv 0)))
 (pss_cons (ps_set (i := 2) sc_left_of.nd rfl (Or.inl rfl) (pe_callB (call_maxK K) (by rfl) T.z_max bt_max (pa_cons (by exact pe_comp (N := ["when", "place"]) (fr := [none, none]) ⟨by rfl, by decide +kernel, by decide +kernel, (show ∀ y ∈ (_ : List (Str × NameKind)), y.2 = NameKind.free → (defScope s_left_of).names.lookup y.1 = some .cell ∨ (defScope s_left_of).names.lookup y.1 = some .free by decide +kernel), (fr_none (fr_none fr_nil))⟩ (by rfl) (pi_enumerate1K K (by rfl) T.z_enumerate (pa_cons (pv 1) pa_nil)) (fun _ _ _ _ => (pg_tupK K 2 (pgs_cons (pg_name (i := 0) (show List.Nodup (["when", "place"] : List Str) by decide) (by rfl) (by exact Or.inl rfl)) (pgs_cons (pg_name (i := 1) (show List.Nodup (["when", "place"] : List Str) by decide) (by rfl) (by exact Or.inl rfl)) pgs_nil)))) (fun _ _ _ _ => (pifs_one (pt_cmpR (op_eqK K hu) (pv 1) pe_int (nomark _)))) (fun _ _ _ _ => (pv 0)) (gw_tup (gws_cons (gw_name (by rfl)) (gws_cons (gw_name (by rfl)) gws_nil)))) pa_nil)))
 (pss_one (ps_ret (pe_callN C_standing_of (hr.mono (by decide)) (by rfl) (pa_cons (pe_slice (sl_listK K) (pv 1) (po_some (pv 2)) po_none) pa_nil)))))), ?_⟩
    dsimp only [tSeq, tAsg, gName, tOp, tUn, tTest, tB, tAnd, tOr, tNot, tAndV, tOrV, tNotV, tIf, tIfS, tRet, tRetN, tDrop, tNext, tCons, tNil, tCB, tCall, tMenu, tComp, tDComp, tDGet, iZip2, iEnum, tNoIf, tTru, tJoin, cxOf_K, tLst, tTup, tSl, tPart, tNoPart, tBM, tBM0, tChain, tC, tFor_eq, gTup, gCons, gNil, gSub, iList, iRng1, iRng2, iRng3, iTup, iZip3, tWhile, tRev, tRaise, tCallS, tTry, tAug, tPar, tNever, ipI, List.append_nil]
    walk_at "st"
    intro g1 h1
    walk_at "st"
    refine i_addL (a := g1) (b := a) (xs := [.int 0]) (ys := iL row) upd_same (same_upd h1 _ _ hA) (szl (by simp [iL]; omega)) (fun lp hlp => ?_)
    have s1 : Same H _ := (same_upd (o := .lst [.int 0]) h1).trans (same_upd (o := .lst ([.int 0] ++ iL row)) hlp)
    have e1 : upd (upd H g1 (.lst [.int 0])) lp (.lst ([.int 0] ++ iL row)) lp = some (.lst (iL (0 :: row))) := by rw [upd_same]; rfl
    generalize upd (upd H g1 (.lst [.int 0])) lp (.lst ([.int 0] ++ iL row)) = H1 at *
    walk_at "st"
    refine ⟨⟨_, e1⟩, cp_enum (xs := iL (0 :: row)) (fun i ys H2 => ∃ js : List Int, ys = iL js ∧ js.length ≤ i ∧ (∀ x, x ∈ js ↔ ∃ j : Nat, x = j ∧ j < i ∧ (0 :: row)[j]? = some 0) ∧ Same H1 H2) ⟨[], rfl, by simp, by simp, Same.refl _⟩ ?_ (szlt (by simp [iL]; omega)) ?_ ?_⟩
    · rintro i ys H2 ⟨js, rfl, hj, _, sm⟩
      exact ⟨SqL.of (sm _ _ e1), by simpa [iL] using hj⟩
    · rintro i x t ys H2 hx ⟨js, rfl, hj, hm, sm⟩ ht
      rw [List.getElem?_map] at hx
      obtain ⟨z, hz, rfl⟩ := Option.map_eq_some_iff.mp hx
      walk_at "st"
      refine ⟨_, _, rfl, SqT.of upd_same, rfl, _, _, rfl, _, _, rfl, rfl, ?_⟩
      walk_at "st"
      refine i_if (fun g => ?_) (fun g => ?_)
      · subst g
        walk_at "st"
        refine ⟨js ++ [(i : Int)], by simp [iL], by simp; omega, fun x => ⟨fun hx => ?_, fun ⟨j, e, hj1, hj2⟩ => ?_⟩, sm.trans (same_upd ht)⟩
        · rcases List.mem_append.mp hx with y | y
          · obtain ⟨j, e, a1, a2⟩ := (hm x).mp y
            exact ⟨j, e, by omega, a2⟩
          · simp at y
            exact ⟨i, y, by omega, hz⟩
        · by_cases q : j < i
          · exact List.mem_append_left _ ((hm x).mpr ⟨j, e, q, hj2⟩)
          · have : j = i := by omega
            subst this
            rw [e]; simp
      · walk_at "st"
        refine ⟨by omega, fun x => ⟨fun hx => ?_, fun ⟨j, e, hj1, hj2⟩ => ?_⟩, sm.trans (same_upd ht)⟩
        · obtain ⟨j, e, a1, a2⟩ := (hm x).mp hx
          exact ⟨j, e, by omega, a2⟩
        · by_cases q : j < i
          · exact (hm x).mpr ⟨j, e, q, hj2⟩
          · exfalso
            have : j = i := by omega
            subst this
            rw [hz] at hj2
            exact g (Option.some.inj hj2)
    rintro lj ys H2 ⟨js, rfl, hj, hm, sm⟩ hlj
    have e2 : upd H2 lj (.lst (iL js)) lj = some (.lst (iL js)) := upd_same
    have s2 : Same H1 _ := sm.trans (same_upd (o := .lst (iL js)) hlj)
    generalize upd H2 lj (.lst (iL js)) = H3 at *
    have hne : 0 < js.length := by
      refine List.length_pos_of_mem ((hm 0).mpr ⟨0, rfl, by simp [iL], rfl⟩)
    walk_at "st"
    refine i_maxL (SqL.of e2) hne (fun mx hmx hmxb => ?_)
    obtain ⟨t, rfl, ht1, ht2⟩ := (hm mx).mp hmx
    have hlast : LastT (0 :: row) 0 t := ⟨ht2, fun j hj e => by
      have := hmxb j ((hm j).mpr ⟨j, rfl, by simpa [iL] using (List.getElem?_eq_some_iff.mp e).1, e⟩)
      omega⟩
    walk_at "st"
    refine i_slFrom (SqL.of (s2 _ _ e1)) (by omega) (fun lr hlr => ?_)
    rw [show ((t : Nat) : Int).toNat = t by omega]
    have s3 : Same H _ := (s1.trans s2).trans (same_upd (o := .lst (iL ((0 :: row).drop t))) hlr)
    have e3 : upd H3 lr (.lst (iL ((0 :: row).drop t))) lr = some (.lst (iL ((0 :: row).drop t))) := upd_same
    generalize upd H3 lr (.lst (iL ((0 :: row).drop t))) = H4 at *
    walk_at "st"
    refine ⟨lr, _, rfl, e3, by rw [List.length_drop]; simp; omega, fun l H5 N5 => ?_⟩
    rw [left_of_last hlast] at N5
    exact k l H5 ⟨s3.free N5.fr, s3.trans N5.sm, N5.at_⟩
--SPLIT
def spAlikeE (CB CP : Addr) : Sp := fun vs H Q E => ∃ (a b : Addr) (r1 r2 : List Int) (top : Int), vs = [.int top, .ref a, .ref b] ∧ H a = some (.lst (iL r1)) ∧ H b = some (.lst (iL r2)) ∧ r1.length ≤ 20000 ∧ r2.length ≤ 20000 ∧
  (okTop top → (∀ p ∈ r1 ++ r2, 0 ≤ p ∧ p ≤ top) → ∀ H', Same H H' → Q (.bl (decide (left r1 = left r2))) H') ∧ (¬ okTop top → ∀ H', Same H H' → E (.ref CB) none H') ∧ (okTop top → ¬ (∀ p ∈ r1 ++ r2, 0 ≤ p ∧ p ≤ top) → ∀ H', Same H H' → E (.ref CP) none H')
theorem ok_alike_rows (T : Txt mg) (Z : Cls K mg) (D : Def K mg "alike_rows" s_alike_rows) (C_refuse_no_top : CalleeE P w K mg base "refuse_no_top" 1 (spRefTopE Z.c_NoBox)) (C_refuse_no_place : CalleeE P w K mg base "refuse_no_place" 1 (spRefPlaceE Z.c_NoPlace)) (C_left_of : Callee P w K mg base "left_of" 4 spLeft) : CalleeE P w K mg base "alike_rows" 5 (spAlikeE Z.c_NoBox Z.c_NoPlace) := by
  refine Def.okE D sc_alike_rows bd_alike_rows (fun vs H Q E h => ?len) (fun f cdv A outer s H vs Q E hr h => ?body)
  case len => obtain ⟨a, b, r1, r2, top, rfl, _⟩ := h; rfl
  case body =>
    obtain ⟨a, b, r1, r2, top, rfl, hA, hB, hl1, hl2, k, kb, kp⟩ := h
    have hu := hr.units
    refine ⟨_, (pss_cons (ps_expr (pe_callE C_refuse_no_top (hr.mono (by decide)) (by rfl) (pa_cons (pv 0) pa_nil)))
 (pss_cons (ps_for PassesOwn.leaving rfl (pi_listK K (pe_op op_addP (pv 1) (pv 2))) (pg_name (i := 3) sc_alike_rows.nd rfl (Or.inl rfl))
 (pss_one (ps_expr (pe_callE C_refuse_no_place (hr.mono (by decide)) (by rfl) (pa_cons (pv 0) (pa_cons (pv 3) pa_nil))))))
 (pss_one (ps_ret (pe_cmpR (op_eqK K hu) (pe_callN C_left_of (hr.mono (by decide)) (by rfl) (pa_cons (pv 1) pa_nil)) (pe_callN C_left_of (hr.mono (by decide)) (by rfl) (pa_cons (pv 2) pa_nil)) (nomark _)))))), ?_⟩
    dsimp only [tSeq, tAsg, gName, tOp, tUn, tTest, tB, tAnd, tOr, tNot, tAndV, tOrV, tNotV, tIf, tIfS, tRet, tRetN, tDrop, tNext, tCons, tNil, tCB, tCall, tMenu, tComp, tDComp, tDGet, iZip2, iEnum, tNoIf, tTru, tJoin, cxOf_K, tLst, tTup, tSl, tPart, tNoPart, tBM, tBM0, tChain, tC, tFor_eq, gTup, gCons, gNil, gSub, iList, iRng1, iRng2, iRng3, iTup, iZip3, tWhile, tRev, tRaise, tCallS, tTry, tAug, tPar, tNever, ipI, List.append_nil]
    walk_at "st"
    refine ⟨top, rfl, fun hT => ?_, fun hn => kb hn _ (Same.refl _)⟩
    walk_at "st"
    refine i_addL (a := a) (b := b) hA hB (szl (by simp [iL]; omega)) (fun l1 h1 => ?_)
    have s1 : Same H _ := same_upd (o := .lst (iL r1 ++ iL r2)) h1
    have e1 : upd H l1 (.lst (iL r1 ++ iL r2)) l1 = some (.lst (iL (r1 ++ r2))) := by rw [upd_same]; simp [iL]
    generalize upd H l1 (.lst (iL r1 ++ iL r2)) = H1 at *
    walk_at "st"
    refine ⟨⟨_, SqL.of e1⟩, lp_ints (ns := r1 ++ r2) (fun i σ H2 => ∃ u : Option V, σ = [some (.int top), some (.ref a), some (.ref b), u] ∧ H1 = H2 ∧ ∀ p ∈ (r1 ++ r2).take i, 0 ≤ p ∧ p ≤ top) ?_ ?_ ?_ ?_⟩
    · exact ⟨_, rfl, rfl, by simp⟩
    · rintro i σ H2 _ ⟨u, rfl, rfl, _⟩
      exact SqL.of e1
    · rintro i x σ H2 hx ⟨u, rfl, rfl, hp⟩
      walk_at "st"
      refine ⟨top, x, rfl, fun hx2 => ?_, fun hn => kp hT (fun z => hn (z x (List.mem_of_getElem? hx))) _ s1⟩
      walk_at "st"
      refine ⟨rfl, fun p hp2 => ?_⟩
      rw [take_snoc_get hx] at hp2
      rcases List.mem_append.mp hp2 with z | z
      · exact hp p z
      · simp at z; subst z; exact hx2
    rintro σ H2 ⟨u, rfl, rfl, hp⟩
    rw [List.take_of_length_le (Nat.le_refl _)] at hp
    walk_at "st"
    refine ⟨a, r1, rfl, s1 _ _ hA, by omega, fun g1 H3 N3 => ?_⟩
    walk_at "st"
    refine ⟨b, r2, rfl, N3.sm _ _ (s1 _ _ hB), by omega, fun g2 H4 N4 => ?_⟩
    walk_at "st"
    refine i_eqL (SqL.of (N4.sm _ _ N3.at_)) (SqL.of N4.at_) ?_
    exact k hT hp H4 (s1.trans (N3.sm.trans N4.sm))
--SPLIT
theorem kin_B (Z : Cls K mg) : KinF Z Z.c_NoBox false false false true false false false false false false false false := ⟨Z.isi_NoBox, Z.k_NoBox_NoTrain, Z.k_NoBox_NoStand, Z.k_NoBox_NoPaper, Z.k_NoBox_NoBox, Z.k_NoBox_NoSwitch, Z.k_NoBox_NoPlace, Z.k_NoBox_NoTable, Z.k_NoBox_NoText, Z.k_NoBox_NoRow, Z.k_NoBox_NoPiece, Z.k_NoBox_NothingLeft, Z.k_NoBox_TooMany, Z.k_NoBox_ValueError⟩
theorem kin_L (Z : Cls K mg) : KinF Z Z.c_NoPlace false false false false false true false false false false false false := ⟨Z.isi_NoPlace, Z.k_NoPlace_NoTrain, Z.k_NoPlace_NoStand, Z.k_NoPlace_NoPaper, Z.k_NoPlace_NoBox, Z.k_NoPlace_NoSwitch, Z.k_NoPlace_NoPlace, Z.k_NoPlace_NoTable, Z.k_NoPlace_NoText, Z.k_NoPlace_NoRow, Z.k_NoPlace_NoPiece, Z.k_NoPlace_NothingLeft, Z.k_NoPlace_TooMany, Z.k_NoPlace_ValueError⟩
theorem due_B : dueX "NoBox" = [false, false, false, true, false, false, false, false, false, false, false, false, true] := by decide +kernel
theorem due_L : dueX "NoPlace" = [false, false, false, false, false, true, false, false, false, false, false, false, true] := by decide +kernel
def spTold : Sp := fun vs H Q _ => ∃ (a b : Addr) (r1 r2 : List Int) (top : Int), vs = [.int top, .ref a, .ref b] ∧ H a = some (.lst (iL r1)) ∧ H b = some (.lst (iL r2)) ∧ r1.length ≤ 20000 ∧ r2.length ≤ 20000 ∧
  ∀ t v lk bs H', Same H H' → H' t = some (.tup [v, .ref lk]) → H' lk = some (.lst (bL bs)) → (okTop top → (∀ p ∈ r1 ++ r2, 0 ≤ p ∧ p ≤ top) → v = .bl (decide (left r1 = left r2)) ∧ bs = []) → (¬ okTop top → bs = dueX "NoBox") → (okTop top → ¬ (∀ p ∈ r1 ++ r2, 0 ≤ p ∧ p ≤ top) → bs = dueX "NoPlace") → Q (.ref t) H'
theorem ok_law_told (T : Txt mg) (Z : Cls K mg) (D : Def K mg "_law_told" s_law_told) (C_alike_rows : CalleeE P w K mg base "alike_rows" 5 (spAlikeE Z.c_NoBox Z.c_NoPlace)) (C_law_a_kin : CalleeN P w K mg base "_law_a_kin" 1 (spKinG Z)) : Callee P w K mg base "_law_told" 6 spTold := by
  refine D.ok sc_law_told bd_law_told (fun vs H Q E h => ?len) (fun f cdv A outer s H vs Q E hr h => ?body)
  case len => obtain ⟨a, b, r1, r2, top, rfl, _⟩ := h; rfl
  case body =>
    obtain ⟨a, b, r1, r2, top, rfl, hA, hB, hl1, hl2, k⟩ := h
    have hu := hr.units
    refine ⟨_, (pss_cons (ps_set (i := 3) sc_law_told.nd rfl (Or.inl rfl) pe_non)
 (pss_cons (ps_set (i := 4) sc_law_told.nd rfl (Or.inl rfl) (pe_lst pa_nil))
 (pss_join (ps_try (TC := Z.c_TrainError) (j := 5) rfl rfl rfl Z.m_TrainError (by rfl) sc_law_told.nd rfl rfl rfl (fun pins ξ Ex hp => (pss_one (ps_set (i := 3) sc_law_told.nd rfl (Or.inl rfl) (pe_callS C_alike_rows (hr.mono (by decide)) (by rfl) hp (pa_cons (pv 0) (pa_cons (pv 1) (pa_cons (pv 2) pa_nil))))))) (fun pins e => (pss_one (ps_set (i := 4) sc_law_told.nd rfl (Or.inl rfl) (pe_callC C_law_a_kin ((hr.mono (by decide)).noted _) (by rfl) (pa_cons (pv 5) pa_nil))))))
 (pss_one (ps_ret (pe_tup (pa_cons (pv 3) (pa_cons (pv 4) pa_nil)))))))), ?_⟩
    dsimp only [tSeq, tAsg, gName, tOp, tUn, tTest, tB, tAnd, tOr, tNot, tAndV, tOrV, tNotV, tIf, tIfS, tRet, tRetN, tDrop, tNext, tCons, tNil, tCB, tCall, tMenu, tComp, tDComp, tDGet, iZip2, iEnum, tNoIf, tTru, tJoin, cxOf_K, tLst, tTup, tSl, tPart, tNoPart, tBM, tBM0, tChain, tC, tFor_eq, gTup, gCons, gNil, gSub, iList, iRng1, iRng2, iRng3, iTup, iZip3, tWhile, tRev, tRaise, tCallS, tTry, tAug, tPar, tNever, ipI, List.append_nil]
    walk_at "st"
    intro l1 h1
    have s1 : Same H _ := same_upd (o := .lst []) h1
    have e1 : upd H l1 (.lst []) l1 = some (.lst []) := upd_same
    generalize upd H l1 (.lst []) = H1 at *
    walk_at "st"
    refine ⟨fun σ H8 => ∃ (v : V) (lk : Addr) (bs : List Bool) (u : Option V), σ = [some (.int top), some (.ref a), some (.ref b), some v, some (.ref lk), u] ∧ Same H H8 ∧ H8 lk = some (.lst (bL bs)) ∧ (okTop top → (∀ p ∈ r1 ++ r2, 0 ≤ p ∧ p ≤ top) → v = .bl (decide (left r1 = left r2)) ∧ bs = []) ∧ (¬ okTop top → bs = dueX "NoBox") ∧ (okTop top → ¬ (∀ p ∈ r1 ++ r2, 0 ≤ p ∧ p ≤ top) → bs = dueX "NoPlace"), ?_, ?_⟩
    · walk_at "st"
      refine ⟨a, b, r1, r2, top, rfl, s1 _ _ hA, s1 _ _ hB, hl1, hl2, fun hT hp H8 s8 => ?_, fun hn H8 s8 => ?_, fun hT hn H8 s8 => ?_⟩
      · walk_at "st"
        exact ⟨_, l1, [], _, rfl, s1.trans s8, s8 _ _ e1, fun _ _ => ⟨rfl, rfl⟩, fun z => absurd hT z, fun _ z => absurd hp z⟩
      · refine ⟨Z.e_NoBox, fun e he => ?_⟩
        walk_at "st"
        refine ⟨e, _, _, _, _, _, _, _, _, _, _, _, _, _, rfl, upd_same, kin_B Z, fun lk H9 s9 hk => ?_⟩
        exact ⟨_, lk, _, _, rfl, (s1.trans s8).trans ((same_upd he).trans s9), hk, fun z => absurd z hn, fun _ => due_B.symm, fun z => absurd z hn⟩
      · refine ⟨Z.e_NoPlace, fun e he => ?_⟩
        walk_at "st"
        refine ⟨e, _, _, _, _, _, _, _, _, _, _, _, _, _, rfl, upd_same, kin_L Z, fun lk H9 s9 hk => ?_⟩
        exact ⟨_, lk, _, _, rfl, (s1.trans s8).trans ((same_upd he).trans s9), hk, fun _ z => absurd z hn, fun z => absurd hT z, fun _ _ => due_L.symm⟩
    rintro σ H8 ⟨v, lk, bs, u, rfl, s8, hk, q1, q2, q3⟩
    walk_at "st"
    intro t ht
    exact k t v lk bs _ (s8.trans (same_upd ht)) upd_same (same_upd ht _ _ hk) q1 q2 q3
def spAOn : Sp := fun vs H Q _ => ∃ (a : Addr) (row : List Int) (lo hi : Int), vs = [.int lo, .int hi, .ref a] ∧ H a = some (.lst (iL row)) ∧ lo < hi ∧ Q (.bl (fo (swf lo hi) false row)) H
theorem ok_law_a_on (T : Txt mg) (D : Def K mg "_law_a_on" s_law_a_on) : Callee P w K mg base "_law_a_on" 1 spAOn := by
  refine D.ok sc_law_a_on bd_law_a_on (fun vs H Q E h => ?len) (fun f cdv A outer s H vs Q E hr h => ?body)
  case len => obtain ⟨a, row, lo, hi, rfl, _⟩ := h; rfl
  case body =>
    obtain ⟨a, row, lo, hi, rfl, hA, hlt, k⟩ := h
    have hu := hr.units
    refine ⟨_, (pss_cons (ps_set (i := 3) sc_law_a_on.nd rfl (Or.inl rfl) pe_bl)
 (pss_cons (ps_for PassesOwn.never rfl (pi_listK K (pv 2)) (pg_name (i := 4) sc_law_a_on.nd rfl (Or.inl rfl))
 (pss_join (ps_if (pt_cmpR op_ge (pv 4) (pv 1) (nomark _))
 (pss_one (ps_set (i := 3) sc_law_a_on.nd rfl (Or.inl rfl) pe_bl))
 pss_nil)
 (pss_one (ps_if (pt_cmpR op_le (pv 4) (pv 0) (nomark _))
 (pss_one (ps_set (i := 3) sc_law_a_on.nd rfl (Or.inl rfl) pe_bl))
 pss_nil))))
 (pss_one (ps_ret (pv 3))))), ?_⟩
    dsimp only [tSeq, tAsg, gName, tOp, tUn, tTest, tB, tAnd, tOr, tNot, tAndV, tOrV, tNotV, tIf, tIfS, tRet, tRetN, tDrop, tNext, tCons, tNil, tCB, tCall, tMenu, tComp, tDComp, tDGet, iZip2, iEnum, tNoIf, tTru, tJoin, cxOf_K, tLst, tTup, tSl, tPart, tNoPart, tBM, tBM0, tChain, tC, tFor_eq, gTup, gCons, gNil, gSub, iList, iRng1, iRng2, iRng3, iTup, iZip3, tWhile, tRev, tRaise, tCallS, tTry, tAug, tPar, tNever, ipI, List.append_nil]
    walk_at "st"
    refine ⟨⟨_, SqL.of hA⟩, lp_ints (ns := row) (fun i σ H2 => ∃ u : Option V, σ = [some (.int lo), some (.int hi), some (.ref a), some (.bl (fo (swf lo hi) false (row.take i))), u] ∧ H = H2) ?_ ?_ ?_ ?_⟩
    · exact ⟨_, rfl, rfl⟩
    · rintro i σ H2 _ ⟨u, rfl, rfl⟩
      exact SqL.of hA
    · rintro i x σ H2 hx ⟨u, rfl, rfl⟩
      have e : fo (swf lo hi) false (row.take (i + 1)) = swf lo hi x (fo (swf lo hi) false (row.take i)) := by rw [take_snoc_get hx, fo_app]; rfl
      rw [e]
      generalize fo (swf lo hi) false (row.take i) = b at *
      walk_at "st"
      refine ⟨fun σ H2 => σ = [some (.int lo), some (.int hi), some (.ref a), some (.bl (if hi ≤ x then true else b)), some (.int x)] ∧ H = H2, ?_, ?_⟩
      · walk_at "st"
        refine i_if (fun g => ?_) (fun g => ?_)
        · walk_at "st"
          exact ⟨by rw [if_pos g]; rfl, rfl⟩
        · walk_at "st"
          exact ⟨by rw [if_neg (by omega)]; rfl, rfl⟩
      rintro σ H2 ⟨rfl, rfl⟩
      walk_at "st"
      refine i_if (fun g => ?_) (fun g => ?_)
      · walk_at "st"
        exact ⟨_, by rw [swf_off (by omega) g]; rfl, rfl⟩
      · walk_at "st"
        refine ⟨some (.int x), ?_, rfl⟩
        unfold swf
        by_cases q : hi ≤ x
        · rw [if_pos q, if_pos q]
        · rw [if_neg q, if_neg q, if_neg g]
    rintro σ H2 ⟨u, rfl, rfl⟩
    rw [List.take_of_length_le (Nat.le_refl _)]
    walk_at "st"
    exact k
def spARest : Sp := fun vs H Q _ => ∃ (a : Addr) (row : List Int), vs = [.ref a] ∧ H a = some (.lst (iL row)) ∧ row.length ≤ 40000 ∧ ∀ l H', NewI H H' l (left row) → Q (.ref l) H'
theorem ok_law_a_rest (T : Txt mg) (D : Def K mg "_law_a_rest" s_law_a_rest) (C_law_a_standing : Callee P w K mg base "_law_a_standing" 2 spLawStanding) (C_law_a_last : Callee P w K mg base "_law_a_last" 1 (spLast K)) : Callee P w K mg base "_law_a_rest" 3 spARest := by
  refine D.ok sc_law_a_rest bd_law_a_rest (fun vs H Q E h => ?len) (fun f cdv A outer s H vs Q E hr h => ?body)
  case len => obtain ⟨a, row, rfl, _⟩ := h; rfl
  case body =>
    obtain ⟨a, row, rfl, hA, hl, k⟩ := h
    have hu := hr.units
    refine ⟨_, (pss_cons (ps_set (i := 0) sc_law_a_rest.nd rfl (Or.inl rfl) (pe_op op_addP (pe_lst (pa_cons pe_int pa_nil)) (pv 0)))
 (pss_one (ps_ret (pe_callN C_law_a_standing (hr.mono (by decide)) (by rfl) (pa_cons (pe_slice (sl_listK K) (pv 0) (po_some (pe_callN C_law_a_last (hr.mono (by decide)) (by rfl) (pa_cons (pv 0) (pa_cons pe_int pa_nil)))) po_none) pa_nil))))), ?_⟩
    dsimp only [tSeq, tAsg, gName, tOp, tUn, tTest, tB, tAnd, tOr, tNot, tAndV, tOrV, tNotV, tIf, tIfS, tRet, tRetN, tDrop, tNext, tCons, tNil, tCB, tCall, tMenu, tComp, tDComp, tDGet, iZip2, iEnum, tNoIf, tTru, tJoin, cxOf_K, tLst, tTup, tSl, tPart, tNoPart, tBM, tBM0, tChain, tC, tFor_eq, gTup, gCons, gNil, gSub, iList, iRng1, iRng2, iRng3, iTup, iZip3, tWhile, tRev, tRaise, tCallS, tTry, tAug, tPar, tNever, ipI, List.append_nil]
    walk_at "st"
    intro g1 h1
    walk_at "st"
    refine i_addL (a := g1) (b := a) (xs := [.int 0]) (ys := iL row) upd_same (same_upd h1 _ _ hA) (szl (by simp [iL]; omega)) (fun lp hlp => ?_)
    have s1 : Same H _ := (same_upd (o := .lst [.int 0]) h1).trans (same_upd (o := .lst ([.int 0] ++ iL row)) hlp)
    have e1 : upd (upd H g1 (.lst [.int 0])) lp (.lst ([.int 0] ++ iL row)) lp = some (.lst (iL (0 :: row))) := by rw [upd_same]; rfl
    generalize upd (upd H g1 (.lst [.int 0])) lp (.lst ([.int 0] ++ iL row)) = H1 at *
    walk_at "st"
    refine ⟨lp, 0 :: row, 0, rfl, e1, List.mem_cons_self, fun t H2 hlast s2 => ?_⟩
    walk_at "st"
    refine i_slFrom (SqL.of (s2 _ _ e1)) (by omega) (fun lr hlr => ?_)
    rw [show ((t : Nat) : Int).toNat = t by omega]
    have s3 : Same H _ := (s1.trans s2).trans (same_upd (o := .lst (iL ((0 :: row).drop t))) hlr)
    have e3 : upd H2 lr (.lst (iL ((0 :: row).drop t))) lr = some (.lst (iL ((0 :: row).drop t))) := upd_same
    generalize upd H2 lr (.lst (iL ((0 :: row).drop t))) = H4 at *
    walk_at "st"
    refine ⟨lr, _, rfl, e3, by rw [List.length_drop]; simp; omega, fun l H5 N5 => ?_⟩
    rw [left_of_last hlast] at N5
    exact k l H5 ⟨s3.free N5.fr, s3.trans N5.sm, N5.at_⟩
--SPLIT
theorem i_slV {H : Hp} {Q : VK} {a : Addr} {xs : List V} {lo hi : Option Int} (h : SqL K H a xs) (q : ∀ p, H p = none → Q (.ref p) (upd H p (.lst (cutV xs lo hi)))) : rSlL K (.ref a) lo hi H Q := ⟨a, xs, rfl, h, q⟩
def spAOther : Sp := fun vs H Q _ => ∃ (a b : Addr) (row picks : List Int) (top : Int), vs = [.ref a, .ref b, .int top] ∧ H a = some (.lst (iL row)) ∧ H b = some (.lst (iL picks)) ∧ picks.length = 6 ∧ row.length ≤ 1000 ∧ 0 ≤ top ∧ (∀ p ∈ row, 0 ≤ p ∧ p ≤ top) ∧
  ∀ v H', Same H H' → (v = .non ∨ ∃ l r2, v = .ref l ∧ H' l = some (.lst (iL r2)) ∧ r2.length ≤ 3000 ∧ ∀ p ∈ r2, 0 ≤ p ∧ p ≤ top) → Q v H'
theorem ok_law_a_other (T : Txt mg) (D : Def K mg "_law_a_other" s_law_a_other) (C_law_a_rest : Callee P w K mg base "_law_a_rest" 3 spARest) : Callee P w K mg base "_law_a_other" 4 spAOther := by
  refine D.ok sc_law_a_other bd_law_a_other (fun vs H Q E h => ?len) (fun f cdv A outer s H vs Q E hr h => ?body)
  case len => obtain ⟨a, b, row, picks, top, rfl, _⟩ := h; rfl
  case body =>
    obtain ⟨a, b, row, picks, top, rfl, hA, hB, hpl, hl, ht, hp, k0⟩ := h
    have kn : Q .non H := k0 _ _ (Same.refl _) (.inl rfl)
    have k : ∀ l r2 H', Same H H' → H' l = some (.lst (iL r2)) → r2.length ≤ 3000 → (∀ p ∈ r2, 0 ≤ p ∧ p ≤ top) → Q (.ref l) H' := fun l r2 H' a b c d => k0 _ H' a (.inr ⟨l, r2, rfl, b, c, d⟩)
    have hu := hr.units
    refine ⟨_, (pss_cons (ps_if (pt_cmpR (op_eqK K hu) (pe_op op_mod (pe_ix (ix_K K) (pv 1) pe_int (by exact fun _ _ => rfl)) pe_int) pe_int (nomark _))
 (pss_one (ps_ret (pe_callN C_law_a_rest (hr.mono (by decide)) (by rfl) (pa_cons (pv 0) pa_nil))))
 pss_nil)
 (pss_cons (ps_if (pt_cmpR (op_eqK K hu) (pe_op op_mod (pe_ix (ix_K K) (pv 1) pe_int (by exact fun _ _ => rfl)) pe_int) pe_int (nomark _))
 (pss_cons (ps_set (i := 3) sc_law_a_other.nd rfl (Or.inl rfl) (pe_op op_mod (pe_ix (ix_K K) (pv 1) pe_int (by exact fun _ _ => rfl)) (pe_op op_addP (pe_callB (call_lenK K) (by rfl) T.z_len bt_len (pa_cons (pv 0) pa_nil)) pe_int)))
 (pss_cons (ps_set (i := 4) sc_law_a_other.nd rfl (Or.inl rfl) (pe_ix (ix_K K) (pe_op op_addP (pe_slice (sl_listK K) (pv 0) (po_some (pv 3)) (po_some (pe_op op_addP (pv 3) pe_int))) (pe_lst (pa_cons pe_int pa_nil))) pe_int (by exact fun _ _ => rfl)))
 (pss_cons (ps_set (i := 5) sc_law_a_other.nd rfl (Or.inl rfl) (pe_callB (call_maxK K) (by rfl) T.z_max bt_max (pa_cons pe_int (pa_cons (pe_callB (call_minK K) (by rfl) T.z_min bt_min (pa_cons (pv 2) (pa_cons (pe_op op_sub (pe_op op_addP (pv 4) (pe_op op_mod (pe_ix (ix_K K) (pv 1) pe_int (by exact fun _ _ => rfl)) pe_int)) pe_int) pa_nil))) pa_nil))))
 (pss_one (ps_ret (pe_op op_addP (pe_op op_addP (pe_op op_addP (pe_slice (sl_listK K) (pv 0) po_none (po_some (pv 3))) (pe_slice (sl_listK K) (pv 0) (po_some (pv 3)) (po_some (pe_op op_addP (pv 3) pe_int)))) (pe_lst (pa_cons (pv 5) pa_nil))) (pe_slice (sl_listK K) (pv 0) (po_some (pv 3)) po_none)))))))
 pss_nil)
 (pss_cons (ps_if (pt_cmpR (op_eqK K hu) (pe_op op_mod (pe_ix (ix_K K) (pv 1) pe_int (by exact fun _ _ => rfl)) pe_int) pe_int (nomark _))
 (pss_one (ps_ret (pe_op op_addP (pe_op op_addP (pe_lst (pa_cons pe_int pa_nil)) (pv 0)) (pe_slice (sl_listK K) (pv 0) (po_some (pe_negK (r := -1) (by decide))) po_none))))
 pss_nil)
 (pss_one (ps_ret pe_non))))), ?_⟩
    dsimp only [tSeq, tAsg, gName, tOp, tUn, tTest, tB, tAnd, tOr, tNot, tAndV, tOrV, tNotV, tIf, tIfS, tRet, tRetN, tDrop, tNext, tCons, tNil, tCB, tCall, tMenu, tComp, tDComp, tDGet, iZip2, iEnum, tNoIf, tTru, tJoin, cxOf_K, tLst, tTup, tSl, tPart, tNoPart, tBM, tBM0, tChain, tC, tFor_eq, gTup, gCons, gNil, gSub, iList, iRng1, iRng2, iRng3, iTup, iZip3, tWhile, tRev, tRaise, tCallS, tTry, tAug, tPar, tNever, ipI, List.append_nil]
    walk_at "st"
    refine i_ixL (SqL.of hB) (by omega) (by omega) (fun v0 _ m0 => ?_)
    walk_at "st"
    refine i_if (fun g => ?_) (fun g0 => ?_)
    · walk_at "st"
      refine ⟨a, row, rfl, hA, by omega, fun l H' N => ?_⟩
      refine k l _ H' N.sm N.at_ (by have := left_len row; omega) (fun p hq => ?_)
      rcases left_sub row p hq with z | z
      · omega
      · exact hp p z
    walk_at "st"
    refine i_ixL (SqL.of hB) (by omega) (by omega) (fun v0' _ m0' => ?_)
    walk_at "st"
    refine i_if (fun g => ?_) (fun g1 => ?_)
    · walk_at "st"
      refine i_ixL (SqL.of hB) (by omega) (by omega) (fun v1 _ m1 => ?_)
      walk_at "st"
      refine i_lenI (SqL.of hA) ?_
      walk_at "st"
      have r1 := Int.emod_nonneg v1 (show (row.length : Int) + 1 ≠ 0 by omega)
      have r2 := Int.emod_lt_of_pos v1 (show 0 < (row.length : Int) + 1 by omega)
      generalize v1 % ((row.length : Int) + 1) = at_ at *
      refine i_slMid (SqL.of hA) r1 (by omega) (fun l1 h1 => ?_)
      generalize hm1 : (row.drop at_.toNat).take ((at_ + 1).toNat - at_.toNat) = mid at *
      have hmid : ∀ p ∈ mid, p ∈ row := fun p hq => by rw [← hm1] at hq; exact List.mem_of_mem_drop (List.mem_of_mem_take hq)
      have hml : mid.length ≤ 1 := by rw [← hm1, List.length_take]; omega
      have s1 : Same H _ := same_upd (o := .lst (iL mid)) h1
      have e1 : upd H l1 (.lst (iL mid)) l1 = some (.lst (iL mid)) := upd_same
      generalize upd H l1 (.lst (iL mid)) = H1 at *
      walk_at "st"
      intro l2 h2
      walk_at "st"
      refine i_addL (a := l1) (b := l2) (xs := iL mid) (ys := [.int 0]) (same_upd h2 _ _ e1) upd_same (szl (by simp [iL]; omega)) (fun l3 h3 => ?_)
      have s3 : Same H1 _ := (same_upd (o := .lst [.int 0]) h2).trans (same_upd (o := .lst (iL mid ++ [.int 0])) h3)
      have e3 : upd (upd H1 l2 (.lst [.int 0])) l3 (.lst (iL mid ++ [.int 0])) l3 = some (.lst (iL (mid ++ [0]))) := by rw [upd_same]; simp [iL]
      generalize upd (upd H1 l2 (.lst [.int 0])) l3 (.lst (iL mid ++ [.int 0])) = H3 at *
      have S3 := s1.trans s3
      walk_at "st"
      refine i_ixL (SqL.of e3) (by omega) (by rw [List.length_append]; show (0 : Int) < _; simp only [List.length_singleton]; omega) (fun here _ mh => ?_)
      walk_at "st"
      refine i_ixL (SqL.of (S3 _ _ hB)) (by omega) (by omega) (fun v2 _ m2 => ?_)
      walk_at "st"
      refine i_min2 (fun mn hmn => ?_)
      walk_at "st"
      refine i_max2 (fun mx hmx => ?_)
      have hthere : 0 ≤ mx ∧ mx ≤ top := by omega
      walk_at "st"
      refine i_slTo (SqL.of (S3 _ _ hA)) r1 (fun l4 h4 => ?_)
      generalize hm4 : row.take at_.toNat = pre at *
      have hpre : ∀ p ∈ pre, p ∈ row := fun p hq => by rw [← hm4] at hq; exact List.mem_of_mem_take hq
      have hprl : pre.length ≤ 1000 := by rw [← hm4, List.length_take]; omega
      have s4 : Same H3 _ := same_upd (o := .lst (iL pre)) h4
      have e4 : upd H3 l4 (.lst (iL pre)) l4 = some (.lst (iL pre)) := upd_same
      generalize upd H3 l4 (.lst (iL pre)) = H4 at *
      have S4 := S3.trans s4
      walk_at "st"
      refine i_slMid (SqL.of (S4 _ _ hA)) r1 (by omega) (fun l5 h5 => ?_)
      rw [hm1]
      have s5 : Same H4 _ := same_upd (o := .lst (iL mid)) h5
      have e5 : upd H4 l5 (.lst (iL mid)) l5 = some (.lst (iL mid)) := upd_same
      generalize upd H4 l5 (.lst (iL mid)) = H5 at *
      refine i_addL (a := l4) (b := l5) (s5 _ _ e4) e5 (szl (by simp [iL]; omega)) (fun l6 h6 => ?_)
      have s6 : Same H5 _ := same_upd (o := .lst (iL pre ++ iL mid)) h6
      have e6 : upd H5 l6 (.lst (iL pre ++ iL mid)) l6 = some (.lst (iL (pre ++ mid))) := by rw [upd_same]; simp [iL]
      generalize upd H5 l6 (.lst (iL pre ++ iL mid)) = H6 at *
      walk_at "st"
      intro l7 h7
      have s7 : Same H6 _ := same_upd (o := .lst [.int mx]) h7
      have e7 : upd H6 l7 (.lst [.int mx]) l7 = some (.lst (iL [mx])) := upd_same
      generalize upd H6 l7 (.lst [.int mx]) = H7 at *
      walk_at "st"
      refine i_addL (a := l6) (b := l7) (s7 _ _ e6) e7 (szl (by simp [iL]; omega)) (fun l8 h8 => ?_)
      have s8 : Same H7 _ := same_upd (o := .lst (iL (pre ++ mid) ++ iL [mx])) h8
      have e8 : upd H7 l8 (.lst (iL (pre ++ mid) ++ iL [mx])) l8 = some (.lst (iL (pre ++ mid ++ [mx]))) := by rw [upd_same]; simp [iL]
      generalize upd H7 l8 (.lst (iL (pre ++ mid) ++ iL [mx])) = H8 at *
      have S8 := S4.trans (s5.trans (s6.trans (s7.trans s8)))
      walk_at "st"
      refine i_slFrom (SqL.of (S8 _ _ hA)) r1 (fun l9 h9 => ?_)
      generalize hm9 : row.drop at_.toNat = post at *
      have hpost : ∀ p ∈ post, p ∈ row := fun p hq => by rw [← hm9] at hq; exact List.mem_of_mem_drop hq
      have hpol : post.length ≤ 1000 := by rw [← hm9, List.length_drop]; omega
      have s9 : Same H8 _ := same_upd (o := .lst (iL post)) h9
      have e9 : upd H8 l9 (.lst (iL post)) l9 = some (.lst (iL post)) := upd_same
      generalize upd H8 l9 (.lst (iL post)) = H9 at *
      refine i_addL (a := l8) (b := l9) (s9 _ _ e8) e9 (szl (by simp [iL]; omega)) (fun l10 h10 => ?_)
      refine k l10 (pre ++ mid ++ [mx] ++ post) _ ((S8.trans s9).trans (same_upd h10)) (by rw [upd_same]; simp [iL]) (by simp; omega) (fun p hq => ?_)
      simp only [List.mem_append, List.mem_singleton] at hq
      rcases hq with ((z | z) | z) | z
      · exact hp p (hpre p z)
      · exact hp p (hmid p z)
      · rw [z]; exact hthere
      · exact hp p (hpost p z)
    walk_at "st"
    refine i_ixL (SqL.of hB) (by omega) (by omega) (fun v0'' _ m0'' => ?_)
    walk_at "st"
    refine i_if (fun g => ?_) (fun g2 => ?_)
    · walk_at "st"
      intro l1 h1
      walk_at "st"
      refine i_addL (a := l1) (b := a) (xs := [.int 0]) (ys := iL row) upd_same (same_upd h1 _ _ hA) (szl (by simp [iL]; omega)) (fun l2 h2 => ?_)
      have s2 : Same H _ := (same_upd (o := .lst [.int 0]) h1).trans (same_upd (o := .lst ([.int 0] ++ iL row)) h2)
      have e2 : upd (upd H l1 (.lst [.int 0])) l2 (.lst ([.int 0] ++ iL row)) l2 = some (.lst (iL (0 :: row))) := by rw [upd_same]; rfl
      generalize upd (upd H l1 (.lst [.int 0])) l2 (.lst ([.int 0] ++ iL row)) = H2 at *
      walk_at "st"
      refine i_slV (SqL.of (s2 _ _ hA)) (fun l3 h3 => ?_)
      obtain ⟨tail, htail, htl, hts⟩ : ∃ tail : List Int, cutV (iL row) (some (-1)) none = iL tail ∧ tail.length ≤ 1000 ∧ ∀ p ∈ tail, p ∈ row := by
        refine ⟨(row.drop (HT.sIx (iL row).length 0 (some (-1)))).take (HT.sIx (iL row).length (iL row).length none - HT.sIx (iL row).length 0 (some (-1))), ?_, ?_, fun p hq => List.mem_of_mem_drop (List.mem_of_mem_take hq)⟩
        · unfold cutV
          rw [← List.map_drop, ← List.map_take]
        · rw [List.length_take, List.length_drop]; omega
      rw [htail]
      have s3 : Same H2 _ := same_upd (o := .lst (iL tail)) h3
      have e3 : upd H2 l3 (.lst (iL tail)) l3 = some (.lst (iL tail)) := upd_same
      generalize upd H2 l3 (.lst (iL tail)) = H3 at *
      refine i_addL (a := l2) (b := l3) (s3 _ _ e2) e3 (szl (by simp [iL]; omega)) (fun l4 h4 => ?_)
      refine k l4 (0 :: row ++ tail) _ ((s2.trans s3).trans (same_upd h4)) (by rw [upd_same]; simp [iL]) (by simp; omega) (fun p hq => ?_)
      rcases List.mem_append.mp hq with z | z
      · rcases List.mem_cons.mp z with y | y
        · omega
        · exact hp p y
      · exact hp p (hts p z)
    walk_at "st"
    exact kn
--SPLIT
theorem pd_two {H : Hp} {t l1 l2 : Addr} {x1 x2 : List Int} {n : Nat} (ht : H t = some (.tup [.ref l1, .ref l2])) (h1 : H l1 = some (.lst (iL x1))) (h2 : H l2 = some (.lst (iL x2))) : PdAt K H (n + 2) (.tuple [pL x1, pL x2]) (.ref t) :=
  pd_tup (SqT.of ht) (.cons (pd_ints (SqL.of h1)) (.cons (pd_ints (SqL.of h2)) .nil))
theorem pd_bls {H : Hp} {l : Addr} {bs : List Bool} {n : Nat} (h : H l = some (.lst (bL bs))) : PdAt K H (n + 1) (.list (bs.map PyData.bool)) (.ref l) := by
  refine pd_lst (SqL.of h) ?_
  clear h
  induction bs with
  | nil => exact .nil
  | cons b bs ih => exact .cons pd_bl ih
theorem ok_law {f : Addr} {fd : FuncData} (F : Fun K "law" "law" s_law f fd) (T : Txt mg) (Z : Cls K mg) (C_law_draws : Callee P w K mg base "_law_draws" 1 spDraws) (C_law_cell_at : Callee P w K mg base "_law_cell_at" 1 (spCellAt K)) (C_law_places_of : Callee P w K mg base "_law_places_of" 2 spPlacesOf) (C_law_a_other : Callee P w K mg base "_law_a_other" 4 spAOther) (C_law_told : Callee P w K mg base "_law_told" 6 spTold) (C_law_a_on : Callee P w K mg base "_law_a_on" 1 spAOn) (C_law_a_rest : Callee P w K mg base "_law_a_rest" 3 spARest) (C_law_due_kin : Callee P w K mg base "_law_due_kin" 1 spDueKinG) :
    FnOk P w K mg base CX0 7 f fd ["script"] (spLaw K) := by
  refine F.ok sc_law (fun vs H Q E h => ?_) (fun cdv A outer s H vs Q E hr h => ?_)
  · obtain ⟨a, ns, rfl, _⟩ := h
    rfl
  · obtain ⟨a, ns, rfl, hS, hlen, k⟩ := h
    have hu := hr.units
    refine ⟨_, (pss_cons (ps_set (i := 1) sc_law.nd rfl (Or.inl rfl) (pe_callN C_law_draws (hr.mono (by decide)) (by rfl) (pa_cons (pe_callN C_law_cell_at (hr.mono (by decide)) (by rfl) (pa_cons (pv 0) (pa_cons pe_int pa_nil))) (pa_cons pe_int (pa_cons pe_int pa_nil)))))
 (pss_cons (ps_set (i := 2) sc_law.nd rfl (Or.inl rfl) (pe_menu (pa_cons (pe_op op_addP pe_int (pe_op op_mod (pe_ix (ix_K K) (pv 1) pe_int (by exact fun _ _ => rfl)) pe_int)) (pa_cons (pe_op op_addP pe_int (pe_op op_mod (pe_ix (ix_K K) (pv 1) pe_int (by exact fun _ _ => rfl)) pe_int)) pa_nil)) (pe_op op_mod (pe_ix (ix_K K) (pv 1) pe_int (by exact fun _ _ => rfl)) pe_int) (by exact fun _ _ => rfl)))
 (pss_cons (ps_for PassesOwn.never rfl (pi_listK K (pe_op op_addP (pe_lst (pa_cons (pe_callN C_law_cell_at (hr.mono (by decide)) (by rfl) (pa_cons (pv 0) (pa_cons pe_int pa_nil))) pa_nil)) (pe_slice (sl_listK K) (pv 0) (po_some pe_int) (po_some pe_int)))) (pg_name (i := 3) sc_law.nd rfl (Or.inl rfl))
 (pss_cons (ps_set (i := 4) sc_law.nd rfl (Or.inl rfl) (pe_callN C_law_draws (hr.mono (by decide)) (by rfl) (pa_cons (pv 3) (pa_cons pe_int (pa_cons pe_int pa_nil)))))
 (pss_cons (ps_set (i := 5) sc_law.nd rfl (Or.inl rfl) (pe_callN C_law_places_of (hr.mono (by decide)) (by rfl) (pa_cons (pe_op op_addP (pv 3) pe_int) (pa_cons (pe_menu (pa_cons (pe_op op_mod (pe_ix (ix_K K) (pv 4) pe_int (by exact fun _ _ => rfl)) pe_int) (pa_cons pe_int pa_nil)) (pe_callTy call_intK (by rfl) T.z_int bt_int (pa_cons (pe_cmpR (op_eqK K hu) (pe_op op_mod (pe_ix (ix_K K) (pv 4) pe_int (by exact fun _ _ => rfl)) pe_int) pe_int (nomark _)) pa_nil)) (by exact fun _ _ => rfl)) (pa_cons (pv 2) pa_nil)))))
 (pss_cons (ps_set (i := 6) sc_law.nd rfl (Or.inl rfl) (pe_callN C_law_a_other (hr.mono (by decide)) (by rfl) (pa_cons (pv 5) (pa_cons (pv 4) (pa_cons (pv 2) pa_nil)))))
 (pss_join (ps_if (pt_cmpR op_isN (pv 6) pe_non (nomark _))
 (pss_one (ps_set (i := 6) sc_law.nd rfl (Or.inl rfl) (pe_callN C_law_places_of (hr.mono (by decide)) (by rfl) (pa_cons (pe_op op_addP (pv 3) pe_int) (pa_cons (pe_op op_mod (pe_ix (ix_K K) (pv 4) pe_int (by exact fun _ _ => rfl)) pe_int) (pa_cons (pv 2) pa_nil))))))
 pss_nil)
 (pss_cons (ps_set (i := 7) sc_law.nd rfl (Or.inl rfl) (pe_tup (pa_cons (pe_callTy (call_listK K) (by rfl) T.z_list bt_list (pa_cons (pv 5) pa_nil)) (pa_cons (pe_callTy (call_listK K) (by rfl) T.z_list bt_list (pa_cons (pv 6) pa_nil)) pa_nil))))
 (pss_cons (ps_asg (pe_callN C_law_told (hr.mono (by decide)) (by rfl) (pa_cons (pv 2) (pa_cons (pe_ix (ix_K K) (pv 7) pe_int (by exact fun _ _ => rfl)) (pa_cons (pe_ix (ix_K K) (pv 7) pe_int (by exact fun _ _ => rfl)) pa_nil)))) (pg_tupK K 2 (pgs_cons (pg_name (i := 8) sc_law.nd rfl (Or.inl rfl)) (pgs_cons (pg_name (i := 9) sc_law.nd rfl (Or.inl rfl)) pgs_nil))))
 (pss_cons (ps_if (PW.pt (pw_or (pt_cmpR (op_neK K hu) (pv 9) (pe_lst pa_nil) (nomark _)) (pw_or (pt_not (pt_truthK K (pe_callB (call_isinstanceK K) (by rfl) T.z_isinstance bt_isinstance (pa_cons (pv 8) (pa_cons (pe_bltn (by rfl) T.z_bool bt_bool (show RelV (.ty "bool") _ from rfl)) pa_nil))))) (pw_or1 (pt_cmpR (op_neK K hu) (pv 7) (pe_tup (pa_cons (pv 5) (pa_cons (pv 6) pa_nil))) (nomark _))))))
 (pss_one (ps_ret pe_bl))
 pss_nil)
 (pss_cons (ps_set (i := 10) sc_law.nd rfl (Or.inl rfl) pe_bl)
 (pss_cons (ps_for PassesOwn.never rfl (pi_range1 (by rfl) T.z_range (pa_cons (pv 2) pa_nil)) (pg_name (i := 11) sc_law.nd rfl (Or.inl rfl))
 (pss_one (ps_for PassesOwn.never rfl (pi_range2 (by rfl) T.z_range (pa_cons (pe_op op_addP (pv 11) pe_int) (pa_cons (pe_op op_addP (pv 2) pe_int) pa_nil))) (pg_name (i := 12) sc_law.nd rfl (Or.inl rfl))
 (pss_one (ps_set (i := 10) sc_law.nd rfl (Or.inl rfl) (pe_and (pv 10) (pe_one (pe_cmpR (op_eqK K hu) (pe_callN C_law_a_on (hr.mono (by decide)) (by rfl) (pa_cons (pv 11) (pa_cons (pv 12) (pa_cons (pv 5) pa_nil)))) (pe_callN C_law_a_on (hr.mono (by decide)) (by rfl) (pa_cons (pv 11) (pa_cons (pv 12) (pa_cons (pv 6) pa_nil)))) (nomark _)))))))))
 (pss_cons (ps_if (PW.pt (pw_or (pt_cmpR (op_neK K hu) (pv 8) (pv 10) (nomark _)) (pw_or1 (pt_cmpR (op_neK K hu) (pv 10) (pe_cmpR (op_eqK K hu) (pe_callN C_law_a_rest (hr.mono (by decide)) (by rfl) (pa_cons (pv 5) pa_nil)) (pe_callN C_law_a_rest (hr.mono (by decide)) (by rfl) (pa_cons (pv 6) pa_nil)) (nomark _)) (nomark _)))))
 (pss_one (ps_ret pe_bl))
 pss_nil)
 (pss_cons (ps_set (i := 13) sc_law.nd rfl (Or.inl rfl) (pe_op op_addP (pv 5) (pe_lst (pa_cons (pe_menu (pa_cons (pe_negK (r := -1) (by decide)) (pa_cons (pe_op op_addP (pv 2) pe_int) (pa_cons (pe_powK (r := 1000000000000000000000000000000) (by decide)) pa_nil))) (pe_op op_mod (pe_ix (ix_K K) (pv 4) pe_int (by exact fun _ _ => rfl)) pe_int) (by exact fun _ _ => rfl)) pa_nil))))
 (pss_cons (ps_for PassesOwn.never rfl (pi_tupK K (pe_tup (pa_cons (pe_tup (pa_cons (pv 13) (pa_cons (pv 6) pa_nil))) (pa_cons (pe_tup (pa_cons (pv 6) (pa_cons (pv 13) pa_nil))) pa_nil)))) (pg_name (i := 14) sc_law.nd rfl (Or.inl rfl))
 (pss_one (ps_if (pt_cmpR (op_neK K hu) (pe_ix (ix_K K) (pe_callN C_law_told (hr.mono (by decide)) (by rfl) (pa_cons (pv 2) (pa_cons (pe_ix (ix_K K) (pv 14) pe_int (by exact fun _ _ => rfl)) (pa_cons (pe_ix (ix_K K) (pv 14) pe_int (by exact fun _ _ => rfl)) pa_nil)))) pe_int (by exact fun _ _ => rfl)) (pe_callN C_law_due_kin (hr.mono (by decide)) (by rfl) (pa_cons pe_str pa_nil)) (nomark _))
 (pss_one (ps_ret pe_bl))
 pss_nil)))
 (pss_one (ps_for PassesOwn.never rfl (pi_tupK K (pe_tup (pa_cons pe_int (pa_cons pe_int (pa_cons (pe_negK (r := -3) (by decide)) pa_nil))))) (pg_name (i := 15) sc_law.nd rfl (Or.inl rfl))
 (pss_one (ps_if (pt_cmpR (op_neK K hu) (pe_ix (ix_K K) (pe_callN C_law_told (hr.mono (by decide)) (by rfl) (pa_cons (pv 15) (pa_cons (pv 13) (pa_cons (pv 6) pa_nil)))) pe_int (by exact fun _ _ => rfl)) (pe_callN C_law_due_kin (hr.mono (by decide)) (by rfl) (pa_cons pe_str pa_nil)) (nomark _))
 (pss_one (ps_ret pe_bl))
 pss_nil)))))))))))))))))
 (pss_one (ps_ret pe_bl))))), ?_⟩
    dsimp only [tSeq, tAsg, gName, tOp, tUn, tTest, tB, tAnd, tOr, tNot, tAndV, tOrV, tNotV, tIf, tIfS, tRet, tRetN, tDrop, tNext, tCons, tNil, tCB, tCall, tMenu, tComp, tDComp, tDGet, iZip2, iEnum, tNoIf, tTru, tJoin, cxOf_K, tLst, tTup, tSl, tPart, tNoPart, tBM, tBM0, tChain, tC, tFor_eq, gTup, gCons, gNil, gSub, iList, iRng1, iRng2, iRng3, iTup, iZip3, tWhile, tRev, tRaise, tCallS, tTry, tAug, tPar, tNever, ipI, List.append_nil]
    walk_at "st"
    refine ⟨a, ns, 0, rfl, hS, by decide, fun c0 => ?_⟩
    walk_at "st"
    refine ⟨c0, 2, 1000, rfl, by decide, by decide, by decide, by decide, fun lh H1 hs N1 l1 b1 => ?_⟩
    walk_at "st"
    refine i_ixL (SqL.of N1.at_) (by omega) (by omega) (fun v0 _ m0 => ?_)
    walk_at "st"
    refine i_ixL (SqL.of N1.at_) (by omega) (by omega) (fun v0' _ m0' => ?_)
    walk_at "st"
    refine i_ixL (SqL.of N1.at_) (by omega) (by omega) (fun v1 _ m1 => ?_)
    walk_at "st"
    refine i_menu2 (by omega) (by omega) (fun top htop => ?_)
    have hT : okTop top := by unfold okTop; omega
    have hT1 := hT.1
    have hT2 := hT.2
    have s1 := N1.sm
    clear htop m0 m0' m1 N1 b1 l1
    walk_at "st"
    refine ⟨a, ns, 1, rfl, s1.seq hS, by decide, fun c1 => ?_⟩
    walk_at "st"
    intro g1 hg1
    walk_at "st"
    refine i_slMid ((s1.trans (same_upd hg1)).seq hS) (by decide) (by decide) (fun g2 hg2 => ?_)
    generalize hcs : (ns.drop (2 : Int).toNat).take ((11 : Int).toNat - (2 : Int).toNat) = cs at *
    have hcl : cs.length ≤ 9 := by rw [← hcs, List.length_take]; exact Nat.min_le_left _ _
    refine i_addL (a := g1) (b := g2) (xs := [.int c1]) (ys := iL cs) (same_upd hg2 _ _ upd_same) upd_same (szl (by simp [iL]; omega)) (fun g3 hg3 => ?_)
    have s3 : Same H1 _ := (same_upd (o := .lst [.int c1]) hg1).trans ((same_upd (o := .lst (iL cs)) hg2).trans (same_upd (o := .lst ([.int c1] ++ iL cs)) hg3))
    have e3 : upd (upd (upd H1 g1 (.lst [.int c1])) g2 (.lst (iL cs))) g3 (.lst ([.int c1] ++ iL cs)) g3 = some (.lst (iL (c1 :: cs))) := by rw [upd_same]; rfl
    generalize upd (upd (upd H1 g1 (.lst [.int c1])) g2 (.lst (iL cs))) g3 (.lst ([.int c1] ++ iL cs)) = H3 at *
    walk_at "st"
    refine ⟨⟨_, SqL.of e3⟩, lp_ints (ns := c1 :: cs) (fun i σ H4 => ∃ (u0 u1 u2 u3 u4 u5 u6 u7 u8 u9 u10 u11 u12 : Option V), σ = [some (.ref a), some (.ref lh), some (.int top), u0, u1, u2, u3, u4, u5, u6, u7, u8, u9, u10, u11, u12] ∧ Same H3 H4) ?_ ?_ ?_ ?_⟩
    · exact ⟨_, _, _, _, _, _, _, _, _, _, _, _, _, rfl, Same.refl _⟩
    · rintro i σ H4 _ ⟨u0, u1, u2, u3, u4, u5, u6, u7, u8, u9, u10, u11, u12, rfl, sm⟩
      exact SqL.of (sm _ _ e3)
    · rintro i cell σ H4 hx ⟨u0, u1, u2, u3, u4, u5, u6, u7, u8, u9, u10, u11, u12, rfl, sm⟩
      walk_at "st"
      refine ⟨cell, 6, 1000, rfl, by decide, by decide, by decide, by decide, fun lp H5 pk N5 l5 b5 => ?_⟩
      walk_at "st"
      refine i_ixL (SqL.of N5.at_) (by omega) (by omega) (fun w3 _ n3 => ?_)
      walk_at "st"
      refine i_ixL (SqL.of N5.at_) (by omega) (by omega) (fun w4 _ n4 => ?_)
      walk_at "st"
      refine i_menu2 (by split <;> decide) (by split <;> decide) (fun many hmany => ?_)
      have hmb : 0 ≤ many ∧ many ≤ 400 := by
        have r1 := Int.emod_nonneg w3 (show (31 : Int) ≠ 0 by decide)
        have r2 := Int.emod_lt_of_pos w3 (show (0 : Int) < 31 by decide)
        omega
      clear hmany
      walk_at "st"
      refine ⟨cell + 1, many, top, rfl, hmb.1, by omega, by omega, by omega, fun lo H6 one N6 hol hob => ?_⟩
      have P6 := N6.sm _ _ N5.at_
      walk_at "st"
      refine ⟨lo, lp, one, pk, top, rfl, N6.at_, P6, by omega, by omega, by omega, hob, fun v7 H7 s7 hv7 => ?_⟩
      have O7 := s7 _ _ N6.at_
      have P7 := s7 _ _ P6
      have S7 := sm.trans (N5.sm.trans (N6.sm.trans s7))
      clear N5 N6 P6 s7 n3 n4
      walk_at "st"
      refine ⟨fun σ H8 => ∃ (loth : Addr) (other : List Int), σ = [some (.ref a), some (.ref lh), some (.int top), some (.int cell), some (.ref lp), some (.ref lo), some (.ref loth), u4, u5, u6, u7, u8, u9, u10, u11, u12] ∧ Same H7 H8 ∧ H8 loth = some (.lst (iL other)) ∧ other.length ≤ 3000 ∧ ∀ p ∈ other, 0 ≤ p ∧ p ≤ top, ?_, ?_⟩
      · walk_at "st"
        refine ⟨rfl, ?_⟩
        walk_at "st"
        rcases hv7 with rfl | ⟨l7, o7, rfl, e7, ol7, ob7⟩
        · refine i_if (fun _ => ?_) (fun z => absurd rfl z)
          walk_at "st"
          refine i_ixL (SqL.of P7) (by omega) (by omega) (fun w4' _ n4' => ?_)
          walk_at "st"
          have r1 := Int.emod_nonneg w4' (show (4 : Int) ≠ 0 by decide)
          have r2 := Int.emod_lt_of_pos w4' (show (0 : Int) < 4 by decide)
          refine ⟨cell + 2, w4' % 4, top, rfl, r1, by omega, by omega, by omega, fun l8 H8 o8 N8 hol8 hob8 => ?_⟩
          exact ⟨l8, o8, rfl, N8.sm, N8.at_, by omega, hob8⟩
        · refine i_if (fun z => (V.noConfusion z)) (fun _ => ?_)
          walk_at "st"
          exact ⟨l7, o7, rfl, Same.refl _, e7, ol7, ob7⟩
      clear hv7
      rintro σ H8 ⟨loth, other, rfl, s8, T8, hotl, hotb⟩
      have O8 := s8 _ _ O7
      have P8 := s8 _ _ P7
      have S8 := S7.trans s8
      clear S7 s8 O7 P7
      walk_at "st"
      refine i_listL (SqL.of O8) (fun k1 hk1 => ?_)
      walk_at "st"
      refine i_listL (SqL.of (same_upd hk1 _ _ T8)) (fun k2 hk2 => ?_)
      walk_at "st"
      intro t3 ht3
      have s9 : Same H8 _ := (same_upd (o := .lst (iL one)) hk1).trans ((same_upd (o := .lst (iL other)) hk2).trans (same_upd (o := .tup [.ref k1, .ref k2]) ht3))
      have f1 : upd (upd (upd H8 k1 (.lst (iL one))) k2 (.lst (iL other))) t3 (.tup [.ref k1, .ref k2]) k1 = some (.lst (iL one)) := ((same_upd hk2).trans (same_upd ht3)) _ _ upd_same
      have f2 : upd (upd (upd H8 k1 (.lst (iL one))) k2 (.lst (iL other))) t3 (.tup [.ref k1, .ref k2]) k2 = some (.lst (iL other)) := (same_upd ht3) _ _ upd_same
      have f3 : upd (upd (upd H8 k1 (.lst (iL one))) k2 (.lst (iL other))) t3 (.tup [.ref k1, .ref k2]) t3 = some (.tup [.ref k1, .ref k2]) := upd_same
      generalize upd (upd (upd H8 k1 (.lst (iL one))) k2 (.lst (iL other))) t3 (.tup [.ref k1, .ref k2]) = H9 at *
      walk_at "st"
      refine i_ixT (SqT.of f3) (by decide) (v := .ref k1) rfl ?_
      walk_at "st"
      refine i_ixT (SqT.of f3) (by decide) (v := .ref k2) rfl ?_
      walk_at "st"
      have hall : ∀ p ∈ one ++ other, 0 ≤ p ∧ p ≤ top := fun p hp => by
        rcases List.mem_append.mp hp with z | z
        · exact hob p z
        · exact hotb p z
      refine ⟨k1, k2, one, other, top, rfl, f1, f2, by omega, by omega, fun t4 v4 lk bs H10 s10 e10 hk10 q1 _ _ => ?_⟩
      obtain ⟨rfl, rfl⟩ := q1 hT hall
      walk_at "st"
      refine ⟨_, _, rfl, SqT.of e10, rfl, _, _, rfl, _, _, rfl, rfl, ?_⟩
      walk_at "st"
      intro g5 hg5
      have s11 : Same H10 _ := same_upd (o := .lst []) hg5
      have e11 : upd H10 g5 (.lst []) g5 = some (.lst (iL [])) := upd_same
      generalize upd H10 g5 (.lst []) = H11 at *
      walk_at "st"
      refine i_neL (xs := []) (ys := []) (SqL.of (s11 _ _ hk10)) (SqL.of e11) ?_
      walk_at "st"
      refine i_ifn (fun z => absurd rfl z) (fun _ => ?_)
      walk_at "st"
      intro t6 ht6
      have s12 : Same H8 _ := s9.trans (s10.trans (s11.trans (same_upd (o := .tup [.ref lo, .ref loth]) ht6)))
      have e12 : upd H11 t6 (.tup [.ref lo, .ref loth]) t6 = some (.tup [.ref lo, .ref loth]) := upd_same
      have e13 : Same H9 (upd H11 t6 (.tup [.ref lo, .ref loth])) := s10.trans (s11.trans (same_upd ht6))
      generalize upd H11 t6 (.tup [.ref lo, .ref loth]) = H12 at *
      walk_at "st"
      refine i_neSame (.tuple [pL one, pL other]) (pd_two (e13 _ _ f3) (e13 _ _ f1) (e13 _ _ f2)) (pd_two e12 (s12 _ _ O8) (s12 _ _ T8)) ?_
      have O12 := s12 _ _ O8
      have T12 := s12 _ _ T8
      have P12 := s12 _ _ P8
      have S12 := S8.trans s12
      clear s9 s10 s11 s12 e10 e11 e12 e13 f1 f2 f3 hk10 O8 T8 P8 S8 q1 ht6 hg5 ht3 hk1 hk2
      walk_at "st"
      refine ⟨by omega, by omega, lp_range (fun i σ H13 => ∃ (d : Bool) (w1 w2 : Option V), σ = [some (.ref a), some (.ref lh), some (.int top), some (.int cell), some (.ref lp), some (.ref lo), some (.ref loth), some (.ref t3), some (.bl (decide (left one = left other))), some (.ref lk), some (.bl d), w1, w2, u10, u11, u12] ∧ H12 = H13 ∧ (d = true ↔ ∀ l h : Int, 0 ≤ l → l < i → l < h → h ≤ top → fo (swf l h) false one = fo (swf l h) false other)) ?_ ?_ ?_⟩
      · exact ⟨true, _, _, rfl, rfl, ⟨fun _ l h a b => by omega, fun _ => rfl⟩⟩
      · rintro i σ H13 hi ⟨d, w1, w2, rfl, rfl, hd⟩
        walk_at "st"
        refine ⟨_, _, rfl, ⟨by omega, by omega, by omega, by omega⟩, lp_range (fun j σ H13 => ∃ (d : Bool) (w1 w2 : Option V), σ = [some (.ref a), some (.ref lh), some (.int top), some (.int cell), some (.ref lp), some (.ref lo), some (.ref loth), some (.ref t3), some (.bl (decide (left one = left other))), some (.ref lk), some (.bl d), some (.int (0 + (i : Int))), w2, u10, u11, u12] ∧ H12 = H13 ∧ (d = true ↔ (∀ l h : Int, 0 ≤ l → l < i → l < h → h ≤ top → fo (swf l h) false one = fo (swf l h) false other) ∧ ∀ h : Int, (i : Int) < h → h < (i : Int) + 1 + j → fo (swf i h) false one = fo (swf i h) false other)) ?_ ?_ ?_⟩
        · exact ⟨d, none, _, rfl, rfl, hd.trans ⟨fun z => ⟨z, fun h a b => by omega⟩, fun z => z.1⟩⟩
        · rintro j σ H13 hj ⟨d, w1, w2, rfl, rfl, hd⟩
          walk_at "st"
          cases d with
          | true =>
            walk_at "st"
            refine ⟨lo, one, _, _, rfl, O12, by omega, ?_⟩
            walk_at "st"
            refine ⟨loth, other, _, _, rfl, T12, by omega, ?_⟩
            walk_at "st"
            refine i_eqB ?_
            have hd' := hd.mp rfl
            refine ⟨_, none, _, rfl, rfl, ⟨fun z => ⟨hd'.1, fun h a b => ?_⟩, fun z => ?_⟩⟩
            · by_cases q : h < (i : Int) + 1 + j
              · exact hd'.2 h a q
              · have e1 : h = 0 + (i : Int) + 1 + j := by omega
                have z' := of_decide_eq_true z
                rw [Int.zero_add] at z' e1
                rw [e1]
                exact z'
            · refine decide_eq_true ?_
              have := z.2 (0 + (i : Int) + 1 + j) (by omega) (by omega)
              rw [show (i : Int) = 0 + (i : Int) by omega] at this
              simpa using this
          | false =>
            walk_at "st"
            refine ⟨false, none, _, rfl, rfl, ⟨fun z => (Bool.noConfusion z), fun z => ?_⟩⟩
            exact hd.mpr ⟨z.1, fun h a b => z.2 h a (by omega)⟩
        · rintro σ H13 ⟨d, w1, w2, rfl, rfl, hd⟩
          refine ⟨d, _, _, rfl, rfl, hd.trans ⟨fun z l h a b c e => ?_, fun z => ⟨fun l h a b c e => z l h a (by omega) c e, fun h a b => z i h (by omega) (by omega) a (by omega)⟩⟩⟩
          by_cases q : l < i
          · exact z.1 l h a q c e
          · have : l = i := by omega
            subst this
            exact z.2 h c (by omega)
      rintro σ H13 ⟨d, w1, w2, rfl, rfl, hd⟩
      have hdd : d = decide (left one = left other) := by
        have hiff := left_iff hob hotb (show 0 ≤ top by omega)
        have : d = true ↔ left one = left other := hd.trans (Iff.trans ⟨fun z l h a b c => z l h a (by omega) b c, fun z l h a b c e => z l h a c e⟩ hiff)
        by_cases q : left one = left other
        · rw [this.mpr q, decide_eq_true q]
        · rw [decide_eq_false q]
          cases d with
          | false => rfl
          | true => exact absurd (this.mp rfl) q
      subst hdd
      clear hd
      walk_at "st"
      refine i_neB ?_
      walk_at "st"
      refine i_ifn (fun z => absurd rfl z) (fun _ => ?_)
      walk_at "st"
      refine ⟨lo, one, rfl, O12, by omega, fun g7 H14 N14 => ?_⟩
      walk_at "st"
      refine ⟨loth, other, rfl, N14.sm _ _ T12, by omega, fun g8 H15 N15 => ?_⟩
      walk_at "st"
      refine i_eqL (SqL.of (N15.sm _ _ N14.at_)) (SqL.of N15.at_) ?_
      walk_at "st"
      refine i_neB ?_
      walk_at "st"
      refine i_ifn (fun z => absurd rfl z) (fun _ => ?_)
      have s15 := N14.sm.trans N15.sm
      have O15 := s15 _ _ O12
      have T15 := s15 _ _ T12
      have P15 := s15 _ _ P12
      have S15 := S12.trans s15
      clear s15 N14 N15 O12 T12 P12 S12
      walk_at "st"
      refine i_ixL (SqL.of P15) (by omega) (by omega) (fun w5 _ n5 => ?_)
      walk_at "st"
      refine i_menu3 (by omega) (by omega) (fun x hx3 => ?_)
      have hxb : ¬ (0 ≤ x ∧ x ≤ top) := by omega
      clear hx3
      walk_at "st"
      intro g9 hg9
      walk_at "st"
      refine i_addL (a := lo) (b := g9) (xs := iL one) (ys := [.int x]) (same_upd hg9 _ _ O15) upd_same (szl (by simp [iL]; omega)) (fun lodd hlodd => ?_)
      have s16 : Same H15 _ := (same_upd (o := .lst [.int x]) hg9).trans (same_upd (o := .lst (iL one ++ [.int x])) hlodd)
      have e16 : upd (upd H15 g9 (.lst [.int x])) lodd (.lst (iL one ++ [.int x])) lodd = some (.lst (iL (one ++ [x]))) := by rw [upd_same]; simp [iL]
      generalize upd (upd H15 g9 (.lst [.int x])) lodd (.lst (iL one ++ [.int x])) = H16 at *
      have T16 := s16 _ _ T15
      have S16 := S15.trans s16
      clear O15 T15 P15 S15 s16 hg9 hlodd
      walk_at "st"
      intro t7 ht7
      walk_at "st"
      intro t8 ht8
      walk_at "st"
      intro t9 ht9
      have s17 : Same H16 _ := (same_upd (o := .tup [.ref lodd, .ref loth]) ht7).trans ((same_upd (o := .tup [.ref loth, .ref lodd]) ht8).trans (same_upd (o := .tup [.ref t7, .ref t8]) ht9))
      have f7 : upd (upd (upd H16 t7 (.tup [.ref lodd, .ref loth])) t8 (.tup [.ref loth, .ref lodd])) t9 (.tup [.ref t7, .ref t8]) t7 = some (.tup [.ref lodd, .ref loth]) := ((same_upd ht8).trans (same_upd ht9)) _ _ upd_same
      have f8 : upd (upd (upd H16 t7 (.tup [.ref lodd, .ref loth])) t8 (.tup [.ref loth, .ref lodd])) t9 (.tup [.ref t7, .ref t8]) t8 = some (.tup [.ref loth, .ref lodd]) := (same_upd ht9) _ _ upd_same
      have f9 : upd (upd (upd H16 t7 (.tup [.ref lodd, .ref loth])) t8 (.tup [.ref loth, .ref lodd])) t9 (.tup [.ref t7, .ref t8]) t9 = some (.tup [.ref t7, .ref t8]) := upd_same
      generalize upd (upd (upd H16 t7 (.tup [.ref lodd, .ref loth])) t8 (.tup [.ref loth, .ref lodd])) t9 (.tup [.ref t7, .ref t8]) = H17 at *
      have T17 := s17 _ _ T16
      have E17 := s17 _ _ e16
      have S17 := S16.trans s17
      clear s17 T16 e16 S16 ht7 ht8 ht9
      walk_at "st"
      refine ⟨⟨_, SqT.of f9⟩, lp_tup (xs := [.ref t7, .ref t8]) (fun i σ H18 => ∃ w : Option V, σ = [some (.ref a), some (.ref lh), some (.int top), some (.int cell), some (.ref lp), some (.ref lo), some (.ref loth), some (.ref t3), some (.bl (decide (left one = left other))), some (.ref lk), some (.bl (decide (left one = left other))), w1, w2, some (.ref lodd), w, u12] ∧ Same H17 H18) ?_ ?_ ?_ ?_⟩
      · exact ⟨_, rfl, Same.refl _⟩
      · rintro i σ H18 _ ⟨w, rfl, sm2⟩
        exact SqT.of (sm2 _ _ f9)
      · rintro i y σ H18 hy ⟨w, rfl, sm2⟩
        obtain ⟨ty, y1, y2, z1, z2, rfl, fy, d1, d2, dl1, dl2, hbad⟩ : ∃ (ty y1 y2 : Addr) (z1 z2 : List Int), y = .ref ty ∧ H17 ty = some (.tup [.ref y1, .ref y2]) ∧ H17 y1 = some (.lst (iL z1)) ∧ H17 y2 = some (.lst (iL z2)) ∧ z1.length ≤ 20000 ∧ z2.length ≤ 20000 ∧ x ∈ z1 ++ z2 := by
          match i, hy with
          | 0, hy => exact ⟨t7, lodd, loth, _, _, (Option.some.inj hy).symm, f7, E17, T17, by simp; omega, by omega, by simp⟩
          | 1, hy => exact ⟨t8, loth, lodd, _, _, (Option.some.inj hy).symm, f8, T17, E17, by omega, by simp; omega, by simp⟩
          | n + 2, hy => simp at hy
        walk_at "st"
        refine i_ixT (SqT.of (sm2 _ _ fy)) (by decide) (v := .ref y1) rfl ?_
        walk_at "st"
        refine i_ixT (SqT.of (sm2 _ _ fy)) (by decide) (v := .ref y2) rfl ?_
        walk_at "st"
        refine ⟨y1, y2, z1, z2, top, rfl, sm2 _ _ d1, sm2 _ _ d2, dl1, dl2, fun t4 v4 lk2 bs H19 s19 e19 hk19 _ _ q3 => ?_⟩
        have ebs := q3 hT (fun z => hxb (z x hbad))
        subst ebs
        walk_at "st"
        refine i_ixT (SqT.of e19) (by decide) (v := .ref lk2) rfl ?_
        walk_at "st"
        refine ⟨"NoPlace", rfl, by decide +kernel, fun ld H20 s20 hd20 => ?_⟩
        walk_at "st"
        refine i_neSame (.list ((dueX "NoPlace").map PyData.bool)) (pd_bls (s20 _ _ hk19)) (pd_bls hd20) ?_
        walk_at "st"
        exact sm2.trans (s19.trans s20)
      rintro σ H18 ⟨w, rfl, sm2⟩
      have T18 := sm2 _ _ T17
      have E18 := sm2 _ _ E17
      have S18 := S17.trans sm2
      clear sm2 T17 E17 S17 f7 f8 f9
      walk_at "st"
      intro t10 ht10
      have s21 : Same H18 _ := same_upd (o := .tup [.int 0, .int 17, .int (-3)]) ht10
      have e21 : upd H18 t10 (.tup [.int 0, .int 17, .int (-3)]) t10 = some (.tup [.int 0, .int 17, .int (-3)]) := upd_same
      generalize upd H18 t10 (.tup [.int 0, .int 17, .int (-3)]) = H21 at *
      have T21 := s21 _ _ T18
      have E21 := s21 _ _ E18
      have S21 := S18.trans s21
      walk_at "st"
      refine ⟨⟨_, SqT.of e21⟩, lp_tup (xs := [.int 0, .int 17, .int (-3)]) (fun i σ H22 => ∃ w2' : Option V, σ = [some (.ref a), some (.ref lh), some (.int top), some (.int cell), some (.ref lp), some (.ref lo), some (.ref loth), some (.ref t3), some (.bl (decide (left one = left other))), some (.ref lk), some (.bl (decide (left one = left other))), w1, w2, some (.ref lodd), w, w2'] ∧ Same H21 H22) ?_ ?_ ?_ ?_⟩
      · exact ⟨_, rfl, Same.refl _⟩
      · rintro i σ H22 _ ⟨w', rfl, sm2⟩
        exact SqT.of (sm2 _ _ e21)
      · rintro i y σ H22 hy ⟨w', rfl, sm2⟩
        obtain ⟨bad, rfl, hbad⟩ : ∃ bad : Int, y = .int bad ∧ ¬ okTop bad := by
          match i, hy with
          | 0, hy => exact ⟨0, (Option.some.inj hy).symm, by unfold okTop; omega⟩
          | 1, hy => exact ⟨17, (Option.some.inj hy).symm, by unfold okTop; omega⟩
          | 2, hy => exact ⟨-3, (Option.some.inj hy).symm, by unfold okTop; omega⟩
          | n + 3, hy => simp at hy
        walk_at "st"
        refine ⟨lodd, loth, one ++ [x], other, bad, rfl, sm2 _ _ E21, sm2 _ _ T21, by simp; omega, by omega, fun t4 v4 lk2 bs H23 s23 e23 hk23 _ q2 _ => ?_⟩
        have ebs := q2 hbad
        subst ebs
        walk_at "st"
        refine i_ixT (SqT.of e23) (by decide) (v := .ref lk2) rfl ?_
        walk_at "st"
        refine ⟨"NoBox", rfl, by decide +kernel, fun ld H24 s24 hd24 => ?_⟩
        walk_at "st"
        refine i_neSame (.list ((dueX "NoBox").map PyData.bool)) (pd_bls (s24 _ _ hk23)) (pd_bls hd24) ?_
        walk_at "st"
        exact sm2.trans (s23.trans s24)
      rintro σ H22 ⟨w', rfl, sm2⟩
      exact ⟨_, _, _, _, _, _, _, _, _, _, _, _, _, rfl, S21.trans sm2⟩
    rintro σ H4 ⟨u0, u1, u2, u3, u4, u5, u6, u7, u8, u9, u10, u11, u12, rfl, sm⟩
    walk_at "st"
    exact k _
end
theorem all_mk {l : PySem.W.OpenLaw} {w : World} {K : PySem.W.Frag} {h : Heap} {mg : Str → Option Value} {fa : Addr} (X : K.In h) (G : h.Ns mainGlobals mg) (hfa : mg "law" = some (.ref fa))
    {f_law_cell_at : Addr} {od_law_cell_at an_law_cell_at : Option Addr} {sl_law_cell_at : Array (Option Value)} {oc_law_cell_at kV_law_cell_at dc_law_cell_at pm_law_cell_at cd_law_cell_at ct_law_cell_at : Value}
    {f_law_draws : Addr} {od_law_draws an_law_draws : Option Addr} {sl_law_draws : Array (Option Value)} {oc_law_draws kV_law_draws dc_law_draws pm_law_draws cd_law_draws ct_law_draws : Value}
    {f_law_a_kin : Addr} {od_law_a_kin an_law_a_kin : Option Addr} {sl_law_a_kin : Array (Option Value)} {oc_law_a_kin kV_law_a_kin dc_law_a_kin pm_law_a_kin cd_law_a_kin ct_law_a_kin : Value}
    {f_law_due_kin : Addr} {od_law_due_kin an_law_due_kin : Option Addr} {sl_law_due_kin : Array (Option Value)} {oc_law_due_kin kV_law_due_kin dc_law_due_kin pm_law_due_kin cd_law_due_kin ct_law_due_kin : Value}
    {f_moves_of : Addr} {od_moves_of an_moves_of : Option Addr} {sl_moves_of : Array (Option Value)} {oc_moves_of kV_moves_of dc_moves_of pm_moves_of cd_moves_of ct_moves_of : Value}
    {f_turning_of : Addr} {od_turning_of an_turning_of : Option Addr} {sl_turning_of : Array (Option Value)} {oc_turning_of kV_turning_of dc_turning_of pm_turning_of cd_turning_of ct_turning_of : Value}
    {f_standing_of : Addr} {od_standing_of an_standing_of : Option Addr} {sl_standing_of : Array (Option Value)} {oc_standing_of kV_standing_of dc_standing_of pm_standing_of cd_standing_of ct_standing_of : Value}
    {f_law_a_last : Addr} {od_law_a_last an_law_a_last : Option Addr} {sl_law_a_last : Array (Option Value)} {oc_law_a_last kV_law_a_last dc_law_a_last pm_law_a_last cd_law_a_last ct_law_a_last : Value}
    {f_law_a_standing : Addr} {od_law_a_standing an_law_a_standing : Option Addr} {sl_law_a_standing : Array (Option Value)} {oc_law_a_standing kV_law_a_standing dc_law_a_standing pm_law_a_standing cd_law_a_standing ct_law_a_standing : Value}
    {f_law_places_of : Addr} {od_law_places_of an_law_places_of : Option Addr} {sl_law_places_of : Array (Option Value)} {oc_law_places_of kV_law_places_of dc_law_places_of pm_law_places_of cd_law_places_of ct_law_places_of : Value}
    {f_refuse_no_top : Addr} {od_refuse_no_top an_refuse_no_top : Option Addr} {sl_refuse_no_top : Array (Option Value)} {oc_refuse_no_top kV_refuse_no_top dc_refuse_no_top pm_refuse_no_top cd_refuse_no_top ct_refuse_no_top : Value}
    {f_refuse_no_place : Addr} {od_refuse_no_place an_refuse_no_place : Option Addr} {sl_refuse_no_place : Array (Option Value)} {oc_refuse_no_place kV_refuse_no_place dc_refuse_no_place pm_refuse_no_place cd_refuse_no_place ct_refuse_no_place : Value}
    {f_left_of : Addr} {od_left_of an_left_of : Option Addr} {sl_left_of : Array (Option Value)} {oc_left_of kV_left_of dc_left_of pm_left_of cd_left_of ct_left_of : Value}
    {f_alike_rows : Addr} {od_alike_rows an_alike_rows : Option Addr} {sl_alike_rows : Array (Option Value)} {oc_alike_rows kV_alike_rows dc_alike_rows pm_alike_rows cd_alike_rows ct_alike_rows : Value}
    {f_law_told : Addr} {od_law_told an_law_told : Option Addr} {sl_law_told : Array (Option Value)} {oc_law_told kV_law_told dc_law_told pm_law_told cd_law_told ct_law_told : Value}
    {f_law_a_on : Addr} {od_law_a_on an_law_a_on : Option Addr} {sl_law_a_on : Array (Option Value)} {oc_law_a_on kV_law_a_on dc_law_a_on pm_law_a_on cd_law_a_on ct_law_a_on : Value}
    {f_law_a_rest : Addr} {od_law_a_rest an_law_a_rest : Option Addr} {sl_law_a_rest : Array (Option Value)} {oc_law_a_rest kV_law_a_rest dc_law_a_rest pm_law_a_rest cd_law_a_rest ct_law_a_rest : Value}
    {f_law_a_other : Addr} {od_law_a_other an_law_a_other : Option Addr} {sl_law_a_other : Array (Option Value)} {oc_law_a_other kV_law_a_other dc_law_a_other pm_law_a_other cd_law_a_other ct_law_a_other : Value}
    {f_law : Addr} {od_law an_law : Option Addr} {sl_law : Array (Option Value)} {oc_law kV_law dc_law pm_law cd_law ct_law : Value}
    {t_MOST_TOP : Tok}
    {c_TrainError : Addr}
    {c_NoTrain : Addr}
    {c_NoStand : Addr}
    {c_NoPaper : Addr}
    {c_NoBox : Addr}
    {c_NoSwitch : Addr}
    {c_NoPlace : Addr}
    {c_NoTable : Addr}
    {c_NoText : Addr}
    {c_NoRow : Addr}
    {c_NoPiece : Addr}
    {c_NothingLeft : Addr}
    {c_TooMany : Addr}
    (a_law_cell_at : PySem.W.nsIn K mainGlobals "_law_cell_at" = some (some (.ref f_law_cell_at))) (l_law_cell_at : K.lookup f_law_cell_at = some ⟨oc_law_cell_at, od_law_cell_at, .func (PySem.W.fnOf "_law_cell_at" "_law_cell_at" (defArgs s_law_cell_at) (defBody s_law_cell_at) (defScope s_law_cell_at) .none kV_law_cell_at dc_law_cell_at pm_law_cell_at an_law_cell_at cd_law_cell_at ct_law_cell_at), sl_law_cell_at⟩) (c_law_cell_at : PySem.W.codeIn K cd_law_cell_at "_law_cell_at" = true) (k_law_cell_at : PySem.W.keepIn K (.ref f_law_cell_at) = true)
    (a_law_draws : PySem.W.nsIn K mainGlobals "_law_draws" = some (some (.ref f_law_draws))) (l_law_draws : K.lookup f_law_draws = some ⟨oc_law_draws, od_law_draws, .func (PySem.W.fnOf "_law_draws" "_law_draws" (defArgs s_law_draws) (defBody s_law_draws) (defScope s_law_draws) .none kV_law_draws dc_law_draws pm_law_draws an_law_draws cd_law_draws ct_law_draws), sl_law_draws⟩) (c_law_draws : PySem.W.codeIn K cd_law_draws "_law_draws" = true) (k_law_draws : PySem.W.keepIn K (.ref f_law_draws) = true)
    (a_law_a_kin : PySem.W.nsIn K mainGlobals "_law_a_kin" = some (some (.ref f_law_a_kin))) (l_law_a_kin : K.lookup f_law_a_kin = some ⟨oc_law_a_kin, od_law_a_kin, .func (PySem.W.fnOf "_law_a_kin" "_law_a_kin" (defArgs s_law_a_kin) (defBody s_law_a_kin) (defScope s_law_a_kin) .none kV_law_a_kin dc_law_a_kin pm_law_a_kin an_law_a_kin cd_law_a_kin ct_law_a_kin), sl_law_a_kin⟩) (c_law_a_kin : PySem.W.codeIn K cd_law_a_kin "_law_a_kin" = true) (k_law_a_kin : PySem.W.keepIn K (.ref f_law_a_kin) = true)
    (a_law_due_kin : PySem.W.nsIn K mainGlobals "_law_due_kin" = some (some (.ref f_law_due_kin))) (l_law_due_kin : K.lookup f_law_due_kin = some ⟨oc_law_due_kin, od_law_due_kin, .func (PySem.W.fnOf "_law_due_kin" "_law_due_kin" (defArgs s_law_due_kin) (defBody s_law_due_kin) (defScope s_law_due_kin) .none kV_law_due_kin dc_law_due_kin pm_law_due_kin an_law_due_kin cd_law_due_kin ct_law_due_kin), sl_law_due_kin⟩) (c_law_due_kin : PySem.W.codeIn K cd_law_due_kin "_law_due_kin" = true) (k_law_due_kin : PySem.W.keepIn K (.ref f_law_due_kin) = true)
    (a_moves_of : PySem.W.nsIn K mainGlobals "moves_of" = some (some (.ref f_moves_of))) (l_moves_of : K.lookup f_moves_of = some ⟨oc_moves_of, od_moves_of, .func (PySem.W.fnOf "moves_of" "moves_of" (defArgs s_moves_of) (defBody s_moves_of) (defScope s_moves_of) .none kV_moves_of dc_moves_of pm_moves_of an_moves_of cd_moves_of ct_moves_of), sl_moves_of⟩) (c_moves_of : PySem.W.codeIn K cd_moves_of "moves_of" = true) (k_moves_of : PySem.W.keepIn K (.ref f_moves_of) = true)
    (a_turning_of : PySem.W.nsIn K mainGlobals "turning_of" = some (some (.ref f_turning_of))) (l_turning_of : K.lookup f_turning_of = some ⟨oc_turning_of, od_turning_of, .func (PySem.W.fnOf "turning_of" "turning_of" (defArgs s_turning_of) (defBody s_turning_of) (defScope s_turning_of) .none kV_turning_of dc_turning_of pm_turning_of an_turning_of cd_turning_of ct_turning_of), sl_turning_of⟩) (c_turning_of : PySem.W.codeIn K cd_turning_of "turning_of" = true) (k_turning_of : PySem.W.keepIn K (.ref f_turning_of) = true)
    (a_standing_of : PySem.W.nsIn K mainGlobals "standing_of" = some (some (.ref f_standing_of))) (l_standing_of : K.lookup f_standing_of = some ⟨oc_standing_of, od_standing_of, .func (PySem.W.fnOf "standing_of" "standing_of" (defArgs s_standing_of) (defBody s_standing_of) (defScope s_standing_of) .none kV_standing_of dc_standing_of pm_standing_of an_standing_of cd_standing_of ct_standing_of), sl_standing_of⟩) (c_standing_of : PySem.W.codeIn K cd_standing_of "standing_of" = true) (k_standing_of : PySem.W.keepIn K (.ref f_standing_of) = true)
    (a_law_a_last : PySem.W.nsIn K mainGlobals "_law_a_last" = some (some (.ref f_law_a_last))) (l_law_a_last : K.lookup f_law_a_last = some ⟨oc_law_a_last, od_law_a_last, .func (PySem.W.fnOf "_law_a_last" "_law_a_last" (defArgs s_law_a_last) (defBody s_law_a_last) (defScope s_law_a_last) .none kV_law_a_last dc_law_a_last pm_law_a_last an_law_a_last cd_law_a_last ct_law_a_last), sl_law_a_last⟩) (c_law_a_last : PySem.W.codeIn K cd_law_a_last "_law_a_last" = true) (k_law_a_last : PySem.W.keepIn K (.ref f_law_a_last) = true)
    (a_law_a_standing : PySem.W.nsIn K mainGlobals "_law_a_standing" = some (some (.ref f_law_a_standing))) (l_law_a_standing : K.lookup f_law_a_standing = some ⟨oc_law_a_standing, od_law_a_standing, .func (PySem.W.fnOf "_law_a_standing" "_law_a_standing" (defArgs s_law_a_standing) (defBody s_law_a_standing) (defScope s_law_a_standing) .none kV_law_a_standing dc_law_a_standing pm_law_a_standing an_law_a_standing cd_law_a_standing ct_law_a_standing), sl_law_a_standing⟩) (c_law_a_standing : PySem.W.codeIn K cd_law_a_standing "_law_a_standing" = true) (k_law_a_standing : PySem.W.keepIn K (.ref f_law_a_standing) = true)
    (a_law_places_of : PySem.W.nsIn K mainGlobals "_law_places_of" = some (some (.ref f_law_places_of))) (l_law_places_of : K.lookup f_law_places_of = some ⟨oc_law_places_of, od_law_places_of, .func (PySem.W.fnOf "_law_places_of" "_law_places_of" (defArgs s_law_places_of) (defBody s_law_places_of) (defScope s_law_places_of) .none kV_law_places_of dc_law_places_of pm_law_places_of an_law_places_of cd_law_places_of ct_law_places_of), sl_law_places_of⟩) (c_law_places_of : PySem.W.codeIn K cd_law_places_of "_law_places_of" = true) (k_law_places_of : PySem.W.keepIn K (.ref f_law_places_of) = true)
    (a_refuse_no_top : PySem.W.nsIn K mainGlobals "refuse_no_top" = some (some (.ref f_refuse_no_top))) (l_refuse_no_top : K.lookup f_refuse_no_top = some ⟨oc_refuse_no_top, od_refuse_no_top, .func (PySem.W.fnOf "refuse_no_top" "refuse_no_top" (defArgs s_refuse_no_top) (defBody s_refuse_no_top) (defScope s_refuse_no_top) .none kV_refuse_no_top dc_refuse_no_top pm_refuse_no_top an_refuse_no_top cd_refuse_no_top ct_refuse_no_top), sl_refuse_no_top⟩) (c_refuse_no_top : PySem.W.codeIn K cd_refuse_no_top "refuse_no_top" = true) (k_refuse_no_top : PySem.W.keepIn K (.ref f_refuse_no_top) = true)
    (a_refuse_no_place : PySem.W.nsIn K mainGlobals "refuse_no_place" = some (some (.ref f_refuse_no_place))) (l_refuse_no_place : K.lookup f_refuse_no_place = some ⟨oc_refuse_no_place, od_refuse_no_place, .func (PySem.W.fnOf "refuse_no_place" "refuse_no_place" (defArgs s_refuse_no_place) (defBody s_refuse_no_place) (defScope s_refuse_no_place) .none kV_refuse_no_place dc_refuse_no_place pm_refuse_no_place an_refuse_no_place cd_refuse_no_place ct_refuse_no_place), sl_refuse_no_place⟩) (c_refuse_no_place : PySem.W.codeIn K cd_refuse_no_place "refuse_no_place" = true) (k_refuse_no_place : PySem.W.keepIn K (.ref f_refuse_no_place) = true)
    (a_left_of : PySem.W.nsIn K mainGlobals "left_of" = some (some (.ref f_left_of))) (l_left_of : K.lookup f_left_of = some ⟨oc_left_of, od_left_of, .func (PySem.W.fnOf "left_of" "left_of" (defArgs s_left_of) (defBody s_left_of) (defScope s_left_of) .none kV_left_of dc_left_of pm_left_of an_left_of cd_left_of ct_left_of), sl_left_of⟩) (c_left_of : PySem.W.codeIn K cd_left_of "left_of" = true) (k_left_of : PySem.W.keepIn K (.ref f_left_of) = true)
    (a_alike_rows : PySem.W.nsIn K mainGlobals "alike_rows" = some (some (.ref f_alike_rows))) (l_alike_rows : K.lookup f_alike_rows = some ⟨oc_alike_rows, od_alike_rows, .func (PySem.W.fnOf "alike_rows" "alike_rows" (defArgs s_alike_rows) (defBody s_alike_rows) (defScope s_alike_rows) .none kV_alike_rows dc_alike_rows pm_alike_rows an_alike_rows cd_alike_rows ct_alike_rows), sl_alike_rows⟩) (c_alike_rows : PySem.W.codeIn K cd_alike_rows "alike_rows" = true) (k_alike_rows : PySem.W.keepIn K (.ref f_alike_rows) = true)
    (a_law_told : PySem.W.nsIn K mainGlobals "_law_told" = some (some (.ref f_law_told))) (l_law_told : K.lookup f_law_told = some ⟨oc_law_told, od_law_told, .func (PySem.W.fnOf "_law_told" "_law_told" (defArgs s_law_told) (defBody s_law_told) (defScope s_law_told) .none kV_law_told dc_law_told pm_law_told an_law_told cd_law_told ct_law_told), sl_law_told⟩) (c_law_told : PySem.W.codeIn K cd_law_told "_law_told" = true) (k_law_told : PySem.W.keepIn K (.ref f_law_told) = true)
    (a_law_a_on : PySem.W.nsIn K mainGlobals "_law_a_on" = some (some (.ref f_law_a_on))) (l_law_a_on : K.lookup f_law_a_on = some ⟨oc_law_a_on, od_law_a_on, .func (PySem.W.fnOf "_law_a_on" "_law_a_on" (defArgs s_law_a_on) (defBody s_law_a_on) (defScope s_law_a_on) .none kV_law_a_on dc_law_a_on pm_law_a_on an_law_a_on cd_law_a_on ct_law_a_on), sl_law_a_on⟩) (c_law_a_on : PySem.W.codeIn K cd_law_a_on "_law_a_on" = true) (k_law_a_on : PySem.W.keepIn K (.ref f_law_a_on) = true)
    (a_law_a_rest : PySem.W.nsIn K mainGlobals "_law_a_rest" = some (some (.ref f_law_a_rest))) (l_law_a_rest : K.lookup f_law_a_rest = some ⟨oc_law_a_rest, od_law_a_rest, .func (PySem.W.fnOf "_law_a_rest" "_law_a_rest" (defArgs s_law_a_rest) (defBody s_law_a_rest) (defScope s_law_a_rest) .none kV_law_a_rest dc_law_a_rest pm_law_a_rest an_law_a_rest cd_law_a_rest ct_law_a_rest), sl_law_a_rest⟩) (c_law_a_rest : PySem.W.codeIn K cd_law_a_rest "_law_a_rest" = true) (k_law_a_rest : PySem.W.keepIn K (.ref f_law_a_rest) = true)
    (a_law_a_other : PySem.W.nsIn K mainGlobals "_law_a_other" = some (some (.ref f_law_a_other))) (l_law_a_other : K.lookup f_law_a_other = some ⟨oc_law_a_other, od_law_a_other, .func (PySem.W.fnOf "_law_a_other" "_law_a_other" (defArgs s_law_a_other) (defBody s_law_a_other) (defScope s_law_a_other) .none kV_law_a_other dc_law_a_other pm_law_a_other an_law_a_other cd_law_a_other ct_law_a_other), sl_law_a_other⟩) (c_law_a_other : PySem.W.codeIn K cd_law_a_other "_law_a_other" = true) (k_law_a_other : PySem.W.keepIn K (.ref f_law_a_other) = true)
    (a_law : PySem.W.nsIn K mainGlobals "law" = some (some (.ref f_law))) (l_law : K.lookup f_law = some ⟨oc_law, od_law, .func (PySem.W.fnOf "law" "law" (defArgs s_law) (defBody s_law) (defScope s_law) .none kV_law dc_law pm_law an_law cd_law ct_law), sl_law⟩) (c_law : PySem.W.codeIn K cd_law "law" = true) (k_law : PySem.W.keepIn K (.ref f_law) = true)
    (z_ValueError : PySem.W.nsIn K mainGlobals "ValueError" = some none)
    (z_bool : PySem.W.nsIn K mainGlobals "bool" = some none)
    (z_enumerate : PySem.W.nsIn K mainGlobals "enumerate" = some none)
    (z_int : PySem.W.nsIn K mainGlobals "int" = some none)
    (z_isinstance : PySem.W.nsIn K mainGlobals "isinstance" = some none)
    (z_len : PySem.W.nsIn K mainGlobals "len" = some none)
    (z_list : PySem.W.nsIn K mainGlobals "list" = some none)
    (z_max : PySem.W.nsIn K mainGlobals "max" = some none)
    (z_min : PySem.W.nsIn K mainGlobals "min" = some none)
    (z_range : PySem.W.nsIn K mainGlobals "range" = some none)
    (z_sorted : PySem.W.nsIn K mainGlobals "sorted" = some none)
    (z_zip : PySem.W.nsIn K mainGlobals "zip" = some none)
    (g_MOST_TOP : PySem.W.nsIn K mainGlobals "MOST_TOP" = some (some (.int 16 t_MOST_TOP)))
    (n_TrainError : PySem.W.nsIn K mainGlobals "TrainError" = some (some (.ref c_TrainError)))
    (n_NoTrain : PySem.W.nsIn K mainGlobals "NoTrain" = some (some (.ref c_NoTrain)))
    (n_NoStand : PySem.W.nsIn K mainGlobals "NoStand" = some (some (.ref c_NoStand)))
    (n_NoPaper : PySem.W.nsIn K mainGlobals "NoPaper" = some (some (.ref c_NoPaper)))
    (n_NoBox : PySem.W.nsIn K mainGlobals "NoBox" = some (some (.ref c_NoBox)))
    (n_NoSwitch : PySem.W.nsIn K mainGlobals "NoSwitch" = some (some (.ref c_NoSwitch)))
    (n_NoPlace : PySem.W.nsIn K mainGlobals "NoPlace" = some (some (.ref c_NoPlace)))
    (n_NoTable : PySem.W.nsIn K mainGlobals "NoTable" = some (some (.ref c_NoTable)))
    (n_NoText : PySem.W.nsIn K mainGlobals "NoText" = some (some (.ref c_NoText)))
    (n_NoRow : PySem.W.nsIn K mainGlobals "NoRow" = some (some (.ref c_NoRow)))
    (n_NoPiece : PySem.W.nsIn K mainGlobals "NoPiece" = some (some (.ref c_NoPiece)))
    (n_NothingLeft : PySem.W.nsIn K mainGlobals "NothingLeft" = some (some (.ref c_NothingLeft)))
    (n_TooMany : PySem.W.nsIn K mainGlobals "TooMany" = some (some (.ref c_TooMany)))
    (x_NoBox : PySem.W.excIn K c_NoBox [.type "ValueError", .type "Exception", .type "BaseException", .type "object"] "ValueError.__new__" = true)
    (e_NoBox : PySem.W.exmOne K (.ref c_NoBox) (.ref c_TrainError) = some true)
    (i_NoBox_ga : PySem.W.findIn K (.ref c_NoBox) "__getattribute__" = some (some (.builtin "BaseException.__getattribute__")))
    (i_NoBox_gt : PySem.W.findIn K (.ref c_NoBox) "__getattr__" = some none)
    (i_NoBox_mb : PySem.W.mroIn K c_NoBox (.type "BaseException") = some true)
    (i_NoBox_hd : PySem.W.hasDictIn K c_NoBox = true)
    (i_NoBox_ca : PySem.W.findIn K (.ref c_NoBox) "__class__" = some (some (.builtin "object.__class__")))
    (i_NoBox_sp : PySem.W.specialIn K (.builtin "object.__class__") "__get__" = some (some (.builtin "getset_descriptor.__get__")))
    (i_NoBox_tk : PySem.W.takesIn K (.builtin "object.__class__") = some true)
    (i_NoBox_mr : PySem.W.mroIn K c_NoBox (.type "object") = some true)
    (k_NoBox_NoTrain : PySem.W.kitOne K (.ref c_NoBox) (.ref c_NoTrain) = some false)
    (k_NoBox_NoStand : PySem.W.kitOne K (.ref c_NoBox) (.ref c_NoStand) = some false)
    (k_NoBox_NoPaper : PySem.W.kitOne K (.ref c_NoBox) (.ref c_NoPaper) = some false)
    (k_NoBox_NoBox : PySem.W.kitOne K (.ref c_NoBox) (.ref c_NoBox) = some true)
    (k_NoBox_NoSwitch : PySem.W.kitOne K (.ref c_NoBox) (.ref c_NoSwitch) = some false)
    (k_NoBox_NoPlace : PySem.W.kitOne K (.ref c_NoBox) (.ref c_NoPlace) = some false)
    (k_NoBox_NoTable : PySem.W.kitOne K (.ref c_NoBox) (.ref c_NoTable) = some false)
    (k_NoBox_NoText : PySem.W.kitOne K (.ref c_NoBox) (.ref c_NoText) = some false)
    (k_NoBox_NoRow : PySem.W.kitOne K (.ref c_NoBox) (.ref c_NoRow) = some false)
    (k_NoBox_NoPiece : PySem.W.kitOne K (.ref c_NoBox) (.ref c_NoPiece) = some false)
    (k_NoBox_NothingLeft : PySem.W.kitOne K (.ref c_NoBox) (.ref c_NothingLeft) = some false)
    (k_NoBox_TooMany : PySem.W.kitOne K (.ref c_NoBox) (.ref c_TooMany) = some false)
    (k_NoBox_ValueError : PySem.W.kitOne K (.ref c_NoBox) (.type "ValueError") = some true)
    (x_NoPlace : PySem.W.excIn K c_NoPlace [.type "ValueError", .type "Exception", .type "BaseException", .type "object"] "ValueError.__new__" = true)
    (e_NoPlace : PySem.W.exmOne K (.ref c_NoPlace) (.ref c_TrainError) = some true)
    (i_NoPlace_ga : PySem.W.findIn K (.ref c_NoPlace) "__getattribute__" = some (some (.builtin "BaseException.__getattribute__")))
    (i_NoPlace_gt : PySem.W.findIn K (.ref c_NoPlace) "__getattr__" = some none)
    (i_NoPlace_mb : PySem.W.mroIn K c_NoPlace (.type "BaseException") = some true)
    (i_NoPlace_hd : PySem.W.hasDictIn K c_NoPlace = true)
    (i_NoPlace_ca : PySem.W.findIn K (.ref c_NoPlace) "__class__" = some (some (.builtin "object.__class__")))
    (i_NoPlace_sp : PySem.W.specialIn K (.builtin "object.__class__") "__get__" = some (some (.builtin "getset_descriptor.__get__")))
    (i_NoPlace_tk : PySem.W.takesIn K (.builtin "object.__class__") = some true)
    (i_NoPlace_mr : PySem.W.mroIn K c_NoPlace (.type "object") = some true)
    (k_NoPlace_NoTrain : PySem.W.kitOne K (.ref c_NoPlace) (.ref c_NoTrain) = some false)
    (k_NoPlace_NoStand : PySem.W.kitOne K (.ref c_NoPlace) (.ref c_NoStand) = some false)
    (k_NoPlace_NoPaper : PySem.W.kitOne K (.ref c_NoPlace) (.ref c_NoPaper) = some false)
    (k_NoPlace_NoBox : PySem.W.kitOne K (.ref c_NoPlace) (.ref c_NoBox) = some false)
    (k_NoPlace_NoSwitch : PySem.W.kitOne K (.ref c_NoPlace) (.ref c_NoSwitch) = some false)
    (k_NoPlace_NoPlace : PySem.W.kitOne K (.ref c_NoPlace) (.ref c_NoPlace) = some true)
    (k_NoPlace_NoTable : PySem.W.kitOne K (.ref c_NoPlace) (.ref c_NoTable) = some false)
    (k_NoPlace_NoText : PySem.W.kitOne K (.ref c_NoPlace) (.ref c_NoText) = some false)
    (k_NoPlace_NoRow : PySem.W.kitOne K (.ref c_NoPlace) (.ref c_NoRow) = some false)
    (k_NoPlace_NoPiece : PySem.W.kitOne K (.ref c_NoPlace) (.ref c_NoPiece) = some false)
    (k_NoPlace_NothingLeft : PySem.W.kitOne K (.ref c_NoPlace) (.ref c_NothingLeft) = some false)
    (k_NoPlace_TooMany : PySem.W.kitOne K (.ref c_NoPlace) (.ref c_TooMany) = some false)
    (k_NoPlace_ValueError : PySem.W.kitOne K (.ref c_NoPlace) (.type "ValueError") = some true) :
    ∃ fd : FuncData, (∀ (s : Shared) (v : Value), BindsTo s fd ⟨[v], []⟩ [("script", v)]) ∧ ∀ base : Heap, K.In base → base.Ns mainGlobals mg → FnOk l.prog w K mg base CX0 7 fa fd ["script"] (spLaw K) := by
  have e := hfa.symm.trans (PySem.W.mg_of X G a_law)
  cases e
  have T : Txt mg := ⟨PySem.W.mg_none_of X G z_ValueError, PySem.W.mg_none_of X G z_bool, PySem.W.mg_none_of X G z_enumerate, PySem.W.mg_none_of X G z_int, PySem.W.mg_none_of X G z_isinstance, PySem.W.mg_none_of X G z_len, PySem.W.mg_none_of X G z_list, PySem.W.mg_none_of X G z_max, PySem.W.mg_none_of X G z_min, PySem.W.mg_none_of X G z_range, PySem.W.mg_none_of X G z_sorted, PySem.W.mg_none_of X G z_zip, ⟨_, PySem.W.mg_of X G g_MOST_TOP⟩⟩
  let Z : Cls K mg := ⟨c_TrainError, c_NoTrain, c_NoStand, c_NoPaper, c_NoBox, c_NoSwitch, c_NoPlace, c_NoTable, c_NoText, c_NoRow, c_NoPiece, c_NothingLeft, c_TooMany, PySem.W.mg_of X G n_TrainError, PySem.W.mg_of X G n_NoTrain, PySem.W.mg_of X G n_NoStand, PySem.W.mg_of X G n_NoPaper, PySem.W.mg_of X G n_NoBox, PySem.W.mg_of X G n_NoSwitch, PySem.W.mg_of X G n_NoPlace, PySem.W.mg_of X G n_NoTable, PySem.W.mg_of X G n_NoText, PySem.W.mg_of X G n_NoRow, PySem.W.mg_of X G n_NoPiece, PySem.W.mg_of X G n_NothingLeft, PySem.W.mg_of X G n_TooMany, x_NoBox, e_NoBox, i_NoBox_ga, i_NoBox_gt, i_NoBox_mb, i_NoBox_hd, i_NoBox_ca, i_NoBox_sp, i_NoBox_tk, i_NoBox_mr, k_NoBox_NoTrain, k_NoBox_NoStand, k_NoBox_NoPaper, k_NoBox_NoBox, k_NoBox_NoSwitch, k_NoBox_NoPlace, k_NoBox_NoTable, k_NoBox_NoText, k_NoBox_NoRow, k_NoBox_NoPiece, k_NoBox_NothingLeft, k_NoBox_TooMany, k_NoBox_ValueError, x_NoPlace, e_NoPlace, i_NoPlace_ga, i_NoPlace_gt, i_NoPlace_mb, i_NoPlace_hd, i_NoPlace_ca, i_NoPlace_sp, i_NoPlace_tk, i_NoPlace_mr, k_NoPlace_NoTrain, k_NoPlace_NoStand, k_NoPlace_NoPaper, k_NoPlace_NoBox, k_NoPlace_NoSwitch, k_NoPlace_NoPlace, k_NoPlace_NoTable, k_NoPlace_NoText, k_NoPlace_NoRow, k_NoPlace_NoPiece, k_NoPlace_NothingLeft, k_NoPlace_TooMany, k_NoPlace_ValueError⟩
  have F_law_cell_at := fun_mk (st := s_law_cell_at) l_law_cell_at c_law_cell_at k_law_cell_at
  have D_law_cell_at : Def K mg "_law_cell_at" s_law_cell_at := ⟨_, _, F_law_cell_at, PySem.W.mg_of X G a_law_cell_at⟩
  have F_law_draws := fun_mk (st := s_law_draws) l_law_draws c_law_draws k_law_draws
  have D_law_draws : Def K mg "_law_draws" s_law_draws := ⟨_, _, F_law_draws, PySem.W.mg_of X G a_law_draws⟩
  have F_law_a_kin := fun_mk (st := s_law_a_kin) l_law_a_kin c_law_a_kin k_law_a_kin
  have D_law_a_kin : Def K mg "_law_a_kin" s_law_a_kin := ⟨_, _, F_law_a_kin, PySem.W.mg_of X G a_law_a_kin⟩
  have F_law_due_kin := fun_mk (st := s_law_due_kin) l_law_due_kin c_law_due_kin k_law_due_kin
  have D_law_due_kin : Def K mg "_law_due_kin" s_law_due_kin := ⟨_, _, F_law_due_kin, PySem.W.mg_of X G a_law_due_kin⟩
  have F_moves_of := fun_mk (st := s_moves_of) l_moves_of c_moves_of k_moves_of
  have D_moves_of : Def K mg "moves_of" s_moves_of := ⟨_, _, F_moves_of, PySem.W.mg_of X G a_moves_of⟩
  have F_turning_of := fun_mk (st := s_turning_of) l_turning_of c_turning_of k_turning_of
  have D_turning_of : Def K mg "turning_of" s_turning_of := ⟨_, _, F_turning_of, PySem.W.mg_of X G a_turning_of⟩
  have F_standing_of := fun_mk (st := s_standing_of) l_standing_of c_standing_of k_standing_of
  have D_standing_of : Def K mg "standing_of" s_standing_of := ⟨_, _, F_standing_of, PySem.W.mg_of X G a_standing_of⟩
  have F_law_a_last := fun_mk (st := s_law_a_last) l_law_a_last c_law_a_last k_law_a_last
  have D_law_a_last : Def K mg "_law_a_last" s_law_a_last := ⟨_, _, F_law_a_last, PySem.W.mg_of X G a_law_a_last⟩
  have F_law_a_standing := fun_mk (st := s_law_a_standing) l_law_a_standing c_law_a_standing k_law_a_standing
  have D_law_a_standing : Def K mg "_law_a_standing" s_law_a_standing := ⟨_, _, F_law_a_standing, PySem.W.mg_of X G a_law_a_standing⟩
  have F_law_places_of := fun_mk (st := s_law_places_of) l_law_places_of c_law_places_of k_law_places_of
  have D_law_places_of : Def K mg "_law_places_of" s_law_places_of := ⟨_, _, F_law_places_of, PySem.W.mg_of X G a_law_places_of⟩
  have F_refuse_no_top := fun_mk (st := s_refuse_no_top) l_refuse_no_top c_refuse_no_top k_refuse_no_top
  have D_refuse_no_top : Def K mg "refuse_no_top" s_refuse_no_top := ⟨_, _, F_refuse_no_top, PySem.W.mg_of X G a_refuse_no_top⟩
  have F_refuse_no_place := fun_mk (st := s_refuse_no_place) l_refuse_no_place c_refuse_no_place k_refuse_no_place
  have D_refuse_no_place : Def K mg "refuse_no_place" s_refuse_no_place := ⟨_, _, F_refuse_no_place, PySem.W.mg_of X G a_refuse_no_place⟩
  have F_left_of := fun_mk (st := s_left_of) l_left_of c_left_of k_left_of
  have D_left_of : Def K mg "left_of" s_left_of := ⟨_, _, F_left_of, PySem.W.mg_of X G a_left_of⟩
  have F_alike_rows := fun_mk (st := s_alike_rows) l_alike_rows c_alike_rows k_alike_rows
  have D_alike_rows : Def K mg "alike_rows" s_alike_rows := ⟨_, _, F_alike_rows, PySem.W.mg_of X G a_alike_rows⟩
  have F_law_told := fun_mk (st := s_law_told) l_law_told c_law_told k_law_told
  have D_law_told : Def K mg "_law_told" s_law_told := ⟨_, _, F_law_told, PySem.W.mg_of X G a_law_told⟩
  have F_law_a_on := fun_mk (st := s_law_a_on) l_law_a_on c_law_a_on k_law_a_on
  have D_law_a_on : Def K mg "_law_a_on" s_law_a_on := ⟨_, _, F_law_a_on, PySem.W.mg_of X G a_law_a_on⟩
  have F_law_a_rest := fun_mk (st := s_law_a_rest) l_law_a_rest c_law_a_rest k_law_a_rest
  have D_law_a_rest : Def K mg "_law_a_rest" s_law_a_rest := ⟨_, _, F_law_a_rest, PySem.W.mg_of X G a_law_a_rest⟩
  have F_law_a_other := fun_mk (st := s_law_a_other) l_law_a_other c_law_a_other k_law_a_other
  have D_law_a_other : Def K mg "_law_a_other" s_law_a_other := ⟨_, _, F_law_a_other, PySem.W.mg_of X G a_law_a_other⟩
  have F_law := fun_mk (st := s_law) l_law c_law k_law
  have D_law : Def K mg "law" s_law := ⟨_, _, F_law, PySem.W.mg_of X G a_law⟩
  refine ⟨PySem.W.fnOf "law" "law" (defArgs s_law) (defBody s_law) (defScope s_law) .none kV_law dc_law pm_law an_law cd_law ct_law, fun s v => .of_eq rfl, fun base _ _ => ?_⟩
  have C_law_cell_at := ok_law_cell_at (P := l.prog) (w := w) (base := base) T D_law_cell_at 
  have C_law_draws := ok_law_draws (P := l.prog) (w := w) (base := base) T D_law_draws 
  have C_law_a_kin := ok_law_a_kin (P := l.prog) (w := w) (base := base) T Z D_law_a_kin 
  have C_law_due_kin := ok_law_due_kin (P := l.prog) (w := w) (base := base) T D_law_due_kin 
  have C_moves_of := ok_moves_of (P := l.prog) (w := w) (base := base) T D_moves_of 
  have C_turning_of := ok_turning_of (P := l.prog) (w := w) (base := base) T D_turning_of C_moves_of
  have C_standing_of := ok_standing_of (P := l.prog) (w := w) (base := base) T D_standing_of C_turning_of
  have C_law_a_last := ok_law_a_last (P := l.prog) (w := w) (base := base) T D_law_a_last 
  have C_law_a_standing := ok_law_a_standing (P := l.prog) (w := w) (base := base) T D_law_a_standing C_law_a_last
  have C_law_places_of := ok_law_places_of (P := l.prog) (w := w) (base := base) T D_law_places_of C_law_draws
  have C_refuse_no_top := ok_refuse_no_top (P := l.prog) (w := w) (base := base) T Z D_refuse_no_top 
  have C_refuse_no_place := ok_refuse_no_place (P := l.prog) (w := w) (base := base) T Z D_refuse_no_place 
  have C_left_of := ok_left_of (P := l.prog) (w := w) (base := base) T D_left_of C_standing_of
  have C_alike_rows := ok_alike_rows (P := l.prog) (w := w) (base := base) T Z D_alike_rows C_refuse_no_top C_refuse_no_place C_left_of
  have C_law_told := ok_law_told (P := l.prog) (w := w) (base := base) T Z D_law_told C_alike_rows C_law_a_kin
  have C_law_a_on := ok_law_a_on (P := l.prog) (w := w) (base := base) T D_law_a_on 
  have C_law_a_rest := ok_law_a_rest (P := l.prog) (w := w) (base := base) T D_law_a_rest C_law_a_standing C_law_a_last
  have C_law_a_other := ok_law_a_other (P := l.prog) (w := w) (base := base) T D_law_a_other C_law_a_rest
  exact ok_law F_law T Z C_law_draws C_law_cell_at C_law_places_of C_law_a_other C_law_told C_law_a_on C_law_a_rest C_law_due_kin
theorem walk {l : PySem.W.OpenLaw} {q : Program} {loose : List Str} {XP : (Str → Option Value) → Heap → Prop} {YP : World → Heap → Prop} {d : DefRec} {K : Params → PySem.W.Frag} (hn : l.most = some 63) (hdf : d.params.defaults = [])
    (hY : ∀ (w : World) (h : Heap), YP w h → (K w.params).In h)
    (F : ∀ (w : World) (mg : Str → Option Value) (fa : Addr) (h : Heap), (K w.params).In h → h.Ns mainGlobals mg → mg d.name = some (.ref fa) →
      ∃ fd : FuncData, (∀ (s : Shared) (u : Value), BindsTo s fd ⟨[u], []⟩ [("script", u)]) ∧ ∀ base : Heap, (K w.params).In base → base.Ns mainGlobals mg → FnOk l.prog w (K w.params) mg base CX0 7 fa fd ["script"] (spLaw (K w.params))) :
    PySem.W.WalkO q loose XP YP l.row.toRowW d [] (fun f vs => PySem.call f vs) :=
  L2.walk_of (n := 63) (k := 7) (x := "script") (CX := fun _ => CX0) (sp := fun w => spLaw (K w.params)) hn (by decide) hdf ⟨rfl, by decide, by decide⟩ hY F (fun _ _ a ns hl _ hS => ⟨a, ns, rfl, hS, hl, fun _ => rfl⟩) fun _ _ _ _ _ z => z
end My
theorem PySem.W.Fast.tw16701390467616355360 : True := trivial
theorem PySem.W.Fast.tw10647328589509316704 : True := trivial
theorem PySem.W.Fast.tw5290617354962240640 : True := trivial
theorem PySem.W.Fast.tw9569206824694726816 : True := trivial
theorem PySem.W.Fast.tw3576313059111849280 : True := trivial
theorem PySem.W.Fast.tw10693259104196082016 : True := trivial
theorem PySem.W.Fast.tw15286094091033696672 : True := trivial
theorem PySem.W.Fast.tw1830301278661701152 : True := trivial
theorem PySem.W.Fast.tw17628379465190235680 : True := trivial
theorem PySem.W.Fast.tw13642597449764513376 : True := trivial
theorem PySem.W.Fast.tw11040467545549098688 : True := trivial
theorem PySem.W.Fast.tw17314196030905006880 : True := trivial
theorem PySem.W.Fast.tw17105157683061219136 : True := trivial
theorem PySem.W.Fast.tw9904621495733765056 : True := trivial
theorem PySem.W.Fast.tw13166988630602393601 : True := trivial
theorem PySem.W.Fast.tw4330738185124898817 : True := trivial
theorem PySem.W.Fast.tw2226382590593455201 : True := trivial
theorem PySem.W.Fast.tw11159735135173509505 : True := trivial
theorem PySem.W.Fast.tw18109610971124863425 : True := trivial
theorem PySem.W.Fast.tw14599346983527100929 : True := trivial
theorem PySem.W.Fast.tw15260712285594655265 : True := trivial
theorem PySem.W.Fast.tw5435804348021725985 : True := trivial
theorem PySem.W.Fast.tw5789649060863875905 : True := trivial
theorem PySem.W.Fast.tw2776237377159569345 : True := trivial
theorem PySem.W.Fast.tw9354215231711804385 : True := trivial
theorem PySem.W.Fast.tw17742649586114540578 : True := trivial
theorem PySem.W.Fast.tw17583807708023188802 : True := trivial
theorem PySem.W.Fast.tw5762622682347094498 : True := trivial
theorem PySem.W.Fast.tw10506754692290095618 : True := trivial
theorem PySem.W.Fast.tw18043872465422063138 : True := trivial
theorem PySem.W.Fast.tw7579215753606337122 : True := trivial
theorem PySem.W.Fast.tw16731332629929159362 : True := trivial
theorem PySem.W.Fast.tw16673865502295549059 : True := trivial
theorem PySem.W.Fast.tw2218861535759435939 : True := trivial
theorem PySem.W.Fast.tw3996338972446113155 : True := trivial
theorem PySem.W.Fast.tw5724290122310072803 : True := trivial
theorem PySem.W.Fast.tw14926283832166834883 : True := trivial
theorem PySem.W.Fast.tw5836961698337382147 : True := trivial
theorem PySem.W.Fast.tw13842278513480579939 : True := trivial
theorem PySem.W.Fast.tw5153726597417361347 : True := trivial
theorem PySem.W.Fast.tw9461041371792776163 : True := trivial
theorem PySem.W.Fast.tw10332851443171896291 : True := trivial
theorem PySem.W.Fast.tw12656223635794391044 : True := trivial
theorem PySem.W.Fast.tw15290180444547882084 : True := trivial
theorem PySem.W.Fast.tw16646498820045703300 : True := trivial
theorem PySem.W.Fast.tw15857886605654687908 : True := trivial
theorem PySem.W.Fast.tw2907130649749980452 : True := trivial
theorem PySem.W.Fast.tw17158011030148585892 : True := trivial
theorem PySem.W.Fast.tw9627383394134276548 : True := trivial
theorem PySem.W.Fast.tw13890373241083361796 : True := trivial
theorem PySem.W.Fast.tw2641342352759138820 : True := trivial
theorem PySem.W.Fast.tw9737785088358700548 : True := trivial
theorem PySem.W.Fast.tw1433859039476912836 : True := trivial
theorem PySem.W.Fast.tw3355270074346015556 : True := trivial
theorem PySem.W.Fast.tw7044419117122914148 : True := trivial
theorem PySem.W.Fast.tw3642054153970530276 : True := trivial
theorem PySem.W.Fast.tw16890169086983861445 : True := trivial
theorem PySem.W.Fast.tw10928149070261175781 : True := trivial
theorem PySem.W.Fast.tw18045148226772066853 : True := trivial
theorem PySem.W.Fast.tw9856012569452960293 : True := trivial
theorem PySem.W.Fast.tw3119288910517506725 : True := trivial
theorem PySem.W.Fast.tw2637377760112668453 : True := trivial
theorem PySem.W.Fast.tw18165465783768719430 : True := trivial
theorem PySem.W.Fast.tw10685003410046026950 : True := trivial
theorem PySem.W.Fast.tw13733741997169886406 : True := trivial
theorem PySem.W.Fast.tw1723918204464270630 : True := trivial
theorem PySem.W.Fast.tw7066327275715118502 : True := trivial
theorem PySem.W.Fast.tw233438573851993542 : True := trivial
theorem PySem.W.Fast.tw2704512276907515686 : True := trivial
theorem PySem.W.Fast.tw6431625877404669031 : True := trivial
theorem PySem.W.Fast.tw451506933601176743 : True := trivial
theorem PySem.W.Fast.tw10780217030379248839 : True := trivial
theorem PySem.W.Fast.tw13994237419739234567 : True := trivial
theorem PySem.W.Fast.tw9453176032509677959 : True := trivial
theorem PySem.W.Fast.tw6025750678457931495 : True := trivial
theorem PySem.W.Fast.tw5636051322278366055 : True := trivial
theorem PySem.W.Fast.tw10159014554320903176 : True := trivial
theorem PySem.W.Fast.tw7130302174401780776 : True := trivial
theorem PySem.W.Fast.tw9612834583557151976 : True := trivial
theorem PySem.W.Fast.tw11667802057053562152 : True := trivial
theorem PySem.W.Fast.tw12932219875476013480 : True := trivial
theorem PySem.W.Fast.tw60199221211624904 : True := trivial
theorem PySem.W.Fast.tw7425727647064089128 : True := trivial
theorem PySem.W.Fast.tw2252111580125183592 : True := trivial
theorem PySem.W.Fast.tw7598865250944106120 : True := trivial
theorem PySem.W.Fast.tw10672481768123588296 : True := trivial
theorem PySem.W.Fast.tw4557558609061001992 : True := trivial
theorem PySem.W.Fast.tw16209795583794851624 : True := trivial
theorem PySem.W.Fast.tw14791646594293576552 : True := trivial
theorem PySem.W.Fast.tw12292229233030576104 : True := trivial
theorem PySem.W.Fast.tw17627596207760067560 : True := trivial
theorem PySem.W.Fast.tw814919058186693673 : True := trivial
theorem PySem.W.Fast.tw6402220740527605833 : True := trivial
theorem PySem.W.Fast.tw11465532441164422217 : True := trivial
theorem PySem.W.Fast.tw9325620568875316361 : True := trivial
theorem PySem.W.Fast.tw15112786474195221641 : True := trivial
theorem PySem.W.Fast.tw7008452237045469321 : True := trivial
theorem PySem.W.Fast.tw1317388420922850569 : True := trivial
theorem PySem.W.Fast.tw13428284820724340105 : True := trivial
theorem PySem.W.Fast.tw15905467326171438537 : True := trivial
theorem PySem.W.Fast.tw3681075295504743881 : True := trivial
theorem PySem.W.Fast.tw2102778626714518057 : True := trivial
theorem PySem.W.Fast.tw11294828482312448553 : True := trivial
theorem PySem.W.Fast.tw2093072042454775369 : True := trivial
theorem PySem.W.Fast.tw13515336267264718473 : True := trivial
theorem PySem.W.Fast.tw3504081219081571017 : True := trivial
theorem PySem.W.Fast.tw10176928340982631145 : True := trivial
theorem PySem.W.Fast.tw15823756620473893673 : True := trivial
theorem PySem.W.Fast.tw6591207609844141865 : True := trivial
theorem PySem.W.Fast.tw5479322202856087465 : True := trivial
theorem PySem.W.Fast.tw15474585498241233833 : True := trivial
theorem PySem.W.Fast.tw5102745288137656362 : True := trivial
theorem PySem.W.Fast.tw2015542826782552170 : True := trivial
theorem PySem.W.Fast.tw5440907716618095818 : True := trivial
theorem PySem.W.Fast.tw13782065509135194410 : True := trivial
theorem PySem.W.Fast.tw15875561455311530314 : True := trivial
theorem PySem.W.Fast.tw16638074911134233002 : True := trivial
theorem PySem.W.Fast.tw10044567502812136970 : True := trivial
theorem PySem.W.Fast.tw17214603277755344490 : True := trivial
theorem PySem.W.Fast.tw13655279233299797642 : True := trivial
theorem PySem.W.Fast.tw4716917416058160842 : True := trivial
theorem PySem.W.Fast.tw11594888592673649450 : True := trivial
theorem PySem.W.Fast.tw466000126759353162 : True := trivial
theorem PySem.W.Fast.tw2974651836077101962 : True := trivial
theorem PySem.W.Fast.tw3228171976167589802 : True := trivial
theorem PySem.W.Fast.tw13044443662107266986 : True := trivial
theorem PySem.W.Fast.tw14334541276648611786 : True := trivial
theorem PySem.W.Fast.tw7701756039058623466 : True := trivial
theorem PySem.W.Fast.tw14601778673088853291 : True := trivial
theorem PySem.W.Fast.tw14454032914137236811 : True := trivial
theorem PySem.W.Fast.tw14177618743471208875 : True := trivial
theorem PySem.W.Fast.tw5821799902487434763 : True := trivial
theorem PySem.W.Fast.tw7397410266799515147 : True := trivial
theorem PySem.W.Fast.tw7628244147694482059 : True := trivial
theorem PySem.W.Fast.tw3487032182787701451 : True := trivial
theorem PySem.W.Fast.tw10756903541797648139 : True := trivial
theorem PySem.W.Fast.tw5907684030495396651 : True := trivial
theorem PySem.W.Fast.tw5834294711889247083 : True := trivial
theorem PySem.W.Fast.tw18402894684889593707 : True := trivial
theorem PySem.W.Fast.tw1363812357067094923 : True := trivial
theorem PySem.W.Fast.tw16833100503839745963 : True := trivial
theorem PySem.W.Fast.tw13145241737713260556 : True := trivial
theorem PySem.W.Fast.tw10211953353378329772 : True := trivial
theorem PySem.W.Fast.tw16398950952129817868 : True := trivial
theorem PySem.W.Fast.tw18058124561937518028 : True := trivial
theorem PySem.W.Fast.tw8921664956102058508 : True := trivial
theorem PySem.W.Fast.tw13998082979821045324 : True := trivial
theorem PySem.W.Fast.tw4125613946328895404 : True := trivial
theorem PySem.W.Fast.tw4269664181582178252 : True := trivial
theorem PySem.W.Fast.tw11191909040926750829 : True := trivial
theorem PySem.W.Fast.tw14697496992912708813 : True := trivial
theorem PySem.W.Fast.tw15520419277303538893 : True := trivial
theorem PySem.W.Fast.tw12934024176281885197 : True := trivial
theorem PySem.W.Fast.tw9401416144478323213 : True := trivial
theorem PySem.W.Fast.tw17632996610008685197 : True := trivial
theorem PySem.W.Fast.tw3413445744445181773 : True := trivial
theorem PySem.W.Fast.tw7705607238718303278 : True := trivial
theorem PySem.W.Fast.tw6692529785557170318 : True := trivial
theorem PySem.W.Fast.tw2741714268700775598 : True := trivial
theorem PySem.W.Fast.tw15225869969614820558 : True := trivial
theorem PySem.W.Fast.tw12811506371184237806 : True := trivial
theorem PySem.W.Fast.tw14810212707577113102 : True := trivial
theorem PySem.W.Fast.tw8679087933402083086 : True := trivial
theorem PySem.W.Fast.tw3930018277013122894 : True := trivial
theorem PySem.W.Fast.tw15367810394112838638 : True := trivial
theorem PySem.W.Fast.tw294788164200784911 : True := trivial
theorem PySem.W.Fast.tw12360009583168025615 : True := trivial
theorem PySem.W.Fast.tw16673879016124527695 : True := trivial
theorem PySem.W.Fast.tw513507031753599087 : True := trivial
theorem PySem.W.Fast.tw10048331411091457231 : True := trivial
theorem PySem.W.Fast.tw13340059579737918767 : True := trivial
theorem PySem.W.Fast.tw1496974010139462031 : True := trivial
theorem PySem.W.Fast.tw3422177216941600207 : True := trivial
theorem PySem.W.Fast.tw7154167535669188111 : True := trivial
theorem PySem.W.Fast.tw9839243909978592815 : True := trivial
theorem PySem.W.Fast.tw1887828331396486735 : True := trivial
theorem PySem.W.Fast.tw14039275812984267407 : True := trivial
theorem PySem.W.Fast.tw2729277191409675951 : True := trivial
theorem PySem.W.Fast.tw2732935612894352143 : True := trivial
theorem PySem.W.Fast.tw1446941983212009295 : True := trivial
theorem PySem.W.Fast.tw10955660978494691215 : True := trivial
theorem PySem.W.Fast.tw3034705940838750127 : True := trivial
theorem PySem.W.Fast.tw13227855838646066127 : True := trivial
theorem PySem.W.Fast.tw11421161037877922832 : True := trivial
theorem PySem.W.Fast.tw6734524742937692496 : True := trivial
theorem PySem.W.Fast.tw10170481220746356112 : True := trivial
theorem PySem.W.Fast.tw6308509436859863472 : True := trivial
theorem PySem.W.Fast.tw4513812506438485520 : True := trivial
theorem PySem.W.Fast.tw4391062527816625744 : True := trivial
theorem PySem.W.Fast.tw17318399735522642672 : True := trivial
theorem PySem.W.Fast.tw16929494280369303312 : True := trivial
theorem PySem.W.Fast.tw8829673764018109200 : True := trivial
theorem PySem.W.Fast.tw5049172337715714864 : True := trivial
theorem PySem.W.Fast.tw16930086416125745072 : True := trivial
theorem PySem.W.Fast.tw11204497019060082640 : True := trivial
theorem PySem.W.Fast.tw15556509758870512817 : True := trivial
theorem PySem.W.Fast.tw15616635216894194001 : True := trivial
theorem PySem.W.Fast.tw1199877879950335313 : True := trivial
theorem PySem.W.Fast.tw5415993657163348337 : True := trivial
theorem PySem.W.Fast.tw8992268595954651537 : True := trivial
theorem PySem.W.Fast.tw15268903840104961553 : True := trivial
theorem PySem.W.Fast.tw2237193845362861585 : True := trivial
theorem PySem.W.Fast.tw9445506710825327313 : True := trivial
theorem PySem.W.Fast.tw3929901427476840241 : True := trivial
theorem PySem.W.Fast.tw11328360921010163601 : True := trivial
theorem PySem.W.Fast.tw9107177611957577649 : True := trivial
theorem PySem.W.Fast.tw7914788025736823826 : True := trivial
theorem PySem.W.Fast.tw13053493289020426450 : True := trivial
theorem PySem.W.Fast.tw3156334068184602834 : True := trivial
theorem PySem.W.Fast.tw4534024463227994450 : True := trivial
theorem PySem.W.Fast.tw16134277759167113586 : True := trivial
theorem PySem.W.Fast.tw17311474118467290578 : True := trivial
theorem PySem.W.Fast.tw17898019956713330162 : True := trivial
theorem PySem.W.Fast.tw16166543312900999698 : True := trivial
theorem PySem.W.Fast.tw11132177351046672946 : True := trivial
theorem PySem.W.Fast.tw3156050274756460082 : True := trivial
theorem PySem.W.Fast.tw2488027209566020306 : True := trivial
theorem PySem.W.Fast.tw982690907338231698 : True := trivial
theorem PySem.W.Fast.tw13079702924204555347 : True := trivial
theorem PySem.W.Fast.tw4359488293682312307 : True := trivial
theorem PySem.W.Fast.tw11078291495546206611 : True := trivial
theorem PySem.W.Fast.tw9585366340698401459 : True := trivial
theorem PySem.W.Fast.tw7248393145043359411 : True := trivial
theorem PySem.W.Fast.tw9974838974995586003 : True := trivial
theorem PySem.W.Fast.tw8364282929732615188 : True := trivial
theorem PySem.W.Fast.tw13819894392244849844 : True := trivial
theorem PySem.W.Fast.tw4945417429039758548 : True := trivial
theorem PySem.W.Fast.tw12152255077506261300 : True := trivial
theorem PySem.W.Fast.tw12710719777904904532 : True := trivial
theorem PySem.W.Fast.tw3908981150172194196 : True := trivial
theorem PySem.W.Fast.tw8582127010858921428 : True := trivial
theorem PySem.W.Fast.tw16065081574555192852 : True := trivial
theorem PySem.W.Fast.tw3258273980121261620 : True := trivial
theorem PySem.W.Fast.tw11396785094145733396 : True := trivial
theorem PySem.W.Fast.tw7254919724382397300 : True := trivial
theorem PySem.W.Fast.tw2313545684884969364 : True := trivial
theorem PySem.W.Fast.tw17805923439531842677 : True := trivial
theorem PySem.W.Fast.tw14611938676081200277 : True := trivial
theorem PySem.W.Fast.tw3927021716381636757 : True := trivial
theorem PySem.W.Fast.tw1494368465801365 : True := trivial
theorem PySem.W.Fast.tw13964118346882799797 : True := trivial
theorem PySem.W.Fast.tw10024617810110928277 : True := trivial
theorem PySem.W.Fast.tw4397557190737464757 : True := trivial
theorem PySem.W.Fast.tw14804409192108947061 : True := trivial
theorem PySem.W.Fast.tw18231943295245769365 : True := trivial
theorem PySem.W.Fast.tw3265239486971118357 : True := trivial
theorem PySem.W.Fast.tw14551923415940517653 : True := trivial
theorem PySem.W.Fast.tw5548510282402617173 : True := trivial
theorem PySem.W.Fast.tw5897142173819851669 : True := trivial
theorem PySem.W.Fast.tw16882357663044661173 : True := trivial
theorem PySem.W.Fast.tw13694520989097737173 : True := trivial
theorem PySem.W.Fast.tw4442414286760665174 : True := trivial
theorem PySem.W.Fast.tw14210847328354513046 : True := trivial
theorem PySem.W.Fast.tw12879965048584238294 : True := trivial
theorem PySem.W.Fast.tw15282019438858604886 : True := trivial
theorem PySem.W.Fast.tw13428566753606156662 : True := trivial
theorem PySem.W.Fast.tw12451556644223791670 : True := trivial
theorem PySem.W.Fast.tw1017748280887242326 : True := trivial
theorem PySem.W.Fast.tw2928019100788312662 : True := trivial
theorem PySem.W.Fast.tw13671793342647846550 : True := trivial
theorem PySem.W.Fast.tw1511373820687714966 : True := trivial
theorem PySem.W.Fast.tw562570445991739511 : True := trivial
theorem PySem.W.Fast.tw4741644508259666103 : True := trivial
theorem PySem.W.Fast.tw16180333042160958743 : True := trivial
theorem PySem.W.Fast.tw14150894605876129271 : True := trivial
theorem PySem.W.Fast.tw2644220482020980215 : True := trivial
theorem PySem.W.Fast.tw4219737235581240855 : True := trivial
theorem PySem.W.Fast.tw13225124366808330807 : True := trivial
theorem PySem.W.Fast.tw3885160688617188983 : True := trivial
theorem PySem.W.Fast.tw8212002296903653047 : True := trivial
theorem PySem.W.Fast.tw5122532690354593559 : True := trivial
theorem PySem.W.Fast.tw12057698744937454487 : True := trivial
theorem PySem.W.Fast.tw8544095303893702647 : True := trivial
theorem PySem.W.Fast.tw14249455601631930359 : True := trivial
theorem PySem.W.Fast.tw15340624087338552408 : True := trivial
theorem PySem.W.Fast.tw1294277417752021080 : True := trivial
theorem PySem.W.Fast.tw10824250889058055384 : True := trivial
theorem PySem.W.Fast.tw6747274620131847416 : True := trivial
theorem PySem.W.Fast.tw17305940493705787640 : True := trivial
theorem PySem.W.Fast.tw4836724680075551032 : True := trivial
theorem PySem.W.Fast.tw9564561208732258680 : True := trivial
theorem PySem.W.Fast.tw16223970707272324632 : True := trivial
theorem PySem.W.Fast.tw10121415393322511960 : True := trivial
theorem PySem.W.Fast.tw3427211062816073304 : True := trivial
theorem PySem.W.Fast.tw12892987145731724984 : True := trivial
theorem PySem.W.Fast.tw4976746647131411160 : True := trivial
theorem PySem.W.Fast.tw2374881214246927192 : True := trivial
theorem PySem.W.Fast.tw9018315304120895320 : True := trivial
theorem PySem.W.Fast.tw7281424952859700184 : True := trivial
theorem PySem.W.Fast.tw6399707128478833689 : True := trivial
theorem PySem.W.Fast.tw4608415013301454073 : True := trivial
theorem PySem.W.Fast.tw18409319749989447033 : True := trivial
theorem PySem.W.Fast.tw9544333440322279865 : True := trivial
theorem PySem.W.Fast.tw7401794539644392985 : True := trivial
theorem PySem.W.Fast.tw344940554901101145 : True := trivial
theorem PySem.W.Fast.tw6095620102448908921 : True := trivial
theorem PySem.W.Fast.tw4666860062377565017 : True := trivial
theorem PySem.W.Fast.tw3344141895016211610 : True := trivial
theorem PySem.W.Fast.tw17245115688470642938 : True := trivial
theorem PySem.W.Fast.tw2753039046296878554 : True := trivial
theorem PySem.W.Fast.tw8543112231071029754 : True := trivial
theorem PySem.W.Fast.tw12955581383759386138 : True := trivial
theorem PySem.W.Fast.tw7351580203472283450 : True := trivial
theorem PySem.W.Fast.tw4038819066314149754 : True := trivial
theorem PySem.W.Fast.tw16120038408087801754 : True := trivial
theorem PySem.W.Fast.tw6484060626703200250 : True := trivial
theorem PySem.W.Fast.tw13483366560624533627 : True := trivial
theorem PySem.W.Fast.tw3521448260970334459 : True := trivial
theorem PySem.W.Fast.tw2006390255599555931 : True := trivial
theorem PySem.W.Fast.tw11470399074958690811 : True := trivial
theorem PySem.W.Fast.tw17097024485202628091 : True := trivial
theorem PySem.W.Fast.tw8808527795028220411 : True := trivial
theorem PySem.W.Fast.tw15287278715634353819 : True := trivial
theorem PySem.W.Fast.tw3229733242763419355 : True := trivial
theorem PySem.W.Fast.tw12695919126281505499 : True := trivial
theorem PySem.W.Fast.tw2306827894807277403 : True := trivial
theorem PySem.W.Fast.tw14873257948962755740 : True := trivial
theorem PySem.W.Fast.tw1558578115326324956 : True := trivial
theorem PySem.W.Fast.tw11250487731829936348 : True := trivial
theorem PySem.W.Fast.tw1932505854266272028 : True := trivial
theorem PySem.W.Fast.tw1613762888747175420 : True := trivial
theorem PySem.W.Fast.tw16438452860444268156 : True := trivial
theorem PySem.W.Fast.tw12059076194909354716 : True := trivial
theorem PySem.W.Fast.tw9155131898177053500 : True := trivial
theorem PySem.W.Fast.tw14582978720564733788 : True := trivial
theorem PySem.W.Fast.tw16632908089883053052 : True := trivial
theorem PySem.W.Fast.tw6695357134002701437 : True := trivial
theorem PySem.W.Fast.tw5610884037862495741 : True := trivial
theorem PySem.W.Fast.tw7140888549151513277 : True := trivial
theorem PySem.W.Fast.tw1789801991189036094 : True := trivial
theorem PySem.W.Fast.tw2824735362787611870 : True := trivial
theorem PySem.W.Fast.tw14618049123402466558 : True := trivial
theorem PySem.W.Fast.tw13725266469542329854 : True := trivial
theorem PySem.W.Fast.tw12682637404321120894 : True := trivial
theorem PySem.W.Fast.tw17669524487909572254 : True := trivial
theorem PySem.W.Fast.tw9752300752679764862 : True := trivial
theorem PySem.W.Fast.tw13019547076563938270 : True := trivial
theorem PySem.W.Fast.tw5731033632830258303 : True := trivial
theorem PySem.W.Fast.tw7420788461036552543 : True := trivial
theorem PySem.W.Fast.tw16346579516653455871 : True := trivial
theorem PySem.W.Fast.tw6327427834804448863 : True := trivial
theorem PySem.W.Fast.tw16309053175426571935 : True := trivial
theorem PySem.W.Fast.tw13076265463191174943 : True := trivial
theorem PySem.W.Fast.tw9279671502853812095 : True := trivial
theorem PySem.W.Fast.tw1300963741135226783 : True := trivial
theorem PySem.W.Fast.tw1494545309719028639 : True := trivial
theorem PySem.W.Fast.tw8143241147496100799 : True := trivial
open PySem PySem.W PyProof.Rows
set_option maxRecDepth 100000 in
set_option maxHeartbeats 0 in
theorem PySem.Challenge.cw_lugtrain_k40_whole_rows_that_leave_all_a_holds : PySem.Challenge.rw_lugtrain_k40_whole_rows_that_leave_all_a.Holds := by
  w_on; o_law; k_head; (case hw => w_witness2)
  k_fill
  refine My.walk (l := PySem.Challenge.rw_lugtrain_k40_whole_rows_that_leave_all_a) rfl rfl (fun w h Y => PySem.W.kIn_of Y) ?F
  case F =>
    intro w mg fa h KX G hmg
    refine' My.all_mk KX G hmg ?a_law_cell_at ?l_law_cell_at ?c_law_cell_at ?k_law_cell_at ?a_law_draws ?l_law_draws ?c_law_draws ?k_law_draws ?a_law_a_kin ?l_law_a_kin ?c_law_a_kin ?k_law_a_kin ?a_law_due_kin ?l_law_due_kin ?c_law_due_kin ?k_law_due_kin ?a_moves_of ?l_moves_of ?c_moves_of ?k_moves_of ?a_turning_of ?l_turning_of ?c_turning_of ?k_turning_of ?a_standing_of ?l_standing_of ?c_standing_of ?k_standing_of ?a_law_a_last ?l_law_a_last ?c_law_a_last ?k_law_a_last ?a_law_a_standing ?l_law_a_standing ?c_law_a_standing ?k_law_a_standing ?a_law_places_of ?l_law_places_of ?c_law_places_of ?k_law_places_of ?a_refuse_no_top ?l_refuse_no_top ?c_refuse_no_top ?k_refuse_no_top ?a_refuse_no_place ?l_refuse_no_place ?c_refuse_no_place ?k_refuse_no_place ?a_left_of ?l_left_of ?c_left_of ?k_left_of ?a_alike_rows ?l_alike_rows ?c_alike_rows ?k_alike_rows ?a_law_told ?l_law_told ?c_law_told ?k_law_told ?a_law_a_on ?l_law_a_on ?c_law_a_on ?k_law_a_on ?a_law_a_rest ?l_law_a_rest ?c_law_a_rest ?k_law_a_rest ?a_law_a_other ?l_law_a_other ?c_law_a_other ?k_law_a_other ?a_law ?l_law ?c_law ?k_law ?z_ValueError ?z_bool ?z_enumerate ?z_int ?z_isinstance ?z_len ?z_list ?z_max ?z_min ?z_range ?z_sorted ?z_zip ?g_MOST_TOP ?n_TrainError ?n_NoTrain ?n_NoStand ?n_NoPaper ?n_NoBox ?n_NoSwitch ?n_NoPlace ?n_NoTable ?n_NoText ?n_NoRow ?n_NoPiece ?n_NothingLeft ?n_TooMany ?x_NoBox ?e_NoBox ?i_NoBox_ga ?i_NoBox_gt ?i_NoBox_mb ?i_NoBox_hd ?i_NoBox_ca ?i_NoBox_sp ?i_NoBox_tk ?i_NoBox_mr ?k_NoBox_NoTrain ?k_NoBox_NoStand ?k_NoBox_NoPaper ?k_NoBox_NoBox ?k_NoBox_NoSwitch ?k_NoBox_NoPlace ?k_NoBox_NoTable ?k_NoBox_NoText ?k_NoBox_NoRow ?k_NoBox_NoPiece ?k_NoBox_NothingLeft ?k_NoBox_TooMany ?k_NoBox_ValueError ?x_NoPlace ?e_NoPlace ?i_NoPlace_ga ?i_NoPlace_gt ?i_NoPlace_mb ?i_NoPlace_hd ?i_NoPlace_ca ?i_NoPlace_sp ?i_NoPlace_tk ?i_NoPlace_mr ?k_NoPlace_NoTrain ?k_NoPlace_NoStand ?k_NoPlace_NoPaper ?k_NoPlace_NoBox ?k_NoPlace_NoSwitch ?k_NoPlace_NoPlace ?k_NoPlace_NoTable ?k_NoPlace_NoText ?k_NoPlace_NoRow ?k_NoPlace_NoPiece ?k_NoPlace_NothingLeft ?k_NoPlace_TooMany ?k_NoPlace_ValueError
    (case a_law_cell_at => k_is)
    (case l_law_cell_at => k_is)
    (case c_law_cell_at => k_is)
    (case k_law_cell_at => k_is)
    (case a_law_draws => k_is)
    (case l_law_draws => k_is)
    (case c_law_draws => k_is)
    (case k_law_draws => k_is)
    (case a_law_a_kin => k_is)
    (case l_law_a_kin => k_is)
    (case c_law_a_kin => k_is)
    (case k_law_a_kin => k_is)
    (case a_law_due_kin => k_is)
    (case l_law_due_kin => k_is)
    (case c_law_due_kin => k_is)
    (case k_law_due_kin => k_is)
    (case a_moves_of => k_is)
    (case l_moves_of => k_is)
    (case c_moves_of => k_is)
    (case k_moves_of => k_is)
    (case a_turning_of => k_is)
    (case l_turning_of => k_is)
    (case c_turning_of => k_is)
    (case k_turning_of => k_is)
    (case a_standing_of => k_is)
    (case l_standing_of => k_is)
    (case c_standing_of => k_is)
    (case k_standing_of => k_is)
    (case a_law_a_last => k_is)
    (case l_law_a_last => k_is)
    (case c_law_a_last => k_is)
    (case k_law_a_last => k_is)
    (case a_law_a_standing => k_is)
    (case l_law_a_standing => k_is)
    (case c_law_a_standing => k_is)
    (case k_law_a_standing => k_is)
    (case a_law_places_of => k_is)
    (case l_law_places_of => k_is)
    (case c_law_places_of => k_is)
    (case k_law_places_of => k_is)
    (case a_refuse_no_top => k_is)
    (case l_refuse_no_top => k_is)
    (case c_refuse_no_top => k_is)
    (case k_refuse_no_top => k_is)
    (case a_refuse_no_place => k_is)
    (case l_refuse_no_place => k_is)
    (case c_refuse_no_place => k_is)
    (case k_refuse_no_place => k_is)
    (case a_left_of => k_is)
    (case l_left_of => k_is)
    (case c_left_of => k_is)
    (case k_left_of => k_is)
    (case a_alike_rows => k_is)
    (case l_alike_rows => k_is)
    (case c_alike_rows => k_is)
    (case k_alike_rows => k_is)
    (case a_law_told => k_is)
    (case l_law_told => k_is)
    (case c_law_told => k_is)
    (case k_law_told => k_is)
    (case a_law_a_on => k_is)
    (case l_law_a_on => k_is)
    (case c_law_a_on => k_is)
    (case k_law_a_on => k_is)
    (case a_law_a_rest => k_is)
    (case l_law_a_rest => k_is)
    (case c_law_a_rest => k_is)
    (case k_law_a_rest => k_is)
    (case a_law_a_other => k_is)
    (case l_law_a_other => k_is)
    (case c_law_a_other => k_is)
    (case k_law_a_other => k_is)
    (case a_law => k_is)
    (case l_law => k_is)
    (case c_law => k_is)
    (case k_law => k_is)
    (case z_ValueError => k_is)
    (case z_bool => k_is)
    (case z_enumerate => k_is)
    (case z_int => k_is)
    (case z_isinstance => k_is)
    (case z_len => k_is)
    (case z_list => k_is)
    (case z_max => k_is)
    (case z_min => k_is)
    (case z_range => k_is)
    (case z_sorted => k_is)
    (case z_zip => k_is)
    (case g_MOST_TOP => k_is)
    (case n_TrainError => k_is)
    (case n_NoTrain => k_is)
    (case n_NoStand => k_is)
    (case n_NoPaper => k_is)
    (case n_NoBox => k_is)
    (case n_NoSwitch => k_is)
    (case n_NoPlace => k_is)
    (case n_NoTable => k_is)
    (case n_NoText => k_is)
    (case n_NoRow => k_is)
    (case n_NoPiece => k_is)
    (case n_NothingLeft => k_is)
    (case n_TooMany => k_is)
    (case x_NoBox => k_exc)
    (case e_NoBox => kts_exm)
    (case i_NoBox_ga => k_is)
    (case i_NoBox_gt => k_is)
    (case i_NoBox_mb => k_is)
    (case i_NoBox_hd => k_is)
    (case i_NoBox_ca => k_is)
    (case i_NoBox_sp => k_is)
    (case i_NoBox_tk => k_is)
    (case i_NoBox_mr => k_is)
    (case k_NoBox_NoTrain => kit_is)
    (case k_NoBox_NoStand => kit_is)
    (case k_NoBox_NoPaper => kit_is)
    (case k_NoBox_NoBox => kit_is)
    (case k_NoBox_NoSwitch => kit_is)
    (case k_NoBox_NoPlace => kit_is)
    (case k_NoBox_NoTable => kit_is)
    (case k_NoBox_NoText => kit_is)
    (case k_NoBox_NoRow => kit_is)
    (case k_NoBox_NoPiece => kit_is)
    (case k_NoBox_NothingLeft => kit_is)
    (case k_NoBox_TooMany => kit_is)
    (case k_NoBox_ValueError => kit_is)
    (case x_NoPlace => k_exc)
    (case e_NoPlace => kts_exm)
    (case i_NoPlace_ga => k_is)
    (case i_NoPlace_gt => k_is)
    (case i_NoPlace_mb => k_is)
    (case i_NoPlace_hd => k_is)
    (case i_NoPlace_ca => k_is)
    (case i_NoPlace_sp => k_is)
    (case i_NoPlace_tk => k_is)
    (case i_NoPlace_mr => k_is)
    (case k_NoPlace_NoTrain => kit_is)
    (case k_NoPlace_NoStand => kit_is)
    (case k_NoPlace_NoPaper => kit_is)
    (case k_NoPlace_NoBox => kit_is)
    (case k_NoPlace_NoSwitch => kit_is)
    (case k_NoPlace_NoPlace => kit_is)
    (case k_NoPlace_NoTable => kit_is)
    (case k_NoPlace_NoText => kit_is)
    (case k_NoPlace_NoRow => kit_is)
    (case k_NoPlace_NoPiece => kit_is)
    (case k_NoPlace_NothingLeft => kit_is)
    (case k_NoPlace_TooMany => kit_is)
    (case k_NoPlace_ValueError => kit_is)

