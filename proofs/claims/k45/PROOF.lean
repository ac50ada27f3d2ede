import PyProof.Rows.All
import Wide.All
import OpenK.AllK
import Wide.FinOn
import Lean
import PyProof.EqAt
import PyProof.EqKinds
import PyProof.TupleCall
import PyProof.StationsW
import PyProof.ExcAttrAll.ValueError
import PySem.Challenge.RW_lugtrain_k45_refused_at_all_new_doors
set_option hygiene false in
local macro_rules | `(tactic| walk_at "z0") => `(tactic| intro pins s σ H Q I h)
set_option hygiene false in
local macro_rules | `(tactic| walk_at "z1") => `(tactic| intro X hP hw hK hc i pins s σ H E I hf st hg)
set_option hygiene false in
local macro_rules | `(tactic| walk_at "z2") => `(tactic| simp only [Bool.not_true, Bool.false_eq_true, if_false])
set_option hygiene false in
local macro_rules | `(tactic| walk_at "z3") => `(tactic| refine PySem.W.callWith_K (h₀ := X.base) I.ok.mod.kin hk (thn (ha pos pins s σ H _ I h) fun us s1 ⟨vs, H1, I1, r, q⟩ => ⟨I1.kIn, ?_⟩) he hpl)
set_option hygiene false in
local macro_rules | `(tactic| walk_at "z4") => `(tactic| obtain ⟨f0, f1, f2, f3, f4, f5⟩ := hf it (by simp))
set_option hygiene false in
local macro_rules | `(tactic| walk_at "z5") => `(tactic| intro pins s σ H xs us Q I r h)
set_option hygiene false in
local macro_rules | `(tactic| walk_at "z6") => `(tactic| obtain ⟨oc, od, kV, doc, pm, an, cdv, ct, osl, rfl, lk, hcd⟩ := F.ex)
set_option Elab.async false
set_option linter.all false
set_option maxRecDepth 100000
namespace L2
open PySem PySem.Spec PyProof.Rows
abbrev Key := Sum Int Str
def keyIs : Key → Value → Bool
 | .inl k, v => Value.isInt k v
 | .inr x, v => Value.isStrOf x v
def keyH (w : World) : Key → Int
 | .inl k => hashInt k
 | .inr x => hashStr w x
theorem keyIs_shape : ∀ {k : Key} {v : Value}, keyIs k v = true → (∃ i t, k = Sum.inl i ∧ v = Value.int i t) ∨ (∃ x t, k = Sum.inr x ∧ v = Value.str x t)
 | .inl i, v, h => by
   obtain ⟨t, e⟩ := Value.isInt_shape (k := i) (v := v) h
   exact .inl ⟨i, t, rfl, e⟩
 | .inr x, v, h => by
   obtain ⟨t, e⟩ := Value.isStrOf_shape (x := x) (v := v) h
   exact .inr ⟨x, t, rfl, e⟩
theorem key_ll (a b : Int) : decide ((Sum.inl a : Key) = Sum.inl b) = (a == b) := by
 by_cases e : a = b
 ·subst e; simp
 ·have h : ¬ (Sum.inl a : Key) = Sum.inl b := fun q => e (Sum.inl.inj q)
  rw [decide_eq_false h]
  exact (beq_eq_false_iff_ne.mpr e).symm
theorem key_rr (a b : Str) : decide ((Sum.inr a : Key) = Sum.inr b) = decide (a = b) := by
 by_cases e : a = b
 ·subst e; simp
 ·have h : ¬ (Sum.inr a : Key) = Sum.inr b := fun q => e (Sum.inr.inj q)
  rw [decide_eq_false h, decide_eq_false e]
theorem key_lr (a : Int) (b : Str) : decide ((Sum.inl a : Key) = Sum.inr b) = false := decide_eq_false (fun q => nomatch q)
theorem key_rl (a : Str) (b : Int) : decide ((Sum.inr a : Key) = Sum.inl b) = false := decide_eq_false (fun q => nomatch q)
def mixKind (prog : Program) (w : World) : PySem.KeyKind prog w Key where
 is := keyIs
 hash := keyH w
 inj := fun v a b ha hb => by
  rcases keyIs_shape ha with ⟨i, t, rfl, rfl⟩ | ⟨x, t, rfl, rfl⟩
  ·rcases keyIs_shape hb with ⟨j, u, rfl, e⟩ | ⟨y, u, rfl, e⟩
   ·injection e with e1 _; rw [e1]
   ·exact nomatch e
  ·rcases keyIs_shape hb with ⟨j, u, rfl, e⟩ | ⟨y, u, rfl, e⟩
   ·exact nomatch e
   ·injection e with e1 _; rw [e1]
 byValue := fun k v h => by
  rcases keyIs_shape h with ⟨i, t, rfl, rfl⟩ | ⟨x, t, rfl, rfl⟩ <;> rfl
 pyHash := fun hv h => by
  rcases keyIs_shape hv with ⟨i, t, rfl, rfl⟩ | ⟨x, t, rfl, rfl⟩
  ·exact wpAny_pyHash_int h
  ·exact wpAny_pyHash_str h
 eqBool := fun hu hv h => by
  rcases keyIs_shape hu with ⟨i, t, rfl, rfl⟩ | ⟨x, t, rfl, rfl⟩
  ·rcases keyIs_shape hv with ⟨j, u, rfl, rfl⟩ | ⟨y, u, rfl, rfl⟩
   ·rw [key_ll] at h; exact wpAny_eqBool_int h
   ·rw [key_lr] at h; exact SeqAt.EqAt.int_str i t y u _ _ _ _ h
  ·rcases keyIs_shape hv with ⟨j, u, rfl, rfl⟩ | ⟨y, u, rfl, rfl⟩
   ·rw [key_rl] at h; exact SeqAt.EqAt.str_int x t j u _ _ _ _ h
   ·rw [key_rr] at h; exact wpAny_eqBool_str h
 «strs» := fun k x t v h => by
  rcases keyIs_shape h with ⟨i, u, rfl, e⟩ | ⟨y, u, rfl, e⟩
  ·exact nomatch e
  ·injection e with e1 _
   subst e1
   cases v <;> rfl
end L2
namespace L2
open PySem PySem.Spec PyProof.Rows
inductive V where
 | non | bl (b : Bool) | int (i : Int) | str (x : Str) | byt (b : Array UInt8) | flt (b : UInt64) | ref (a : Addr) | ty (n : String)
 deriving DecidableEq
def RelV : V → Value → Prop
 | .non, u => u = Value.none
 | .bl b, u => u = Value.bool b
 | .int i, u => ∃ t, u = Value.int i t
 | .str x, u => ∃ t, u = Value.str x t
 | .byt b, u => ∃ t, u = Value.bytes b t
 | .flt b, u => ∃ t, u = Value.float b t
 | .ref a, u => u = Value.ref a
 | .ty n, u => u = Value.type n
abbrev Vals : List V → List Value → Prop := Paired RelV
theorem Vals.length {xs : List V} {us : List Value} (r : Vals xs us) : xs.length = us.length := Paired.length r
theorem Vals.get : ∀ {xs : List V} {us : List Value} {i : Nat} {x : V}, Vals xs us → xs[i]? = some x → ∃ u, us[i]? = some u ∧ RelV x u
 | _, _, _, _, .nil, e => by simp at e
 | _, _, 0, _, .cons r _, e => by simp at e; subst e; exact ⟨_, rfl, r⟩
 | _, _, i + 1, x, .cons _ t, e => by
   obtain ⟨u, h1, h2⟩ := Vals.get (i := i) (x := x) t (by simpa using e)
   exact ⟨u, by simpa using h1, h2⟩
theorem Vals.set {x : V} {u : Value} (r : RelV x u) : ∀ {xs : List V} {us : List Value} (i : Nat), Vals xs us → Vals (xs.set i x) (us.set i u)
 | _, _, _, .nil => .nil
 | _, _, 0, .cons _ t => .cons r t
 | _, _, i + 1, .cons q t => .cons q (Vals.set r i t)
theorem Vals.append : ∀ {xs ys : List V} {us ws : List Value}, Vals xs us → Vals ys ws → Vals (xs ++ ys) (us ++ ws)
 | _, _, _, _, .nil, s => s
 | _, _, _, _, .cons r t, s => .cons r (Vals.append t s)
theorem Vals.take : ∀ {xs : List V} {us : List Value} (n : Nat), Vals xs us → Vals (xs.take n) (us.take n)
 | _, _, 0, _ => .nil
 | _, _, _ + 1, .nil => .nil
 | _, _, n + 1, .cons r t => .cons r (Vals.take n t)
theorem Vals.drop : ∀ {xs : List V} {us : List Value} (n : Nat), Vals xs us → Vals (xs.drop n) (us.drop n)
 | _, _, 0, r => r
 | _, _, _ + 1, .nil => .nil
 | _, _, n + 1, .cons _ t => Vals.drop n t
def RelO : Option V → Option Value → Prop
 | some v, some u => RelV v u
 | none, none => True
 | _, _ => False
def KV {κ : Type} : List (κ × V) → List (κ × Value) → Prop := Paired fun (p : κ × V) (q : κ × Value) => p.1 = q.1 ∧ RelV p.2 q.2
def kV : Key → V
 | .inl i => .int i
 | .inr x => .str x
inductive HO where
 | lst (xs : List V)
 | tup (xs : List V)
 | dK (kvs : List (Key × V)) | dT (kvs : List (List Key × V))
 | set (S : Int → Bool) (n : Nat)
 | ins (C dx : Addr) (fs : List (Str × V))
 | own (x : Addr)
 | xd (fs : List (Str × V))
 | met (f x : Addr)
 | rng (lo hi : Int)
 | frz (o : Obj) (u : HO)
 | tbl (ps : Array Value)
 | ext (φ : Heap → Prop)
abbrev Hp := Addr → Option HO
def upd (H : Hp) (a : Addr) (o : HO) : Hp := fun b => if b = a then some o else H b
theorem upd_same {H : Hp} {a : Addr} {o : HO} : upd H a o a = some o := by unfold upd; rw [if_pos rfl]
theorem upd_ne {H : Hp} {a b : Addr} {o : HO} (h : b ≠ a) : upd H a o b = H b := by unfold upd; rw [if_neg h]
theorem ne_of_none {H : Hp} {a b : Addr} {o : HO} (h : H a = some o) (h' : H b = none) : a ≠ b := by
 intro e; subst e; rw [h] at h'; cases h'
section
variable (P : Program) (w : World)
def ObjOk (H : Hp) (h : Heap) (a : Addr) : HO → Prop
 | .lst xs => xs.length ≤ sizeLine ∧ ∃ (its : List Value) (n : Nat), Vals xs its ∧ h.get? a = some { cls := .type "list", data := .seq its.toArray n }
 | .tup xs => xs.length ≤ sizeLine ∧ ∃ its : List Value, Vals xs its ∧ IsTup h a its.toArray
 | .dK kvs => kvs.length ≤ sizeLine ∧ (a == sysModules) = false ∧ ∃ vs, KV kvs vs ∧ h.DictOf (mixKind P w) a vs
 | .dT kvs => kvs.length ≤ sizeLine ∧ (a == sysModules) = false ∧ ∃ xs : List (List Key × Addr × Value),
  Paired (fun (p : List Key × V) (q : List Key × Addr × Value) => p.1 = q.1 ∧ H q.2.1 = some (.tup (p.1.map kV)) ∧ RelV p.2 q.2.2) kvs xs ∧
  ∃ o es ep, h.get? a = some o ∧ o.ExactDict ∧ o.data = .dict es ep ∧ es.toList = xs.map (entryOfKey (tupleKind (mixKind P w))) ∧ (xs.map (·.1)).Nodup
 | .set S n => h.SetOf (intKind P w) a S n
 | .ins C dx fs => H dx = some (.own a) ∧ fs.length ≤ 1000 ∧ dx ≠ a ∧ h.get? a = some (PySem.W.instObj C dx) ∧
  ∃ mA, h.Ns1 dx mA ∧ (∀ f, RelO (fs.lookup f) (mA f)) ∧ PySem.Within mA (fs.map (·.1))
 | .own _ => ∃ o, h.get? a = some o
 | .xd fs => ∃ mA, h.Ns1 a mA ∧ ∀ f, RelO (fs.lookup f) (mA f)
 | .rng lo hi => ∃ t u v, h.get? a = some { cls := .type "range", data := .fields #[.int lo t, .int hi u, .int 1 v] }
 | .frz o u => h.get? a = some o ∧ ObjOk H h a u
 | .tbl ps => h.get? a = some { cls := .none, data := .fields ps }
 | .met f x => h.get? a = some (PySem.W.methodObj (.ref f) (.ref x))
 | .ext φ => φ h ∧ (∃ o, h.get? a = some o) ∧ ∀ h1 h2 : Heap, φ h1 → (∀ o, h1.get? a = some o → h2.get? a = some o) → φ h2
def HOk (H : Hp) (h : Heap) : Prop := ∀ a o, H a = some o → ObjOk P w H h a o
end
section
variable {P : Program} {w : World} {H H' : Hp} {h h' : Heap} {a : Addr} {o : HO}
theorem ObjOk.lt (x : ObjOk P w H h a o) : a < h.objs.size := by
 cases o with
 | lst xs => obtain ⟨_, _, _, _, e⟩ := x; exact Heap.lt_size e
 | tup xs => obtain ⟨_, _, _, p⟩ := x; exact p.lt
 | dK kvs => obtain ⟨_, _, _, _, o, _, _, e, _⟩ := x; exact Heap.lt_size e
 | dT kvs => obtain ⟨_, _, _, _, o, _, _, e, _⟩ := x; exact Heap.lt_size e
 | set S n => obtain ⟨o, _, _, _, e, _⟩ := x; exact Heap.lt_size e
 | ins C dx fs => obtain ⟨_, _, _, e, _⟩ := x; exact Heap.lt_size e
 | own y => obtain ⟨_, e⟩ := x; exact Heap.lt_size e
 | xd fs => obtain ⟨_, ⟨_, _, _, e, _⟩, _⟩ := x; exact Heap.lt_size e
 | rng lo hi => obtain ⟨_, _, _, e⟩ := x; exact Heap.lt_size e
 | frz ob u => obtain ⟨e, _⟩ := x; exact Heap.lt_size e
 | tbl ps => exact Heap.lt_size (show h.get? a = some _ from x)
 | met f y => exact Heap.lt_size (show h.get? a = some _ from x)
 | ext φ => obtain ⟨_, ⟨_, e⟩, _⟩ := x; exact Heap.lt_size e
theorem Paired.mapP {α β : Type} {F G : α → β → Prop} : ∀ {l₁ : List α} {l₂ : List β}, Paired F l₁ l₂ → (∀ a b, F a b → G a b) → Paired G l₁ l₂
 | _, _, .nil, _ => .nil
 | _, _, .cons r t, f => .cons (f _ _ r) (Paired.mapP t f)
theorem ObjOk.stay (x : ObjOk P w H h a o) (k : ∀ b u, (b = a ∨ H b = some (.own a)) → h.get? b = some u → h'.get? b = some u)
 (ho : ∀ b, H b = some (.own a) → H' b = some (.own a)) (ht : ∀ b xs, H b = some (.tup xs) → H' b = some (.tup xs)) : ObjOk P w H' h' a o := by
 induction o with
 | lst xs => obtain ⟨z, its, n, r, e⟩ := x; exact ⟨z, its, n, r, k _ _ (.inl rfl) e⟩
 | tup xs => obtain ⟨z, its, r, ob, e, c⟩ := x; exact ⟨z, its, r, ob, k _ _ (.inl rfl) e, c⟩
 | dK kvs => obtain ⟨z, y, vs, r, ob, es, ep, e, c⟩ := x; exact ⟨z, y, vs, r, ob, es, ep, k _ _ (.inl rfl) e, c⟩
 | dT kvs =>
   obtain ⟨z, y, xs, r, ob, es, ep, e, c⟩ := x
   exact ⟨z, y, xs, Paired.mapP r fun p q z => ⟨z.1, ht _ _ z.2.1, z.2.2⟩, ob, es, ep, k _ _ (.inl rfl) e, c⟩
 | set S n => obtain ⟨ob, es, ep, t, e, c⟩ := x; exact ⟨ob, es, ep, t, k _ _ (.inl rfl) e, c⟩
 | ins C dx fs =>
   obtain ⟨d, z, ne, e, mA, ⟨od, es, ep, e2, c⟩, r⟩ := x
   exact ⟨ho _ d, z, ne, k _ _ (.inl rfl) e, mA, ⟨od, es, ep, k _ _ (.inr d) e2, c⟩, r⟩
 | own y => obtain ⟨ob, e⟩ := x; exact ⟨ob, k _ _ (.inl rfl) e⟩
 | xd fs => obtain ⟨mA, ⟨od, es, ep, e, c⟩, r⟩ := x; exact ⟨mA, ⟨od, es, ep, k _ _ (.inl rfl) e, c⟩, r⟩
 | rng lo hi => obtain ⟨t, u, v, e⟩ := x; exact ⟨t, u, v, k _ _ (.inl rfl) e⟩
 | frz ob u ih => obtain ⟨e, q⟩ := x; exact ⟨k _ _ (.inl rfl) e, ih q⟩
 | tbl ps =>
   have e : h.get? a = some { cls := .none, data := .fields ps } := x
   show h'.get? a = some { cls := .none, data := .fields ps }
   exact k a _ (.inl rfl) e
 | met f y =>
   have e : h.get? a = some (PySem.W.methodObj (.ref f) (.ref y)) := x
   show h'.get? a = some (PySem.W.methodObj (.ref f) (.ref y))
   exact k a _ (.inl rfl) e
 | ext φ => obtain ⟨p, ⟨o, e⟩, st⟩ := x; exact ⟨st _ _ p fun o q => k _ _ (.inl rfl) q, ⟨o, k _ _ (.inl rfl) e⟩, st⟩
theorem HOk.lt (x : HOk P w H h) (e : H a = some o) : a < h.objs.size := (x a o e).lt
theorem HOk.fresh (x : HOk P w H h) (e : h.objs.size ≤ a) : H a = none := by
 cases q : H a with
 | none => rfl
 | some u => exact absurd (Nat.lt_of_lt_of_le (x.lt q) e) (Nat.lt_irrefl _)
theorem HOk.kept (x : HOk P w H h) (k : ∀ b u, h.get? b = some u → h'.get? b = some u) : HOk P w H h' := fun a o e =>
 (x a o e).stay (fun b u _ q => k b u q) (fun _ q => q) fun _ _ q => q
theorem HOk.laid (x : HOk P w H h) (k : ∀ b u, h.get? b = some u → h'.get? b = some u) (hp : h.objs.size ≤ a) (new : ObjOk P w (upd H a o) h' a o) : HOk P w (upd H a o) h' := fun b u e => by
 have hn := x.fresh hp
 by_cases hb : b = a
 ·subst hb; rw [upd_same] at e; cases e; exact new
 ·rw [upd_ne hb] at e
  exact (x b u e).stay (fun c v _ q => k c v q) (fun c q => by rw [upd_ne (ne_of_none q hn)]; exact q) fun c xs q => by rw [upd_ne (ne_of_none q hn)]; exact q
end
def Rd (H : Hp) (a : Addr) (u : HO) : Prop := H a = some u ∨ ∃ o, H a = some (.frz o u)
theorem Rd.ok {P : Program} {w : World} {H : Hp} {h : Heap} {a : Addr} {u : HO} (r : Rd H a u) (x : HOk P w H h) : ObjOk P w H h a u := by
 rcases r with r | ⟨o, r⟩
 ·exact x a u r
 ·obtain ⟨_, q⟩ := x a _ r
  exact q
def Mut : Option HO → Prop
 | some (.lst _) => True
 | some (.dK _) => True
 | some (.dT _) => True
 | some (.set _ _) => True
 | some (.ins _ _ _) => True
 | some (.ext _) => True
 | _ => False
section
variable {P : Program} {w : World} {H : Hp} {h h' : Heap} {x e : Addr} {o' : HO}
theorem HOk.write (ok : HOk P w H h) (mu : Mut (H x)) (he : e = x ∨ H e = some (.own x)) (k : ∀ b u, b ≠ e → h.get? b = some u → h'.get? b = some u) (heo : ∃ u, h'.get? e = some u)
 (new : ObjOk P w (upd H x o') h' x o') : HOk P w (upd H x o') h' := fun b u q => by
 have nown : ∀ c y, H c = some (.own y) → c ≠ x := fun c y r z => by subst z; rw [r] at mu; exact mu
 have ntup : ∀ c xs, H c = some (.tup xs) → c ≠ x := fun c xs r z => by subst z; rw [r] at mu; exact mu
 by_cases hb : b = x
 ·subst hb; rw [upd_same] at q; cases q; exact new
 ·rw [upd_ne hb] at q
  by_cases hbe : b = e
  ·have q' : H b = some (.own x) := by
    rcases he with z | z
    ·exact absurd (hbe.trans z) hb
    ·rw [hbe]; exact z
   rw [q] at q'; cases q'
   obtain ⟨v, hv⟩ := heo
   exact ⟨v, by rw [hbe]; exact hv⟩
  ·refine (ok b u q).stay (fun c v hc r => k c v ?_ r) (fun c r => by rw [upd_ne (nown c b r)]; exact r) fun c xs r => by rw [upd_ne (ntup c xs r)]; exact r
   rcases hc with rfl | hc
   ·exact hbe
   ·rintro rfl
    rcases he with z | z
    ·exact nown c b hc z
    ·rw [hc] at z; cases z; exact hb rfl
end
structure Un (fs ex : List Addr) (H H' : Hp) (h h' : Heap) : Prop where
 keep : ∀ b o, h.get? b = some o → H b = none → b ∉ fs → b ∉ ex → h'.get? b = some o
 slot : ∀ b o, h.get? b = some o → H b = none → b ∈ fs → b ∉ ex → ∃ sl, h'.get? b = some { o with slots := sl }
 free : ∀ b o, h.get? b = some o → H b = none → b ∉ ex → H' b = none
 there : ∀ b o, h.get? b = some o → b ∉ ex → ∃ o', h'.get? b = some o'
 tups : ∀ b xs, H b = some (.tup xs) → H' b = some (.tup xs)
 frzs : ∀ b o u, H b = some (.frz o u) → H' b = some (.frz o u)
 tbls : ∀ b ps, H b = some (.tbl ps) → ∃ more, H' b = some (.tbl (ps ++ more))
section
variable {fs fs' ex ex' : List Addr} {H H1 H2 : Hp} {h h1 h2 h' : Heap} {a x e : Addr} {o : HO}
theorem Un.any (u : Un fs ex H H1 h h1) {b : Addr} {ob : Obj} (q : h.get? b = some ob) (n : H b = none) (hx : b ∉ ex) : ∃ sl, h1.get? b = some { ob with slots := sl } := by
 by_cases hb : b ∈ fs
 ·exact u.slot b ob q n hb hx
 ·exact ⟨ob.slots, u.keep b ob q n hb hx⟩
theorem Un.kept (k : ∀ b u, h.get? b = some u → h'.get? b = some u) : Un fs ex H H h h' :=
 ⟨fun b ob q _ _ _ => k b ob q, fun b ob q _ _ _ => ⟨ob.slots, k b ob q⟩, fun _ _ _ n _ => n, fun b ob q _ => ⟨ob, k b ob q⟩, fun _ _ q => q, fun _ _ _ q => q, fun _ ps q => ⟨#[], by rw [q]; simp⟩⟩
theorem Un.refl : Un fs ex H H h h := Un.kept fun _ _ q => q
theorem Un.laid (k : ∀ b u, h.get? b = some u → h'.get? b = some u) (hp : h.objs.size ≤ a) (hn : H a = none) : Un fs ex H (upd H a o) h h' where
 keep := fun b u q _ _ _ => k b u q
 slot := fun b u q _ _ _ => ⟨u.slots, k b u q⟩
 free := fun b u q n _ => by rw [upd_ne (Nat.ne_of_lt (Nat.lt_of_lt_of_le (Heap.lt_size q) hp))]; exact n
 there := fun b u q _ => ⟨u, k b u q⟩
 tups := fun b xs q => by rw [upd_ne (ne_of_none q hn)]; exact q
 frzs := fun b u xs q => by rw [upd_ne (ne_of_none q hn)]; exact q
 tbls := fun b ps q => ⟨#[], by rw [upd_ne (ne_of_none q hn), q]; simp⟩
theorem Un.write (mu : Mut (H x)) (he : e = x ∨ H e = some (.own x)) (k : ∀ b u, b ≠ e → h.get? b = some u → h'.get? b = some u) (heo : ∃ u, h'.get? e = some u) : Un fs ex H (upd H x o) h h' := by
 have hx : ∀ b, H b = none → b ≠ x := fun b n z => by subst z; rw [n] at mu; exact mu
 have hb : ∀ b, H b = none → b ≠ e := fun b n z => by
  subst z
  rcases he with r | r
  ·exact hx b n r
  ·rw [n] at r; cases r
 have hm : ∀ b u, H b = some u → ¬ Mut (some u) → b ≠ x := fun b u q nm z => by subst z; rw [q] at mu; exact nm mu
 refine ⟨fun b u q n _ _ => k b u (hb b n) q, fun b u q n _ _ => ⟨u.slots, k b u (hb b n) q⟩, fun b u q n _ => by rw [upd_ne (hx b n)]; exact n, fun b u q _ => ?_,
  fun b xs q => by rw [upd_ne (hm b _ q fun z => z)]; exact q, fun b u xs q => by rw [upd_ne (hm b _ q fun z => z)]; exact q, fun b ps q => ⟨#[], by rw [upd_ne (hm b _ q fun z => z), q]; simp⟩⟩
 by_cases hbe : b = e
 ·subst hbe; exact heo
 ·exact ⟨u, k b u hbe q⟩
end
def trk (h : Heap) (H : Hp) : List Addr := (List.range h.objs.size).filter fun a => (H a).isSome
def hidT (h : Heap) (H : Hp) : Heap := PySem.W.hideAll h (trk h H)
theorem hidT_size (h : Heap) (H : Hp) : (hidT h H).objs.size = h.objs.size := PySem.W.hideAll_size _ _
theorem hidT_get {h : Heap} {H : Hp} {b : Addr} {o : Obj} (e : h.get? b = some o) (n : H b = none) : (hidT h H).get? b = some o :=
 PySem.W.hideAll_get _ e fun hm => by
  have q : (H b).isSome = true := (List.mem_filter.mp hm).2
  rw [n] at q; simp at q
theorem of_hidT {h : Heap} {H : Hp} {b : Addr} {o : Obj} (e : (hidT h H).get? b = some o) : h.get? b = some o ∧ H b = none := by
 have e' : h.get? b = some o := PySem.W.of_hideAll (trk h H) e
 refine ⟨e', ?_⟩
 cases q : H b with
 | none => rfl
 | some x =>
   have hm : b ∈ trk h H := List.mem_filter.mpr ⟨List.mem_range.mpr (Heap.lt_size e'), by simp [q]⟩
   have z : (hidT h H).get? b = none := PySem.W.hideAll_none (trk h H) hm
   rw [z] at e; cases e
def allNews (g h : Heap) (L : Addr) : List (Addr × Obj) := (List.range h.objs.size).filterMap fun a => if a = L ∨ (g.get? a).isSome = true then none else (h.get? a).map fun o => (a, o)
def rest (g h : Heap) (L d : Addr) : List (Addr × Obj) := (allNews g h L).filter fun p => decide (p.1 ≠ d)
end L2
namespace L2
open PySem PySem.Spec PyProof.Rows
structure Mod (K : PySem.W.Frag) (mg : Str → Option Value) (base : Heap) : Prop where
 kin : K.In base
 glob : base.Ns mainGlobals mg
 blt : ∃ mb, base.Ns builtinsNs mb ∧ ∀ x : Str, x ≠ "__name__" → mb x = bootBuiltins x
 nolimit : base.NoLimit
structure Cx where
 prog : Program
 w : World
 K : PySem.W.Frag
 mg : Str → Option Value
 base : Heap
 A : Around
 N : List Str
 s₀ : Shared
 H₀ : Hp
 env : Env
 outer : List Env
 stack : List Env
 ex : List Addr
 fn : Str → Bool
 calm : Bool
 pn : List (Addr × Obj)
 xe : Value → Shared → Prop
def frs (l : List Env) : List Addr := l.filterMap (·.frame)
abbrev Cx.fs (X : Cx) : List Addr := frs X.outer
def Vis (sc : Scope) (x : Str) : Prop := sc.names.lookup x = some .local ∨ sc.names.lookup x = some .cell ∨ sc.names.lookup x = some .free
def Loc (sc : Scope) (x : Str) : Prop := sc.names.lookup x = some .local ∨ sc.names.lookup x = some .cell
def Look (env : Env) (h : Heap) (m : Str → Option Value) (x : Str) (u : Value) : Prop :=
 (env.kindOf x = some .local ∧ m x = some u) ∨ ((env.kindOf x = some .cell ∨ env.kindOf x = some .free) ∧ ∃ c, env.cells.lookup x = some c ∧ h.IsCell c (some u))
structure Cx.Ok (X : Cx) : Prop where
 mod : Mod X.K X.mg X.base
 kind : X.env.scope.kind = .function
 glob : X.env.globals = mainGlobals
 blt : X.env.builtins = builtinsNs
 above : X.s₀.heap.objs.size ≤ X.env.locals
 inj : ∀ x y c, X.env.cells.lookup x = some c → X.env.cells.lookup y = some c → x = y
 has : ∀ x, (X.env.kindOf x = some .cell ∨ X.env.kindOf x = some .free) → ∃ c, X.env.cells.lookup x = some c
 cab : ∀ x c, X.fn x = true → X.env.cells.lookup x = some c → X.s₀.heap.objs.size ≤ c
 hd : X.calm = true → X.A.handled = none
 frames : X.A.frames = some X.stack
 stk : X.stack = X.outer ∨ (X.stack = X.env :: X.outer ∧ X.env.frame = some X.env.locals)
 exf : ∀ b ∈ X.ex, b ≠ X.env.locals ∧ ∀ x c, X.env.cells.lookup x = some c → c ≠ b
 bs : ∀ b o, X.base.get? b = some o → X.s₀.heap.get? b = some o ∧ X.H₀ b = none
 bsz : X.base.objs.size ≤ X.s₀.heap.objs.size
 noex : ∀ b o, X.base.get? b = some o → b ∉ X.ex
 exfs : ∀ b ∈ X.ex, b ∉ X.fs
 funs : X.s₀.heap.FunFrames X.base X.outer
 frf : ∀ b ∈ X.fs, X.H₀ b = none
structure Inv (X : Cx) (pins : List (Addr × Obj)) (σ : List (Option V)) (H : Hp) (s : Shared) : Prop where
 ok : X.Ok
 os : s.os = X.s₀.os
 bare : AllBare s.gens
 base : Un X.fs X.ex X.H₀ H X.s₀.heap s.heap
 loc : ∃ m, s.heap.Ns X.env.locals m ∧ ∀ (i : Nat) (x : Str) (v : V), X.N[i]? = some x → σ[i]? = some (some v) → Vis X.env.scope x → ∃ u, RelV v u ∧ Look X.env s.heap m x u
 cell : ∀ x c, X.env.cells.lookup x = some c → ∃ v, s.heap.IsCell c v
 free : H X.env.locals = none
 freeC : ∀ x c, X.env.cells.lookup x = some c → H c = none
 pin : ∀ p ∈ X.pn ++ pins, s.heap.get? p.1 = some p.2 ∧ H p.1 = none ∧ p.1 ≠ X.env.locals ∧ p.1 ∉ X.fs ∧ ∀ v, p.2.data ≠ .cell v
 hok : HOk X.prog X.w H s.heap
 len : σ.length = X.N.length
section
variable {X : Cx} {pins : List (Addr × Obj)} {σ : List (Option V)} {H H' : Hp} {s : Shared} {h' : Heap}
theorem Cx.Ok.nofr (ok : X.Ok) {b : Addr} {o : Obj} (e : X.base.get? b = some o) : b ∉ X.fs := fun hb => by
 have := (ok.funs.mem hb).1
 rw [e] at this; cases this
theorem Inv.bs (I : Inv X pins σ H s) : ∀ b o, X.base.get? b = some o → s.heap.get? b = some o ∧ H b = none := fun b o e =>
 ⟨I.base.keep b o (I.ok.bs b o e).1 (I.ok.bs b o e).2 (I.ok.nofr e) (I.ok.noex b o e), I.base.free b o (I.ok.bs b o e).1 (I.ok.bs b o e).2 (I.ok.noex b o e)⟩
theorem Inv.bk (I : Inv X pins σ H s) : ∀ b o, X.base.get? b = some o → s.heap.get? b = some o := fun b o e => (I.bs b o e).1
theorem Inv.mod (I : Inv X pins σ H s) : Mod X.K X.mg X.base := I.ok.mod
theorem Inv.kIn (I : Inv X pins σ H s) : X.K.In s.heap := I.ok.mod.kin.keeps I.bk
theorem Inv.lt (I : Inv X pins σ H s) : X.env.locals < s.heap.objs.size := let ⟨_, hn, _⟩ := I.loc; hn.lt
theorem Inv.sz (I : Inv X pins σ H s) : X.s₀.heap.objs.size ≤ s.heap.objs.size := Nat.le_trans I.ok.above (Nat.le_of_lt I.lt)
theorem Inv.nofs (I : Inv X pins σ H s) {a : Addr} (h : s.heap.objs.size ≤ a) : a ∉ X.fs := fun hb => by
 obtain ⟨_, o, ho, _⟩ := I.ok.funs.mem hb
 exact absurd (Nat.lt_of_lt_of_le (Heap.lt_size ho) (Nat.le_trans I.sz h)) (Nat.lt_irrefl _)
theorem Inv.cne (I : Inv X pins σ H s) : ∀ x c, X.env.cells.lookup x = some c → c ≠ X.env.locals := fun x c e z => by
 obtain ⟨v, o, ho, hd⟩ := I.cell x c e
 obtain ⟨m, ⟨o', es, ep, ho', hd', _⟩, _⟩ := I.loc
 rw [z, ho'] at ho; cases ho; rw [hd'] at hd; cases hd
theorem Inv.funs (I : Inv X pins σ H s) : s.heap.FunFrames X.base X.outer := by
 have all : ∀ (l : List Env), (∀ b ∈ frs l, b ∈ X.fs) → X.s₀.heap.FunFrames X.base l → s.heap.FunFrames X.base l := by
  intro l
  induction l with
  | nil => intro _ _; trivial
  | cons env r ih =>
    intro hs hl
    obtain ⟨hk, ⟨L, o, hf, hn, ho, hd⟩, hr⟩ := hl
    have hL : L ∈ X.fs := hs L (by unfold frs; rw [List.filterMap_cons, hf]; exact List.mem_cons_self)
    obtain ⟨sl, e⟩ := I.base.slot L o ho (I.ok.frf L hL) hL fun z => I.ok.exfs L z hL
    exact ⟨hk, ⟨L, _, hf, hn, e, hd⟩, ih (fun b hb => hs b (by unfold frs; rw [List.filterMap_cons, hf]; exact List.mem_cons_of_mem _ hb)) hr⟩
 exact all X.outer (fun _ hb => hb) I.ok.funs
theorem Inv.stack (I : Inv X pins σ H s) : s.heap.FunFrames X.base X.stack := by
 rcases I.ok.stk with e | ⟨e, hf⟩
 ·rw [e]; exact I.funs
 ·rw [e]
  obtain ⟨m, hn, _⟩ := I.loc
  refine .cons (by rw [I.ok.kind]; decide) hf hn ?_ I.funs
  exact Heap.get?_none_of_le (Nat.le_trans I.ok.bsz I.ok.above)
theorem Inv.stkSub (I : Inv X pins σ H s) : ∀ b ∈ frs X.stack, b ∈ X.env.locals :: X.fs := fun b hb => by
 rcases I.ok.stk with e | ⟨e, hf⟩
 ·rw [e] at hb; exact List.mem_cons_of_mem _ hb
 ·rw [e] at hb
  unfold frs at hb
  rw [List.filterMap_cons, hf] at hb
  exact hb
theorem Inv.stkFree (I : Inv X pins σ H s) : ∀ b ∈ frs X.stack, H b = none := fun b hb => by
 rcases List.mem_cons.mp (I.stkSub b hb) with e | hb
 ·rw [e]; exact I.free
 ·obtain ⟨_, o, ho, _⟩ := I.ok.funs.mem hb
  exact I.base.free b o ho (I.ok.frf b hb) fun z => I.ok.exfs b z hb
theorem Inv.step {g' : Array GenState} {t' : Nat} {d' : Drawn} {ch : List Addr} (I : Inv X pins σ H s)
 (hch : ∀ b ∈ ch, (b ∈ X.ex ∨ X.s₀.heap.objs.size ≤ b) ∧ b ≠ X.env.locals ∧ (∀ x c, X.env.cells.lookup x = some c → c ≠ b) ∧ ∀ p ∈ X.pn ++ pins, p.1 ≠ b)
 (keep : ∀ b o, b ≠ X.env.locals → b ∉ X.fs → b ∉ ch → s.heap.get? b = some o → H b = none → h'.get? b = some o)
 (slot : ∀ b o, b ≠ X.env.locals → b ∈ X.fs → b ∉ ch → s.heap.get? b = some o → H b = none → ∃ sl, h'.get? b = some { o with slots := sl }) (free : ∀ b o, b ∉ ch → s.heap.get? b = some o → H b = none → H' b = none)
 (there : ∀ b o, b ∉ ch → s.heap.get? b = some o → ∃ o', h'.get? b = some o')
 (tups : ∀ b xs, H b = some (.tup xs) → H' b = some (.tup xs)) (frzs : ∀ b o u, H b = some (.frz o u) → H' b = some (.frz o u)) (tbls : ∀ b ps, H b = some (.tbl ps) → ∃ more, H' b = some (.tbl (ps ++ more)))
 (ns : ∀ m, s.heap.Ns X.env.locals m → h'.Ns X.env.locals m) (hok : HOk X.prog X.w H' h') (hg : AllBare g') :
 Inv X pins σ H' { s with heap := h', gens := g', drawn := d', toks := t' } := by
 have neL : ∀ b o, X.s₀.heap.get? b = some o → b ≠ X.env.locals := fun b o e => Nat.ne_of_lt (Nat.lt_of_lt_of_le (Heap.lt_size e) I.ok.above)
 have neC : ∀ b o, X.s₀.heap.get? b = some o → b ∉ X.ex → b ∉ ch := fun b o e hx hb => by
  rcases (hch b hb).1 with z | z
  ·exact hx z
  ·exact absurd (Nat.lt_of_lt_of_le (Heap.lt_size e) z) (Nat.lt_irrefl _)
 have cellK : ∀ x c, X.env.cells.lookup x = some c → ∀ v, s.heap.IsCell c v → h'.IsCell c v := fun x c e v ⟨o, ho, hd⟩ => by
  have nch : c ∉ ch := fun z => (hch c z).2.2.1 x c e rfl
  by_cases hc : c ∈ X.fs
  ·obtain ⟨sl, q⟩ := slot c o (I.cne x c e) hc nch ho (I.freeC x c e)
   exact ⟨_, q, hd⟩
  ·exact ⟨o, keep c o (I.cne x c e) hc nch ho (I.freeC x c e), hd⟩
 refine ⟨I.ok, I.os, hg, ⟨fun b o e n hb hx => ?_, fun b o e n hb hx => ?_, fun b o e n hx => ?_, fun b o e hx => ?_, fun b xs e => tups b xs (I.base.tups b xs e), fun b o xs e => frzs b o xs (I.base.frzs b o xs e), fun b ps e => ?_⟩, ?_, fun x c e => ?_, ?_, fun x c e => ?_, fun p hp => ?_, hok, I.len⟩
 ·exact keep b o (neL b o e) hb (neC b o e hx) (I.base.keep b o e n hb hx) (I.base.free b o e n hx)
 ·obtain ⟨sl, e1⟩ := I.base.slot b o e n hb hx
  obtain ⟨sl', e2⟩ := slot b _ (neL b o e) hb (neC b o e hx) e1 (I.base.free b o e n hx)
  exact ⟨sl', e2⟩
 ·obtain ⟨o', e1⟩ := I.base.there b o e hx
  exact free b o' (neC b o e hx) e1 (I.base.free b o e n hx)
 ·obtain ⟨o', e1⟩ := I.base.there b o e hx
  exact there b o' (neC b o e hx) e1
 ·obtain ⟨m1, e1⟩ := I.base.tbls b ps e
  obtain ⟨m2, e2⟩ := tbls b _ e1
  exact ⟨m1 ++ m2, by rw [e2, Array.append_assoc]⟩
 ·obtain ⟨m, hn, hl⟩ := I.loc
  refine ⟨m, ns m hn, fun i x v e1 e2 e3 => ?_⟩
  obtain ⟨u, r, l⟩ := hl i x v e1 e2 e3
  refine ⟨u, r, ?_⟩
  rcases l with l | ⟨k, c, e, z⟩
  ·exact .inl l
  ·exact .inr ⟨k, c, e, cellK x c e _ z⟩
 ·obtain ⟨v, z⟩ := I.cell x c e
  exact ⟨v, cellK x c e v z⟩
 ·obtain ⟨m, ⟨o, _, _, ho, _⟩, _⟩ := I.loc
  exact free _ o (fun z => (hch _ z).2.1 rfl) ho I.free
 ·obtain ⟨v, o, ho, hd⟩ := I.cell x c e
  exact free c o (fun z => (hch c z).2.2.1 x c e rfl) ho (I.freeC x c e)
 ·obtain ⟨e, n, ne, nf, d⟩ := I.pin p hp
  have nch : p.1 ∉ ch := fun z => (hch p.1 z).2.2.2 p hp rfl
  exact ⟨keep p.1 p.2 ne nf nch e n, free p.1 p.2 nch e n, ne, nf, d⟩
theorem Inv.un {t' : Nat} (I : Inv X pins σ H s) (u : Un X.fs [] H H' s.heap h') (hok : HOk X.prog X.w H' h') : Inv X pins σ H' { s with heap := h', toks := t' } := by
 obtain ⟨m, ⟨o, es, ep, ho, r⟩, _⟩ := id I.loc
 obtain ⟨sl, hL⟩ := u.any ho I.free (by simp)
 exact I.step (g' := s.gens) (d' := s.drawn) (ch := []) (fun _ z => nomatch z) (fun b o _ hb _ e n => u.keep b o e n hb (by simp)) (fun b o _ hb _ e n => u.slot b o e n hb (by simp)) (fun b o _ e n => u.free b o e n (by simp)) (fun b o _ e => u.there b o e (by simp)) u.tups u.frzs u.tbls (fun m' hm => by
  obtain ⟨o', es', ep', ho', r'⟩ := hm
  rw [ho] at ho'; cases ho'
  exact ⟨_, es', ep', hL, r'⟩) hok I.bare
theorem Inv.call {g' : Array GenState} {t' : Nat} {d' : Drawn} {ch : List Addr} (I : Inv X pins σ H s) (u : Un (frs X.stack) ch H H' s.heap h') (hok : HOk X.prog X.w H' h') (hg : AllBare g')
 (hch : ∀ b ∈ ch, (b ∈ X.ex ∨ X.s₀.heap.objs.size ≤ b) ∧ b ≠ X.env.locals ∧ (∀ x c, X.env.cells.lookup x = some c → c ≠ b) ∧ ∀ p ∈ X.pn ++ pins, p.1 ≠ b) :
 Inv X pins σ H' { s with heap := h', gens := g', drawn := d', toks := t' } := by
 obtain ⟨m, ⟨o, es, ep, ho, r⟩, _⟩ := id I.loc
 obtain ⟨sl, hL⟩ := u.any ho I.free fun z => (hch _ z).2.1 rfl
 exact I.step (ch := ch) hch (fun b o hL hb hc e n => u.keep b o e n (fun z => (List.mem_cons.mp (I.stkSub b z)).elim hL hb) hc) (fun b o _ _ hc e n => u.any e n hc) (fun b o hc e n => u.free b o e n hc) (fun b o hc e => u.there b o e hc) u.tups u.frzs u.tbls (fun m' hm => by
  obtain ⟨o', es', ep', ho', r'⟩ := hm
  rw [ho] at ho'; cases ho'
  exact ⟨_, es', ep', hL, r'⟩) hok hg
theorem Inv.turned {t' : Nat} {it : Addr} (I : Inv X pins σ H s) (k : ∀ b o, b ≠ it → s.heap.get? b = some o → h'.get? b = some o) (hn : H it = none) (hL : it ≠ X.env.locals)
 (h1 : it ∈ X.ex ∨ X.s₀.heap.objs.size ≤ it) (h2 : ∀ x c, X.env.cells.lookup x = some c → c ≠ it) (h3 : ∀ p ∈ X.pn ++ pins, p.1 ≠ it) : Inv X pins σ H { s with heap := h', toks := t' } := by
 have nit : ∀ b u, H b = some u → b ≠ it := fun b u e z => by rw [z, hn] at e; cases e
 refine I.step (g' := s.gens) (d' := s.drawn) (ch := [it]) (fun b hb => ?_) (fun b o _ _ hc e _ => k b o (fun z => hc (by simp [z])) e) (fun b o _ _ hc e _ => ⟨o.slots, k b o (fun z => hc (by simp [z])) e⟩) (fun _ _ _ _ n => n)
  (fun b o hc e => ⟨o, k b o (fun z => hc (by simp [z])) e⟩) (fun _ _ e => e) (fun _ _ _ e => e) (fun b ps e => ⟨#[], by rw [e]; simp⟩) (fun m hm => ?_) (fun b u e => ?_) I.bare
 ·have e : b = it := by simpa using hb
  subst e
  exact ⟨h1, hL, h2, h3⟩
 ·obtain ⟨o, es, ep, ho, r⟩ := hm
  exact ⟨o, es, ep, k _ o (Ne.symm hL) ho, r⟩
 ·refine (I.hok b u e).stay (fun c v hc q => k c v ?_ q) (fun _ q => q) fun _ _ q => q
  rcases hc with z | z
  ·rw [z]; exact nit b u e
  ·exact nit c _ z
theorem Inv.tok (I : Inv X pins σ H s) (t : Nat) : Inv X pins σ H { s with toks := t } := I.un (h' := s.heap) (t' := t) Un.refl I.hok
theorem Inv.kept {t' : Nat} (I : Inv X pins σ H s) (k : ∀ b u, s.heap.get? b = some u → h'.get? b = some u) : Inv X pins σ H { s with heap := h', toks := t' } := I.un (Un.kept k) (I.hok.kept k)
theorem Inv.laid {a : Addr} {o : HO} {t' : Nat} (I : Inv X pins σ H s) (k : ∀ b u, s.heap.get? b = some u → h'.get? b = some u) (hp : s.heap.objs.size ≤ a) (new : ObjOk X.prog X.w (upd H a o) h' a o) :
 Inv X pins σ (upd H a o) { s with heap := h', toks := t' } := I.un (Un.laid k hp (I.hok.fresh hp)) (I.hok.laid k hp new)
theorem Inv.write {x e : Addr} {o : HO} {t' : Nat} (I : Inv X pins σ H s) (mu : Mut (H x)) (he : e = x ∨ H e = some (.own x)) (k : ∀ b u, b ≠ e → s.heap.get? b = some u → h'.get? b = some u) (heo : ∃ u, h'.get? e = some u)
 (new : ObjOk X.prog X.w (upd H x o) h' x o) : Inv X pins σ (upd H x o) { s with heap := h', toks := t' } := I.un (Un.write mu he k heo) (I.hok.write mu he k heo new)
theorem Inv.weak {σ' : List (Option V)} (I : Inv X pins σ H s) (hl : σ'.length = σ.length) (w : ∀ (i : Nat) v, σ'[i]? = some (some v) → σ[i]? = some (some v)) : Inv X pins σ' H s :=
 ⟨I.ok, I.os, I.bare, I.base, let ⟨m, hn, hl'⟩ := I.loc; ⟨m, hn, fun i x v e1 e2 e3 => hl' i x v e1 (w i v e2) e3⟩, I.cell, I.free, I.freeC, I.pin, I.hok, hl.trans I.len⟩
theorem Inv.pins_of {pins' : List (Addr × Obj)} (I : Inv X pins σ H s) (h : ∀ p ∈ pins', s.heap.get? p.1 = some p.2 ∧ H p.1 = none ∧ p.1 ≠ X.env.locals ∧ p.1 ∉ X.fs ∧ ∀ v, p.2.data ≠ .cell v) : Inv X pins' σ H s :=
 ⟨I.ok, I.os, I.bare, I.base, I.loc, I.cell, I.free, I.freeC, fun p hp => (List.mem_append.mp hp).elim (fun z => I.pin p (List.mem_append_left _ z)) (h p), I.hok, I.len⟩
theorem nodup_ix {N : List Str} (hN : N.Nodup) {i j : Nat} {x : Str} (a : N[i]? = some x) (b : N[j]? = some x) : i = j := by
 obtain ⟨h1, e1⟩ := List.getElem?_eq_some_iff.mp a
 obtain ⟨h2, e2⟩ := List.getElem?_eq_some_iff.mp b
 exact (List.getElem_inj hN).mp (e1.trans e2.symm)
theorem store_ok2 {M : Model} {A : Around} {E : Value → Shared → Prop} {i : Nat} {x : Str} {v : V} {u : Value} {Q : Unit → Shared → Prop} (I : Inv X pins σ H s) (hN : X.N.Nodup) (hi : X.N[i]? = some x) (hx : Loc X.env.scope x) (r : RelV v u)
 (h : ∀ s', Inv X pins (σ.set i (some v)) H s' → (∃ a, Heap.SameBut a s.heap s'.heap ∧ (a = X.env.locals ∨ X.env.cells.lookup x = some a)) → Q () s') (hf : X.fn x = true ∨ X.env.scope.names.lookup x = some .local := by first | exact .inl rfl | exact .inr rfl | assumption) : wpAny M A (storeName X.env x u) Q E s := by
 obtain ⟨m, hn, hl⟩ := id I.loc
 have hcls : (X.env.scope.kind == .class || (X.env.scope.kind == .module && X.env.locals != X.env.globals)) = false := by rw [I.ok.kind]; rfl
 have hiσ : i < σ.length := by rw [I.len]; exact (List.getElem?_eq_some_iff.mp hi).1
 have cne := I.cne
 have tracked : ∀ {a : Addr} {h' : Heap}, (∃ o, s.heap.get? a = some o ∧ H a = none) → Heap.SameBut a s.heap h' → HOk X.prog X.w H h' := fun {a h'} ha hs b ob e => by
  obtain ⟨_, _, hfree⟩ := ha
  refine (I.hok b ob e).stay (fun c w' hc q => (hs.2 c ?_).trans q) (fun _ q => q) fun _ _ q => q
  rintro rfl
  rcases hc with rfl | hc
  ·rw [hfree] at e; cases e
  ·rw [hfree] at hc; cases hc
 rcases hx with hk | hk
 ·refine wpAny_storeName_local hk hn (fun h' hn' hs => ?_) hcls
  obtain ⟨oL, _, _, hoL, _⟩ := id hn
  refine h _ ⟨I.ok, I.os, I.bare, ⟨fun b o e n hb hx => ?_, fun b o e n hb hx => ?_, I.base.free, fun b o e hx => ?_, I.base.tups, I.base.frzs, I.base.tbls⟩, ⟨_, hn', fun j y v' e1 e2 e3 => ?_⟩, fun y c e => ?_, I.free, I.freeC, fun p hp => ?_, tracked ⟨oL, hoL, I.free⟩ hs, by simpa using I.len⟩ ⟨_, hs, .inl rfl⟩
  ·exact (hs.2 b (Nat.ne_of_lt (Nat.lt_of_lt_of_le (Heap.lt_size e) I.ok.above))).trans (I.base.keep b o e n hb hx)
  ·obtain ⟨sl, e1⟩ := I.base.slot b o e n hb hx
   exact ⟨sl, (hs.2 b (Nat.ne_of_lt (Nat.lt_of_lt_of_le (Heap.lt_size e) I.ok.above))).trans e1⟩
  ·obtain ⟨o', e1⟩ := I.base.there b o e hx
   exact ⟨o', (hs.2 b (Nat.ne_of_lt (Nat.lt_of_lt_of_le (Heap.lt_size e) I.ok.above))).trans e1⟩
  ·by_cases hj : j = i
   ·subst hj
    rw [hi] at e1; cases e1
    rw [List.getElem?_set_self hiσ] at e2
    cases e2
    exact ⟨u, r, .inl ⟨hk, by simp⟩⟩
   ·rw [List.getElem?_set_ne (Ne.symm hj)] at e2
    obtain ⟨u', r', q⟩ := hl j y v' e1 e2 e3
    refine ⟨u', r', ?_⟩
    rcases q with ⟨k, e⟩ | ⟨k, c, e, z⟩
    ·refine .inl ⟨k, ?_⟩
     have : y ≠ x := fun e => hj (nodup_ix hN e1 (e ▸ hi))
     simp [this, e]
    ·exact .inr ⟨k, c, e, z.sameBut hs (cne y c e)⟩
  ·obtain ⟨w', z⟩ := I.cell y c e
   exact ⟨w', z.sameBut hs (cne y c e)⟩
  ·obtain ⟨e, n, ne, nf, d⟩ := I.pin p hp
   exact ⟨(hs.2 p.1 ne).trans e, n, ne, nf, d⟩
 ·have hfn : X.fn x = true := by
   rcases hf with z | z
   ·exact z
   ·rw [z] at hk; cases hk
  obtain ⟨c, hc⟩ := I.ok.has x (.inl hk)
  obtain ⟨w', z⟩ := I.cell x c hc
  refine wpAny_storeName_cell I.ok.kind hk hc z (fun h' hc' hs => ?_)
  obtain ⟨oc, hoc, hocd⟩ := id z
  refine h { s with heap := h' } ⟨I.ok, I.os, I.bare, ⟨fun b o e n hb hx => ?_, fun b o e n hb hx => ?_, I.base.free, fun b o e hx => ?_, I.base.tups, I.base.frzs, I.base.tbls⟩, ⟨m, hn.sameBut hs (Ne.symm (cne x c hc)), fun j y v' e1 e2 e3 => ?_⟩, fun y c' e => ?_, I.free, I.freeC, fun p hp => ?_, tracked ⟨oc, hoc, I.freeC x c hc⟩ hs, by simpa using I.len⟩ ⟨c, hs, .inr hc⟩
  ·exact (hs.2 b (Nat.ne_of_lt (Nat.lt_of_lt_of_le (Heap.lt_size e) (I.ok.cab x c hfn hc)))).trans (I.base.keep b o e n hb hx)
  ·obtain ⟨sl, e1⟩ := I.base.slot b o e n hb hx
   exact ⟨sl, (hs.2 b (Nat.ne_of_lt (Nat.lt_of_lt_of_le (Heap.lt_size e) (I.ok.cab x c hfn hc)))).trans e1⟩
  ·obtain ⟨o', e1⟩ := I.base.there b o e hx
   exact ⟨o', (hs.2 b (Nat.ne_of_lt (Nat.lt_of_lt_of_le (Heap.lt_size e) (I.ok.cab x c hfn hc)))).trans e1⟩
  ·by_cases hj : j = i
   ·subst hj
    rw [hi] at e1; cases e1
    rw [List.getElem?_set_self hiσ] at e2
    cases e2
    exact ⟨u, r, .inr ⟨.inl hk, c, hc, hc'⟩⟩
   ·rw [List.getElem?_set_ne (Ne.symm hj)] at e2
    obtain ⟨u', r', q⟩ := hl j y v' e1 e2 e3
    refine ⟨u', r', ?_⟩
    rcases q with q | ⟨k, c', e, z'⟩
    ·exact .inl q
    ·refine .inr ⟨k, c', e, z'.sameBut hs ?_⟩
     rintro rfl
     exact hj (nodup_ix hN e1 (I.ok.inj _ _ _ e hc ▸ hi))
  ·by_cases hcc : c' = c
   ·subst hcc; exact ⟨_, hc'⟩
   ·obtain ⟨w2, z2⟩ := I.cell y c' e
    exact ⟨w2, z2.sameBut hs hcc⟩
  ·obtain ⟨e, n, ne, nf, d⟩ := I.pin p hp
   refine ⟨(hs.2 p.1 ?_).trans e, n, ne, nf, d⟩
   intro q
   rw [q, hoc] at e
   have q' : oc = p.2 := Option.some.inj e
   exact d w' (by rw [← q']; exact hocd)
theorem store_ok {M : Model} {A : Around} {E : Value → Shared → Prop} {i : Nat} {x : Str} {v : V} {u : Value} {Q : Unit → Shared → Prop} (I : Inv X pins σ H s) (hN : X.N.Nodup) (hi : X.N[i]? = some x) (hx : Loc X.env.scope x) (r : RelV v u)
 (h : ∀ s', Inv X pins (σ.set i (some v)) H s' → Q () s') (hf : X.fn x = true ∨ X.env.scope.names.lookup x = some .local := by first | exact .inl rfl | exact .inr rfl | assumption) : wpAny M A (storeName X.env x u) Q E s :=
 store_ok2 I hN hi hx r (fun s' I' _ => h s' I') hf
theorem Inv.call' {s' : Shared} {ch : List Addr} (I : Inv X pins σ H s) (ho : s'.os = s.os) (u : Un (frs X.stack) ch H H' s.heap s'.heap) (hok : HOk X.prog X.w H' s'.heap) (hg : AllBare s'.gens)
 (hch : ∀ b ∈ ch, (b ∈ X.ex ∨ X.s₀.heap.objs.size ≤ b) ∧ b ≠ X.env.locals ∧ (∀ x c, X.env.cells.lookup x = some c → c ≠ b) ∧ ∀ p ∈ X.pn ++ pins, p.1 ≠ b) : Inv X pins σ H' s' := by
 obtain ⟨h', g', d', t', o'⟩ := s'
 have e : o' = s.os := ho
 subst e
 exact I.call (g' := g') (t' := t') (d' := d') u hok hg hch
end
abbrev XK := Value → Option Addr → Hp → Prop
abbrev St := List (Option V)
abbrev VK := V → Hp → Prop
abbrev TE := St → Hp → VK → Prop
abbrev TT := St → Hp → (Bool → Hp → Prop) → Prop
abbrev TA := St → Hp → (List V → Hp → Prop) → Prop
structure Ends where
 nx : St → Hp → Prop
 rt : VK
 bk : St → Hp → Prop := fun _ _ => False
 ct : St → Hp → Prop := fun _ _ => False
abbrev TS := Ends → St → Hp → Prop
def EP (X : Cx) (pins : List (Addr × Obj)) (σ : St) (Q : VK) (u : Value) (s' : Shared) : Prop := ∃ v H', Inv X pins σ H' s' ∧ RelV v u ∧ Q v H'
def TP (X : Cx) (pins : List (Addr × Obj)) (σ : St) (Q : Bool → Hp → Prop) (b : Bool) (s' : Shared) : Prop := ∃ H', Inv X pins σ H' s' ∧ Q b H'
def AP (X : Cx) (pins : List (Addr × Obj)) (σ : St) (Q : List V → Hp → Prop) (us : List Value) (s' : Shared) : Prop := ∃ vs H', Inv X pins σ H' s' ∧ Vals vs us ∧ Q vs H'
def SP (X : Cx) (pins : List (Addr × Obj)) (D : Ends) (f : Flow) (s' : Shared) : Prop :=
 match f with
 | .next => ∃ σ' H', Inv X pins σ' H' s' ∧ D.nx σ' H'
 | .brk => ∃ σ' H', Inv X pins σ' H' s' ∧ D.bk σ' H'
 | .cont => ∃ σ' H', Inv X pins σ' H' s' ∧ D.ct σ' H'
 | .ret u => ∃ v σ' H', Inv X pins σ' H' s' ∧ RelV v u ∧ D.rt v H'
def PE (X : Cx) (e : Expr) (t : TE) : Prop :=
 ∀ (pins : List (Addr × Obj)) (s : Shared) (σ : St) (H : Hp) (Q : VK), Inv X pins σ H s → t σ H Q → wpAny (model X.prog X.w) X.A (eval e X.env) (EP X pins σ Q) X.xe s
def PT (X : Cx) (e : Expr) (t : TT) : Prop :=
 ∀ (pins : List (Addr × Obj)) (s : Shared) (σ : St) (H : Hp) (Q : Bool → Hp → Prop), Inv X pins σ H s → t σ H Q → wpAny (model X.prog X.w) X.A (isTrue e X.env (eval e X.env)) (TP X pins σ Q) X.xe s
def PW (X : Cx) (e : Expr) (t : TT) : Prop :=
 ∀ (whole : Sem Value) (pins : List (Addr × Obj)) (s : Shared) (σ : St) (H : Hp) (Q : Bool → Hp → Prop), Inv X pins σ H s → t σ H Q → wpAny (model X.prog X.w) X.A (isTrue e X.env whole) (TP X pins σ Q) X.xe s
theorem PW.pt {X : Cx} {e : Expr} {t : TT} (h : PW X e t) : PT X e t := h _
def PA (X : Cx) (es : List Expr) (t : TA) : Prop :=
 ∀ (pos : Pos) (pins : List (Addr × Obj)) (s : Shared) (σ : St) (H : Hp) (Q : List V → Hp → Prop), Inv X pins σ H s → t σ H Q → wpAny (model X.prog X.w) X.A (spliced (backTo pos (starEach es X.env))) (AP X pins σ Q) X.xe s
def PS (X : Cx) (st : Stmt) (t : TS) : Prop :=
 ∀ (pins : List (Addr × Obj)) (s : Shared) (σ : St) (H : Hp) (D : Ends), Inv X pins σ H s → t D σ H → wpAny (model X.prog X.w) X.A (exec st X.env) (SP X pins D) X.xe s
def PSs (X : Cx) (st : List Stmt) (t : TS) : Prop :=
 ∀ (pins : List (Addr × Obj)) (s : Shared) (σ : St) (H : Hp) (D : Ends), Inv X pins σ H s → t D σ H → wpAny (model X.prog X.w) X.A (execs st X.env) (SP X pins D) X.xe s
theorem thn {α : Type} {t : Sem α} {Q Q' : α → Shared → Prop} {M : Model} {A : Around} {E : Value → Shared → Prop} {s : Shared} (h : wpAny M A t Q E s) (hQ : ∀ a s, Q a s → Q' a s) : wpAny M A t Q' E s := wpAny_mono h hQ fun _ _ x => x
end L2
namespace L2
open PySem PySem.Spec PyProof.Rows
section
variable {X : Cx}
def tVar (i : Nat) : TE := fun σ H Q => ∃ v, σ[i]? = some (some v) ∧ Q v H
def tC (v : V) : TE := fun _ H Q => Q v H
theorem pe_var {i : Nat} {x : Str} {pos : Pos} (hN : X.N[i]? = some x) (hv : Vis X.env.scope x) (hd : (x == ("__debug__" : Str)) = false := by decide) (hcd : (x == ("__classdict__" : Str)) = false := by decide) : PE X (.Name x pos) (tVar i) := by
 walk_at "z0"
 obtain ⟨v, e, h⟩ := h
 obtain ⟨m, hn, hl⟩ := I.loc
 obtain ⟨u, r, l⟩ := hl i x v hN e hv
 have fin : EP X pins σ Q u s := ⟨v, H, I, r, h⟩
 rcases l with ⟨hk, hm⟩ | ⟨hk, c, hc, hcell⟩
 ·exact wpAny_Name (wpAny_loadName_local I.ok.kind hk hn hm fin) hd
 ·rcases hk with hk | hk
  ·exact wpAny_Name (wpAny_loadName_cell I.ok.kind hk hc hcell fin) hd
  ·exact wpAny_Name (wpAny_loadName_free I.ok.kind hk hc hcell fin hcd) hd
theorem pe_int {i j pos} : PE X (.Constant (.int i) j pos) (tC (.int i)) := fun _ _ _ H _ I h => wpAny_Constant_int ⟨.int i, H, I.tok _, ⟨_, rfl⟩, h⟩
theorem pe_bl {b j pos} : PE X (.Constant (.bool b) j pos) (tC (.bl b)) := fun _ _ _ H _ I h => Constant_bool ⟨.bl b, H, I, rfl, h⟩
theorem pe_str {x j pos} : PE X (.Constant (.str x) j pos) (tC (.str x)) := fun _ _ _ H _ I h => Calls.Constant_str ⟨.str x, H, I.tok _, ⟨_, rfl⟩, h⟩
def Gl (X : Cx) (x : Str) : Prop := X.env.kindOf x = some .globalImplicit
theorem ld_glob {E : Value → Shared → Prop} {pins : List (Addr × Obj)} {s : Shared} {σ : St} {H : Hp} {x : Str} {u : Value} {pos : Pos} {Q : Value → Shared → Prop} (I : Inv X pins σ H s) (hg : Gl X x) (hm : X.mg x = some u) (h : Q u s)
 (hd : (x == ("__debug__" : Str)) = false := by decide) : wpAny (model X.prog X.w) X.A (eval (.Name x pos) X.env) Q E s :=
 Calls.Name_function_global I.ok.kind hg (Calls.loadGlobal_global (by rw [I.ok.glob]; exact I.mod.glob.keeps I.bk) hm h) hd
theorem ld_blt {E : Value → Shared → Prop} {pins : List (Addr × Obj)} {s : Shared} {σ : St} {H : Hp} {x : Str} {u : Value} {pos : Pos} {Q : Value → Shared → Prop} (I : Inv X pins σ H s) (hg : Gl X x) (hm : X.mg x = none) (hv : bootBuiltins x = some u) (h : Q u s)
 (hn : x ≠ "__name__" := by decide) (hd : (x == ("__debug__" : Str)) = false := by decide) : wpAny (model X.prog X.w) X.A (eval (.Name x pos) X.env) Q E s := by
 obtain ⟨mb, h1, h2⟩ := I.mod.blt
 exact Calls.Name_function_global I.ok.kind hg (Calls.loadGlobal_builtin (by rw [I.ok.glob]; exact I.mod.glob.keeps I.bk) hm (by rw [I.ok.blt]; exact h1.keeps I.bk) ((h2 x hn).trans hv) h) hd
theorem pe_glob {x : Str} {v : V} {u : Value} {pos : Pos} (hg : Gl X x) (hm : X.mg x = some u) (r : RelV v u) (hd : (x == ("__debug__" : Str)) = false := by decide) : PE X (.Name x pos) (tC v) :=
 fun _ _ _ H _ I h => ld_glob I hg hm ⟨v, H, I, r, h⟩ hd
theorem pe_bltn {x : Str} {v : V} {u : Value} {pos : Pos} (hg : Gl X x) (hm : X.mg x = none) (hv : bootBuiltins x = some u) (r : RelV v u) (hn : x ≠ "__name__" := by decide) (hd : (x == ("__debug__" : Str)) = false := by decide) : PE X (.Name x pos) (tC v) :=
 fun _ _ _ H _ I h => ld_blt I hg hm hv ⟨v, H, I, r, h⟩ hn hd
variable {a b : Expr} {ta tb : TE} {pos : Pos}
def PC (X : Cx) (op : CmpOp) (a b : Expr) (t : TE) : Prop :=
 ∀ (pins : List (Addr × Obj)) (s : Shared) (σ : St) (H : Hp) (Q : VK), Inv X pins σ H s → t σ H Q →
  wpAny (model X.prog X.w) X.A (eval a X.env) (fun v s₁ => wpAny (model X.prog X.w) X.A (eval b X.env) (fun u s₂ => wpAny (model X.prog X.w) X.A (compareOp op v u) (EP X pins σ Q) X.xe s₂) X.xe s₁) X.xe s
def tB (t : TE) : TT := fun σ H Q => t σ H fun x H1 => ∃ c, x = .bl c ∧ Q c H1
theorem pt_cmp {op : CmpOp} {t : TE} (h : PC X op a b t) (h1 : behindInMarks op b = false := by first | exact nobehind _ (by decide) (by decide) | rfl) : PT X (.Compare a [op] [b] pos) (tB t) := by
 intro pins s σ H Q I hw
 refine wpAny_isTrue_Compare1 (thn (h pins s σ H _ I hw) fun v s1 h1 => thn h1 fun u s2 h2 => thn h2 fun c s3 ⟨x, H1, I1, r1, q1⟩ => ?_) h1
 obtain ⟨d, rfl, q⟩ := q1
 cases r1
 exact wpAny_truthy_bool ⟨H1, I1, q⟩
variable {tA tB' : TT} {rest : List Expr}
def tAnd (t u : TT) : TT := fun σ H Q => t σ H fun c H1 => if c = true then u σ H1 Q else Q false H1
def tOr (t u : TT) : TT := fun σ H Q => t σ H fun c H1 => if c = true then Q true H1 else u σ H1 Q
def tNot (t : TT) : TT := fun σ H Q => t σ H fun c H1 => Q (!c) H1
theorem pw_and1 (ha : PT X a tA) : PW X (.BoolOp .And [a] pos) tA := by
 intro wh pins s σ H Q I h
 refine isTrue_and (thn (ha pins s σ H Q I h) fun c s1 e => ?_)
 cases c with
 | true => exact isTrue_and_nil e
 | false => exact e
theorem pw_or1 (ha : PT X a tA) : PW X (.BoolOp .Or [a] pos) tA := by
 intro wh pins s σ H Q I h
 refine isTrue_or (thn (ha pins s σ H Q I h) fun c s1 e => ?_)
 cases c with
 | false => exact isTrue_or_nil e
 | true => exact e
theorem pw_and (ha : PT X a tA) (hb : PW X (.BoolOp .And (b :: rest) pos) tB') : PW X (.BoolOp .And (a :: b :: rest) pos) (tAnd tA tB') := by
 intro wh pins s σ H Q I h
 refine isTrue_and (thn (ha pins s σ H _ I h) fun c s1 ⟨H1, I1, q1⟩ => ?_)
 cases c with
 | true => exact hb wh pins s1 σ H1 Q I1 q1
 | false => exact ⟨H1, I1, q1⟩
theorem pw_or (ha : PT X a tA) (hb : PW X (.BoolOp .Or (b :: rest) pos) tB') : PW X (.BoolOp .Or (a :: b :: rest) pos) (tOr tA tB') := by
 intro wh pins s σ H Q I h
 refine isTrue_or (thn (ha pins s σ H _ I h) fun c s1 ⟨H1, I1, q1⟩ => ?_)
 cases c with
 | true => exact ⟨H1, I1, q1⟩
 | false => exact hb wh pins s1 σ H1 Q I1 q1
theorem pt_not (ha : PT X a tA) : PT X (.UnaryOp .Not a pos) (tNot tA) := by
 walk_at "z0"
 exact isTrue_not (ha pins s σ H (fun c H1 => Q (!c) H1) I h)
def tAndV (ta tb : TE) : TE := fun σ H Q => ta σ H fun x H1 => ∃ c, x = .bl c ∧ if c = true then tb σ H1 Q else Q (.bl false) H1
def tOrV (ta tb : TE) : TE := fun σ H Q => ta σ H fun x H1 => ∃ c, x = .bl c ∧ if c = true then Q (.bl true) H1 else tb σ H1 Q
def tNotV (ta : TE) : TE := fun σ H Q => ta σ H fun x H1 => ∃ c, x = .bl c ∧ Q (.bl (!c)) H1
theorem pe_one {op} {t : TE} (h : PE X a t) : PE X (.BoolOp op [a] pos) t := fun pins s σ H Q I hw => BoolOp_one (h pins s σ H Q I hw)
theorem pe_and (ha : PE X a ta) (hb : PE X (.BoolOp .And (b :: rest) pos) tb) : PE X (.BoolOp .And (a :: b :: rest) pos) (tAndV ta tb) := by
 walk_at "z0"
 refine BoolOp_and (thn (ha pins s σ H _ I h) fun v s1 ⟨x, H1, I1, r1, q1⟩ => ?_)
 obtain ⟨c, rfl, q1⟩ := q1
 cases r1
 refine wpAny_truthy_bool ?_
 cases c with
 | true => exact hb pins s1 σ H1 Q I1 q1
 | false => exact ⟨.bl false, H1, I1, rfl, q1⟩
def tIf (t : TT) (ta tb : TE) : TE := fun σ H Q => t σ H fun c H1 => if c = true then ta σ H1 Q else tb σ H1 Q
theorem pe_ifExp {c : Expr} (hc : PT X c tA) (ha : PE X a ta) (hb : PE X b tb) : PE X (.IfExp c a b pos) (tIf tA ta tb) := by
 walk_at "z0"
 refine wpAny_IfExp (thn (hc pins s σ H _ I h) fun d s1 ⟨H1, I1, q1⟩ => ?_)
 cases d with
 | true => exact ha pins s1 σ H1 Q I1 q1
 | false => exact hb pins s1 σ H1 Q I1 q1
end
end L2
namespace L2
open PySem PySem.Spec PyProof.Rows
def SqL (K : PySem.W.Frag) (H : Hp) (a : Addr) (xs : List V) : Prop :=
 Rd H a (.lst xs) ∨
  ∃ (o : Obj) (its : Array Value) (n : Nat), K.lookup a = some o ∧ o.cls = .type "list" ∧ o.dict = none ∧ o.data = .seq its n ∧ its.size ≤ sizeLine ∧ Vals xs its.toList
def SqT (K : PySem.W.Frag) (H : Hp) (a : Addr) (xs : List V) : Prop :=
 Rd H a (.tup xs) ∨
  ∃ (o : Obj) (its : Array Value) (n : Nat), K.lookup a = some o ∧ o.cls = .type "tuple" ∧ o.data = .seq its n ∧ its.size ≤ sizeLine ∧ Vals xs its.toList
def absV : Value → Option V
 | .none => some .non
 | .bool b => some (.bl b)
 | .int i _ => some (.int i)
 | .str x _ => some (.str x)
 | .bytes b _ => some (.byt b)
 | .float b _ => some (.flt b)
 | .ref a => some (.ref a)
 | .type n => some (.ty n)
 | _ => none
theorem RelV.abs {x : V} {u : Value} (r : RelV x u) : absV u = some x := by
 cases x with
 | non => cases r; rfl
 | bl _ => cases r; rfl
 | int _ => obtain ⟨t, rfl⟩ := r; rfl
 | str _ => obtain ⟨t, rfl⟩ := r; rfl
 | byt _ => obtain ⟨t, rfl⟩ := r; rfl
 | flt _ => obtain ⟨t, rfl⟩ := r; rfl
 | ref _ => cases r; rfl
 | ty _ => cases r; rfl
theorem RelV.inj {x y : V} {u : Value} (r : RelV x u) (q : RelV y u) : x = y := Option.some.inj (r.abs.symm.trans q.abs)
theorem Vals.inj : ∀ {xs ys : List V} {us : List Value}, Vals xs us → Vals ys us → xs = ys
 | _, _, _, .nil, .nil => rfl
 | _, _, _, .cons r t, .cons r' t' => by rw [r.inj r', Vals.inj t t']
section
variable {X : Cx} {pins : List (Addr × Obj)} {σ : St} {H : Hp} {s : Shared} {a : Addr} {xs ys : List V}
theorem SqL.of {K : PySem.W.Frag} (h : H a = some (.lst xs)) : SqL K H a xs := .inl (.inl h)
theorem SqT.of {K : PySem.W.Frag} (h : H a = some (.tup xs)) : SqT K H a xs := .inl (.inl h)
theorem Inv.list (I : Inv X pins σ H s) (h : SqL X.K H a xs) : ∃ its : List Value, Vals xs its ∧ PlainL s.heap a its.toArray ∧ xs.length ≤ sizeLine := by
 rcases h with h | ⟨o, its, n, hk, hc, hd, hs, hz, r⟩
 ·obtain ⟨z, its, n, r, e⟩ := h.ok I.hok
  exact ⟨its, r, ⟨_, n, e, rfl, rfl, rfl⟩, z⟩
 ·refine ⟨its.toList, r, ⟨o, n, I.kIn a o hk, hc, hd, by simpa using hs⟩, ?_⟩
  have e := r.length
  simp only [Array.length_toList] at e
  lia
theorem Inv.tuple (I : Inv X pins σ H s) (h : SqT X.K H a xs) : ∃ its : List Value, Vals xs its ∧ IsTup s.heap a its.toArray ∧ xs.length ≤ sizeLine := by
 rcases h with h | ⟨o, its, n, hk, hc, hs, hz, r⟩
 ·obtain ⟨z, its, r, p⟩ := h.ok I.hok
  exact ⟨its, r, p, z⟩
 ·refine ⟨its.toList, r, ⟨o, I.kIn a o hk, hc, n, by simpa using hs⟩, ?_⟩
  have e := r.length
  simp only [Array.length_toList] at e
  lia
theorem Inv.list_inj (I : Inv X pins σ H s) (h : SqL X.K H a xs) (h' : SqL X.K H a ys) : xs = ys := by
 obtain ⟨its, r, ⟨o, n, e, _, _, d⟩, _⟩ := I.list h
 obtain ⟨its', r', ⟨o', n', e', _, _, d'⟩, _⟩ := I.list h'
 rw [e] at e'; cases e'
 rw [d] at d'
 injection d' with d1 _
 have : its = its' := by simpa using congrArg Array.toList d1
 subst this
 exact r.inj r'
theorem Inv.tuple_inj (I : Inv X pins σ H s) (h : SqT X.K H a xs) (h' : SqT X.K H a ys) : xs = ys := by
 obtain ⟨its, r, ⟨o, e, _, n, d⟩, _⟩ := I.tuple h
 obtain ⟨its', r', ⟨o', e', _, n', d'⟩, _⟩ := I.tuple h'
 rw [e] at e'; cases e'
 rw [d] at d'
 injection d' with d1 _
 have : its = its' := by simpa using congrArg Array.toList d1
 subst this
 exact r.inj r'
end
abbrev Cx.wish (X : Cx) (E : Value → Shared → Prop) : Cx := { X with xe := E }
abbrev Cx.nox (X : Cx) : Cx := X.wish fun _ _ => False
theorem Cx.Ok.wish {X : Cx} (ok : X.Ok) (E : Value → Shared → Prop) : (X.wish E).Ok :=
 ⟨ok.mod, ok.kind, ok.glob, ok.blt, ok.above, ok.inj, ok.has, ok.cab, ok.hd, ok.frames, ok.stk, ok.exf, ok.bs, ok.bsz, ok.noex, ok.exfs, ok.funs, ok.frf⟩
theorem Cx.Ok.unwish {X : Cx} {E : Value → Shared → Prop} (ok : (X.wish E).Ok) : X.Ok :=
 ⟨ok.mod, ok.kind, ok.glob, ok.blt, ok.above, ok.inj, ok.has, ok.cab, ok.hd, ok.frames, ok.stk, ok.exf, ok.bs, ok.bsz, ok.noex, ok.exfs, ok.funs, ok.frf⟩
section
variable {X : Cx} {pins : List (Addr × Obj)} {σ : St} {H : Hp} {s : Shared} {E : Value → Shared → Prop}
theorem Inv.wish (I : Inv X pins σ H s) (E : Value → Shared → Prop) : Inv (X.wish E) pins σ H s := ⟨I.ok.wish E, I.os, I.bare, I.base, I.loc, I.cell, I.free, I.freeC, I.pin, I.hok, I.len⟩
theorem Inv.unwish (I : Inv (X.wish E) pins σ H s) : Inv X pins σ H s := ⟨I.ok.unwish, I.os, I.bare, I.base, I.loc, I.cell, I.free, I.freeC, I.pin, I.hok, I.len⟩
theorem SP.unwish {D : Ends} {f : Flow} {s' : Shared} (h : SP (X.wish E) pins D f s') : SP X pins D f s' := by
 cases f with
 | next => obtain ⟨σ', H', I, q⟩ := h; exact ⟨σ', H', I.unwish, q⟩
 | brk => obtain ⟨σ', H', I, q⟩ := h; exact ⟨σ', H', I.unwish, q⟩
 | cont => obtain ⟨σ', H', I, q⟩ := h; exact ⟨σ', H', I.unwish, q⟩
 | ret u => obtain ⟨v, σ', H', I, r, q⟩ := h; exact ⟨v, σ', H', I.unwish, r, q⟩
theorem PSs.nox {st : List Stmt} {t : TS} (h : PSs X.nox st t) : PSs X st t := fun pins s σ H D I hw =>
 wpAny_mono (h pins s σ H D (I.wish _) hw) (fun _ _ q => q.unwish) fun _ _ z => False.elim z
end
section
variable {X : Cx} {st : Stmt} {rest : List Stmt} {t u : TS} {e : Expr} {te : TE} {pos : Pos}
def tNext : TS := fun D σ H => D.nx σ H
def tSeq (t u : TS) : TS := fun D σ H => t { D with nx := u D } σ H
theorem pss_nil : PSs X [] tNext := fun _ _ σ H _ I h => wpAny_execs_nil ⟨σ, H, I, h⟩
theorem pss_cons (h1 : PS X st t) (h2 : PSs X rest u) : PSs X (st :: rest) (tSeq t u) := by
 intro pins s σ H D I h
 refine wpAny_execs_cons (thn (h1 pins s σ H { D with nx := u D } I h) fun f s1 q => ?_)
 cases f with
 | next =>
   obtain ⟨σ', H', I', q⟩ := q
   exact h2 pins s1 σ' H' D I' q
 | ret v => exact q
 | brk => exact q
 | cont => exact q
theorem pss_one (h1 : PS X st t) : PSs X [st] t := by
 intro pins s σ H D I h
 refine wpAny_execs_cons (thn (h1 pins s σ H D I h) fun f s1 q => ?_)
 cases f with
 | next => exact wpAny_execs_nil q
 | ret v => exact q
 | brk => exact q
 | cont => exact q
theorem Inv.quiet {pins : List (Addr × Obj)} {σ : St} {H : Hp} {s : Shared} (I : Inv X pins σ H s) : interactive X.env = false := by simp [interactive, I.ok.kind]
def tDrop (te : TE) : TS := fun D σ H => te σ H fun _ H1 => D.nx σ H1
theorem ps_expr (he : PE X e te) (hs : swapsWith e none pos.line X.env = pure false := by rfl) : PS X (.Expr e pos) (tDrop te) := by
 intro pins s σ H D I h
 exact wpAny_Expr_any (thn (he pins s σ H _ I h) fun v s1 ⟨x, H1, I1, r1, q1⟩ => ⟨σ, H1, I1, q1⟩) I.quiet hs
def tRet (te : TE) : TS := fun D σ H => te σ H D.rt
theorem ps_ret (he : PE X e te) : PS X (.Return (some e) pos) (tRet te) := by
 intro pins s σ H D I h
 exact wpAny_Return_some (thn (he pins s σ H _ I h) fun v s1 ⟨x, H1, I1, r1, q1⟩ => ⟨x, σ, H1, I1, r1, q1⟩)
def tRetN : TS := fun D _ H => D.rt .non H
def tIfS (c : TT) (t u : TS) : TS := fun D σ H => c σ H fun b H1 => if b = true then t D σ H1 else u D σ H1
theorem ps_if {c : Expr} {a b : List Stmt} {tc : TT} (hc : PT X c tc) (ha : PSs X a t) (hb : PSs X b u) : PS X (.If c a b pos) (tIfS tc t u) := by
 intro pins s σ H D I h
 refine wpAny_If (thn (hc pins s σ H _ I h) fun d s1 ⟨H1, I1, q1⟩ => ?_)
 cases d with
 | true => exact ha pins s1 σ H1 D I1 q1
 | false => exact hb pins s1 σ H1 D I1 q1
def tNever : TS := fun _ _ _ => False
end
abbrev TG := V → St → Hp → (St → Hp → Prop) → Prop
abbrev TGs := List V → St → Hp → (St → Hp → Prop) → Prop
def PG (X : Cx) (target : Expr) (t : TG) : Prop :=
 ∀ (pins : List (Addr × Obj)) (s : Shared) (σ : St) (H : Hp) (v : V) (u : Value) (Q : St → Hp → Prop), Inv X pins σ H s → RelV v u → t v σ H Q →
  wpAny (model X.prog X.w) X.A (assign target X.env u) (fun _ s' => ∃ σ' H', Inv X pins σ' H' s' ∧ Q σ' H') X.xe s
def PGs (X : Cx) (ts : List Expr) (t : TGs) : Prop :=
 ∀ (pins : List (Addr × Obj)) (s : Shared) (σ : St) (H : Hp) (vs : List V) (us : List Value) (Q : St → Hp → Prop), Inv X pins σ H s → Vals vs us → t vs σ H Q →
  wpAny (model X.prog X.w) X.A (assignInOrder ((assignEach ts X.env).map (·.2)) us) (fun _ s' => ∃ σ' H', Inv X pins σ' H' s' ∧ Q σ' H') X.xe s
abbrev TSet := V → V → V → Hp → (Hp → Prop) → Prop
def PSet (X : Cx) (t : TSet) : Prop :=
 ∀ (pins : List (Addr × Obj)) (s : Shared) (σ : St) (H : Hp) (o i v : V) (ov iv u : Value) (Q : Hp → Prop), Inv X pins σ H s → RelV o ov → RelV i iv → RelV v u → t o i v H Q →
  wpAny (model X.prog X.w) X.A (setItem ov iv u) (fun _ s' => ∃ H', Inv X pins σ H' s' ∧ Q H') X.xe s
abbrev TIp := V → V → Hp → VK → Prop
def PIp (X : Cx) (op : Operator) (t : TIp) : Prop :=
 ∀ (pins : List (Addr × Obj)) (s : Shared) (σ : St) (H : Hp) (x y : V) (v u : Value) (Q : VK), Inv X pins σ H s → RelV x v → RelV y u → t x y H Q →
  wpAny (model X.prog X.w) X.A (inplaceOp op v u) (EP X pins σ Q) X.xe s
section
variable {X : Cx} {pos : Pos}
def gName (i : Nat) : TG := fun v σ H Q => Q (σ.set i (some v)) H
theorem pg_name {i : Nat} {x : Str} (hN : X.N.Nodup) (hi : X.N[i]? = some x) (hx : Loc X.env.scope x) (hf : X.fn x = true ∨ X.env.scope.names.lookup x = some .local := by first | exact .inl rfl | exact .inr rfl | assumption) : PG X (.Name x pos) (gName i) := by
 intro pins s σ H v u Q I r h
 exact wpAny_assign_Name (store_ok I hN hi hx r (fun s' I' => ⟨_, H, I', h⟩) hf)
def gNil : TGs := fun vs σ H Q => vs = [] ∧ Q σ H
def gCons (t : TG) (u : TGs) : TGs := fun vs σ H Q => ∃ v r, vs = v :: r ∧ t v σ H fun σ' H' => u r σ' H' Q
theorem pgs_nil : PGs X [] gNil := by
 intro pins s σ H vs us Q I r h
 obtain ⟨e, h⟩ := h
 subst e
 cases r
 exact assignInOrder_nil ⟨σ, H, I, h⟩
theorem pgs_cons {e : Expr} {es : List Expr} {t : TG} {u : TGs} (h1 : PG X e t) (h2 : PGs X es u)
 (hs : (assignEach (e :: es) X.env).map (·.2) = assign e X.env :: (assignEach es X.env).map (·.2) := by rfl) : PGs X (e :: es) (gCons t u) := by
 intro pins s σ H vs us Q I r h
 obtain ⟨v, vr, e1, h⟩ := h
 subst e1
 cases r with
 | cons r rr =>
   rw [hs]
   refine assignInOrder_cons (thn (h1 pins s σ H _ _ _ I r h) fun _ s1 ⟨σ1, H1, I1, q1⟩ => ?_)
   exact h2 pins s1 σ1 H1 _ _ Q I1 rr q1
def gTup (K : PySem.W.Frag) (n : Nat) (t : TGs) : TG := fun v σ H Q => ∃ a xs, v = .ref a ∧ SqT K H a xs ∧ xs.length = n ∧ t xs σ H Q
theorem pg_tup {es : List Expr} {k : Nat} {t : TGs} {n : Nat} (hc : X.calm = true) (h : PGs X es t)
 (hn : (assignEach es X.env).length = n := by rfl) (hst : (assignEach es X.env).findIdx? (·.1) = none := by rfl) : PG X (.Tuple es k pos) (gTup X.K n t) := by
 intro pins s σ H v u Q I r hw
 obtain ⟨a, xs, e1, hq, hl, hw⟩ := hw
 subst e1
 cases r
 obtain ⟨its, rv, ht, hz⟩ := I.tuple hq
 refine assign_Tuple_tuple (I.ok.hd hc) ht (by simp [hn, ← hl, rv.length]) hst fun h' hx => ?_
 have I1 : Inv X pins σ H { s with heap := h' } := I.kept (t' := s.toks) fun b o e => hx b o (Nat.ne_of_lt (Heap.lt_size e)) e
 exact h pins _ σ H xs _ Q I1 (by simpa using rv) hw
def gSub (to ti : TE) (t : TSet) : TG := fun v σ H Q => to σ H fun o H1 => ti σ H1 fun i H2 => t o i v H2 fun H3 => Q σ H3
theorem pg_sub {o i : Expr} {to ti : TE} {t : TSet} (ho : PE X o to) (hi : PE X i ti) (hs : PSet X t)
 (ha : ∀ v, assign (.Subscript o i pos) X.env v = (do
  let ov ← holding [v] (eval o X.env)
  let iv ← holding [v, ov] (eval i X.env)
  standAt pos
  holding [v, ov, iv] (setItem ov iv v)
  release [v, ov, iv] []) := by intro _; rfl) : PG X (.Subscript o i pos) (gSub to ti t) := by
 intro pins s σ H v u Q I r h
 rw [ha]
 refine wpAny_bind (wpAny_holding (thn (ho pins s σ H _ I h) fun ov s1 ⟨x, H1, I1, r1, q1⟩ => ?_))
 refine wpAny_bind (wpAny_holding (thn (hi pins s1 σ H1 _ I1 q1) fun iv s2 ⟨y, H2, I2, r2, q2⟩ => ?_))
 refine wpAny_bind (wpAny_standAt (wpAny_bind (wpAny_holding (thn (hs pins s2 σ H2 x y v ov iv u _ I2 r1 r2 r q2) fun _ s3 ⟨H3, I3, q3⟩ => ?_))))
 exact wpAny_release ⟨σ, H3, I3, q3⟩
def tAsg (te : TE) (g : TG) : TS := fun D σ H => te σ H fun x H1 => g x σ H1 D.nx
theorem ps_asg {tg e : Expr} {te : TE} {g : TG} (he : PE X e te) (hg : PG X tg g) (hs : swapsWithSole [tg] e pos.line X.env = pure false := by rfl) (hw : swappedStores [tg] e X.env = pure none := by rfl)
 (h1 : (assignEach [tg] X.env).map (·.2) = [assign tg X.env] := by rfl) : PS X (.Assign [tg] e pos) (tAsg te g) := by
 intro pins s σ H D I h
 refine wpAny_Assign_stores (thn (he pins s σ H _ I h) fun v s1 ⟨x, H1, I1, r1, q1⟩ => ?_) hs hw
 rw [h1]
 exact thn (hg pins s1 σ H1 x v _ I1 r1 q1) fun _ s2 q => q
theorem ps_set {i : Nat} {x : Str} {e : Expr} {te : TE} {pos' : Pos} (hN : X.N.Nodup) (hi : X.N[i]? = some x) (hx : Loc X.env.scope x) (he : PE X e te) (hs : swapsWith e (some (.Name x pos')) pos.line X.env = pure false := by rfl) (hf : X.fn x = true ∨ X.env.scope.names.lookup x = some .local := by first | exact .inl rfl | exact .inr rfl | assumption) :
 PS X (.Assign [.Name x pos'] e pos) (tAsg te (gName i)) := by
 intro pins s σ H D I h
 refine wpAny_Assign_Name (thn (he pins s σ H _ I h) fun v s1 ⟨y, H1, I1, r1, q1⟩ => ?_) hs
 exact store_ok I1 hN hi hx r1 (fun s2 I2 => ⟨_, H1, I2, q1⟩) hf
def tPar (i j : Nat) (ta : TA) : TS := fun D σ H => ta σ H fun vs H1 => ∃ v w, vs = [v, w] ∧ D.nx ((σ.set i (some v)).set j (some w)) H1
def tAug (i : Nat) (te : TE) (ti : TIp) : TS := fun D σ H => ∃ x, σ[i]? = some (some x) ∧ te σ H fun y H1 => ti x y H1 fun z H2 => D.nx (σ.set i (some z)) H2
theorem ps_aug {i : Nat} {x : Str} {e : Expr} {te : TE} {op : Operator} {ti : TIp} {pos' : Pos} (hN : X.N.Nodup) (hi : X.N[i]? = some x) (hx : Loc X.env.scope x) (he : PE X e te) (ho : PIp X op ti) (hf : X.fn x = true ∨ X.env.scope.names.lookup x = some .local := by first | exact .inl rfl | exact .inr rfl | assumption) :
 PS X (.AugAssign (.Name x pos') op e pos) (tAug i te ti) := by
 intro pins s σ H D I h
 obtain ⟨v, e1, h⟩ := h
 obtain ⟨m, hn, hl⟩ := I.loc
 have vis : Vis X.env.scope x := by rcases hx with k | k; exact .inl k; exact .inr (.inl k)
 obtain ⟨u, r, l⟩ := hl i x v hi e1 vis
 refine wpAny_AugAssign_Name ?_
 have go : wpAny (model X.prog X.w) X.A (eval e X.env) (fun w s₂ => wpAny (model X.prog X.w) X.A (inplaceOp op u w) (fun r s₃ => wpAny (model X.prog X.w) X.A (storeName X.env x r) (fun _ => SP X pins D .next) X.xe s₃) X.xe s₂) X.xe s := by
  refine thn (he pins s σ H _ I h) fun w s1 ⟨y, H1, I1, r1, q1⟩ => ?_
  refine thn (ho pins s1 σ H1 v y u w _ I1 r r1 q1) fun z s2 ⟨zv, H2, I2, r2, q2⟩ => ?_
  exact store_ok I2 hN hi hx r2 (fun s3 I3 => ⟨_, H2, I3, q2⟩) hf
 rcases l with ⟨hk, hm⟩ | ⟨hk, c, hc, hcell⟩
 ·exact wpAny_loadName_local I.ok.kind hk hn hm go
 ·rcases hk with hk | hk
  ·exact wpAny_loadName_cell I.ok.kind hk hc hcell go
  ·rcases hx with k | k
   ·have : X.env.scope.names.lookup x = some .free := hk
    rw [k] at this; cases this
   ·have : X.env.scope.names.lookup x = some .free := hk
    rw [k] at this; cases this
def ipI (f : Int → Int → Int) : TIp := fun x y H Q => ∃ i j, x = .int i ∧ y = .int j ∧ Q (.int (f i j)) H
theorem ip_add : PIp X .Add (ipI fun i j => i + j) := by
 intro pins s σ H x y v u Q I r1 r2 h
 obtain ⟨i, j, e1, e2, q⟩ := h
 subst e1; subst e2
 obtain ⟨t, rfl⟩ := r1
 obtain ⟨t', rfl⟩ := r2
 exact iadd_int ⟨.int _, H, I.tok _, ⟨_, rfl⟩, q⟩
end
section
variable {X : Cx} {pos : Pos}
def tWhile (c : TT) (tb : TS) : TS := fun D σ H => ∃ W : Nat → St → Hp → Prop, (∃ m, W m σ H) ∧ ∀ m σ H, W m σ H →
 c σ H fun b H1 => if b = true then ∃ N : St → Hp → Prop, (∀ σ' H', N σ' H' → ∃ m', m' < m ∧ W m' σ' H') ∧ tb { D with nx := N, ct := N, bk := D.nx } σ H1 else D.nx σ H1
theorem ps_while {c : Expr} {body : List Stmt} {tc : TT} {tb : TS} (hp : PassesOwn (model X.prog X.w) X.A X.env X.xe) (hc : PT X c tc) (hb : PSs X body tb) : PS X (.While c body [] pos) (tWhile tc tb) := by
 intro pins s σ H D I h
 obtain ⟨W, ⟨m0, w0⟩, turn⟩ := h
 refine wpAny_While (codeAny_whileLoop (fun n s' => ∃ σ' H', Inv X pins σ' H' s' ∧ W n σ' H') ?_ m0 ⟨σ, H, I, w0⟩)
 rintro n s1 ⟨σ1, H1, I1, w1⟩
 refine wpAny_passesOwn hp (thn (hc pins s1 σ1 H1 _ I1 (turn n σ1 H1 w1)) fun b s2 ⟨H2, I2, q2⟩ => ?_)
 cases b with
 | true =>
   obtain ⟨N, hN, q2⟩ := q2
   rw [if_pos rfl]
   refine wpAny_passesOwn hp (thn (hb pins s2 σ1 H2 _ I2 q2) fun f s3 q3 => ?_)
   cases f with
   | next =>
     obtain ⟨σ3, H3, I3, n3⟩ := q3
     obtain ⟨m', hm, w3⟩ := hN σ3 H3 n3
     exact ⟨m', hm, σ3, H3, I3, w3⟩
   | cont =>
     obtain ⟨σ3, H3, I3, n3⟩ := q3
     obtain ⟨m', hm, w3⟩ := hN σ3 H3 n3
     exact ⟨m', hm, σ3, H3, I3, w3⟩
   | brk => exact q3
   | ret v => exact q3
 | false =>
   rw [if_neg Bool.false_ne_true]
   exact wpAny_execs_nil ⟨σ1, H2, I2, q2⟩
end
structure It where
 go : Nat → Hp → Prop
 yld : Nat → Hp → V → Hp → Prop
 stop : Nat → Hp → Prop
def FpOk (X : Cx) (pins : List (Addr × Obj)) (H : Hp) (b : Addr) : Prop :=
 H b = none ∧ b ≠ X.env.locals ∧ b ∉ X.fs ∧ (b ∈ X.ex ∨ X.s₀.heap.objs.size ≤ b) ∧ (∀ x c, X.env.cells.lookup x = some c → c ≠ b) ∧ ∀ p ∈ X.pn ++ pins, p.1 ≠ b
theorem Inv.fpOk {X : Cx} {pins : List (Addr × Obj)} {σ : St} {H H' : Hp} {s : Shared} {b : Addr} (I : Inv X pins σ H s) (hb : s.heap.objs.size ≤ b) (hn : H' b = none) : FpOk X pins H' b := by
 refine ⟨hn, Nat.ne_of_gt (Nat.lt_of_lt_of_le I.lt hb), I.nofs hb, .inr (Nat.le_trans I.sz hb), fun x c e z => ?_, fun p hp z => ?_⟩
 ·obtain ⟨v, q⟩ := I.cell x c e
  exact absurd (Nat.lt_of_lt_of_le q.lt (by rw [z]; exact hb)) (Nat.lt_irrefl _)
 ·exact absurd (Nat.lt_of_lt_of_le (Heap.lt_size (I.pin p hp).1) (by rw [z]; exact hb)) (Nat.lt_irrefl _)
structure Turn (P : Program) (w : World) (K : PySem.W.Frag) (tg : Expr) (J : It) (fp : List Addr) (it : Addr) (tn : Nat → Heap → Prop) : Prop where
 mem : it ∈ fp
 obj : ∀ i h, tn i h → ∀ b ∈ fp, ∃ o, h.get? b = some o ∧ ∀ v, o.data ≠ .cell v
 keep : ∀ i h h', tn i h → (∀ b ∈ fp, ∀ o, h.get? b = some o → h'.get? b = some o) → tn i h'
 item : ∀ (X : Cx), X.prog = P → X.w = w → X.K = K → X.calm = true → ∀ (i : Nat) (pins : List (Addr × Obj)) (s : Shared) (σ : St) (H : Hp) (E : Value → Shared → Prop), Inv X pins σ H s → (∀ b ∈ fp, FpOk X pins H b) → tn i s.heap → J.go i H →
  wpAny (model P w) X.A (pyNext (.ref it)) (fun r s1 => ∃ u, r = some u ∧
   wpAny (model P w) X.A (letOwnedTupleGo tg (.ref it) u) (fun _ s2 => ∃ x H', Inv X pins σ H' s2 ∧ RelV x u ∧ J.yld i H x H' ∧ tn (i + 1) s2.heap ∧ ∀ b ∈ fp, H' b = none) E s1) E s
 done : ∀ (X : Cx), X.prog = P → X.w = w → X.K = K → X.calm = true → ∀ (i : Nat) (pins : List (Addr × Obj)) (s : Shared) (σ : St) (H : Hp) (E : Value → Shared → Prop), Inv X pins σ H s → (∀ b ∈ fp, FpOk X pins H b) → tn i s.heap → J.stop i H →
  wpAny (model P w) X.A (pyNext (.ref it)) (fun r s1 => r = none ∧ Inv X pins σ H s1) E s
 self : ∀ (A : Around) (i : Nat) (s : Shared) (Q : Value → Shared → Prop) (E : Value → Shared → Prop), tn i s.heap → Q (.ref it) s → wpAny (model P w) A (pyIter (.ref it)) Q E s
abbrev TI := St → Hp → (It → Hp → Prop) → Prop
def PIE (X : Cx) (pins : List (Addr × Obj)) (σ : St) (tg : Expr) (R : It → Hp → Prop) (itv : Value) (s2 : Shared) : Prop :=
 ∃ (it : Addr) (fp : List Addr) (tn : Nat → Heap → Prop) (J : It) (H' : Hp), itv = .ref it ∧ Inv X pins σ H' s2 ∧ Turn X.prog X.w X.K tg J fp it tn ∧ tn 0 s2.heap ∧ (∀ b ∈ fp, FpOk X pins H' b) ∧ R J H'
def PI (X : Cx) (tg iter : Expr) (wi : TI) : Prop :=
 ∀ (pins : List (Addr × Obj)) (s : Shared) (σ : St) (H : Hp) (R : It → Hp → Prop), Inv X pins σ H s → wi σ H R →
  wpAny (model X.prog X.w) X.A (eval iter X.env) (fun v s1 => wpAny (model X.prog X.w) X.A (pyIter v) (PIE X pins σ tg R) X.xe s1) X.xe s
theorem go_of {M : Model} {A : Around} {E : Value → Shared → Prop} {s : Shared} {tg : Expr} {it : Addr} {u : Value} {o : Obj} {n : String} {vs : Array Value} {Q : Unit → Shared → Prop} (ho : s.heap.get? it = some o) (hc : o.cls = .type n) (hd : o.data = .fields vs)
 (hn : ["enumerate", "zip", "dict_itemiterator", "dict_reverseitemiterator", "odict_iterator", "itertools.zip_longest", "itertools.pairwise"].contains n = false) (hQ : Q () s) : wpAny M A (letOwnedTupleGo tg (.ref it) u) Q E s := by
 unfold letOwnedTupleGo
 cases tg <;> first
  | exact wpAny_pure hQ
  | (cases u <;> first
   | exact wpAny_pure hQ
   | (refine wpAny_bind (wpAny_load ho ?_)
      rw [hc, hd]
      show wpAny M A (if (["enumerate", "zip", "dict_itemiterator", "dict_reverseitemiterator", "odict_iterator", "itertools.zip_longest", "itertools.pairwise"].contains n && vs[0]? == some (rawInt _)) = true then _ else _) Q E s
      rw [if_neg (by intro h; rw [hn, Bool.false_and] at h; cases h)]
      exact wpAny_pure hQ))
def Itl (K : PySem.W.Frag) (a : Addr) : It :=
 ⟨fun i H => ∃ xs x, SqL K H a xs ∧ xs[i]? = some x, fun i H x H' => H' = H ∧ ∀ xs, SqL K H a xs → xs[i]? = some x, fun i H => ∃ xs, SqL K H a xs ∧ xs.length ≤ i⟩
def Itt (K : PySem.W.Frag) (a : Addr) : It :=
 ⟨fun i H => ∃ xs x, SqT K H a xs ∧ xs[i]? = some x, fun i H x H' => H' = H ∧ ∀ xs, SqT K H a xs → xs[i]? = some x, fun i H => ∃ xs, SqT K H a xs ∧ xs.length ≤ i⟩
def Itr (lo : Int) (n : Nat) : It := ⟨fun i _ => i < n, fun i H x H' => H' = H ∧ x = .int (lo + i), fun i _ => n ≤ i⟩
theorem turn_list {P : Program} {w : World} {K : PySem.W.Frag} {tg : Expr} (a it : Addr) : Turn P w K tg (Itl K a) [it] it (fun i h => h.IsListIter it a i) where
 mem := by simp
 obj := fun i h st b hb => by
  have e : b = it := by simpa using hb
  subst e
  obtain ⟨o, e, c, d⟩ := st
  exact ⟨o, e, fun v z => by rw [d] at z; cases z⟩
 keep := fun i h h' st k => st.at fun o e => k it (by simp) o e
 item := by
  walk_at "z1"
  subst hP hw hK
  obtain ⟨xs, x, hq, hx⟩ := hg
  obtain ⟨its, rv, p, hz⟩ := I.list hq
  obtain ⟨u, hu, ru⟩ := rv.get hx
  walk_at "z4"
  refine wpAny_pyNext_list_item st p.isList (x := u) (by simpa using hu) fun h' st' sb => ?_
  have I1 : Inv X pins σ H { s with heap := h' } := I.turned (t' := s.toks) (fun b o hb e => (sb.2 b hb).trans e) f0 f1 f3 f4 f5
  obtain ⟨o, e, c, d⟩ := id st'
  exact ⟨u, rfl, go_of (s := { s with heap := h' }) e c d (by decide) ⟨x, H, I1, ru, ⟨rfl, fun ys hy => by rw [I.list_inj hy hq]; exact hx⟩, st', fun b hb => (hf b hb).1⟩⟩
 done := by
  walk_at "z1"
  subst hP hw hK
  obtain ⟨xs, hq, hx⟩ := hg
  obtain ⟨its, rv, p, hz⟩ := I.list hq
  walk_at "z4"
  have hl := rv.length
  exact wpAny_pyNext_list_end (I.ok.hd hc) st p.isList (by simp; lia) fun h' eb => ⟨rfl, I.turned (t' := s.toks) (fun b o hb e => eb b o hb e) f0 f1 f3 f4 f5⟩
 self := fun _ _ _ _ _ st h => wpAny_pyIter_listiter st h
theorem turn_tuple {P : Program} {w : World} {K : PySem.W.Frag} {tg : Expr} (a it : Addr) : Turn P w K tg (Itt K a) [it] it (fun i h => h.IsTupleIter it a i) where
 mem := by simp
 obj := fun i h st b hb => by
  have e : b = it := by simpa using hb
  subst e
  obtain ⟨o, e, c, d⟩ := st
  exact ⟨o, e, fun v z => by rw [d] at z; cases z⟩
 keep := fun i h h' st k => st.at fun o e => k it (by simp) o e
 item := by
  walk_at "z1"
  subst hP hw hK
  obtain ⟨xs, x, hq, hx⟩ := hg
  obtain ⟨its, rv, p, hz⟩ := I.tuple hq
  obtain ⟨u, hu, ru⟩ := rv.get hx
  walk_at "z4"
  refine wpAny_pyNext_tuple_item st (show s.heap.IsTuple a its.toArray from p) (x := u) (by simpa using hu) fun h' st' sb => ?_
  have I1 : Inv X pins σ H { s with heap := h' } := I.turned (t' := s.toks) (fun b o hb e => (sb.2 b hb).trans e) f0 f1 f3 f4 f5
  obtain ⟨o, e, c, d⟩ := id st'
  exact ⟨u, rfl, go_of (s := { s with heap := h' }) e c d (by decide) ⟨x, H, I1, ru, ⟨rfl, fun ys hy => by rw [I.tuple_inj hy hq]; exact hx⟩, st', fun b hb => (hf b hb).1⟩⟩
 done := by
  walk_at "z1"
  subst hP hw hK
  obtain ⟨xs, hq, hx⟩ := hg
  obtain ⟨its, rv, p, hz⟩ := I.tuple hq
  walk_at "z4"
  have hl := rv.length
  exact wpAny_pyNext_tuple_end (I.ok.hd hc) st (show s.heap.IsTuple a its.toArray from p) (by simp; lia) fun h' eb => ⟨rfl, I.turned (t' := s.toks) (fun b o hb e => eb b o hb e) f0 f1 f3 f4 f5⟩
 self := fun _ _ _ _ _ st h => wpAny_pyIter_tupleiter st h
theorem turn_range {P : Program} {w : World} {K : PySem.W.Frag} {tg : Expr} (it : Addr) (lo : Int) (n : Nat) : Turn P w K tg (Itr lo n) [it] it (fun i h => IsRangeIter h it (lo + (i : Nat) * 1) ((n : Int) - (i : Nat)) 1) where
 mem := by simp
 obj := fun i h st b hb => by
  have e : b = it := by simpa using hb
  subst e
  exact ⟨_, st, fun v z => by
   have z' : Data.fields _ = Data.cell v := z
   cases z'⟩
 keep := fun i h h' st k => k it (by simp) _ st
 item := by
  walk_at "z1"
  subst hP hw hK
  walk_at "z4"
  have W := Walks.range (prog := X.prog) (w := X.w) (I.ok.hd hc) it lo 1 n
  refine W.item i s _ _ hg st fun v h' tk hv st' kk => ?_
  obtain ⟨t, rfl⟩ := hv
  have I1 : Inv X pins σ H { s with heap := h', toks := tk } := I.turned (fun b o hb e => kk b o (by simpa using hb) e) f0 f1 f3 f4 f5
  refine ⟨_, rfl, go_of (s := { s with heap := h', toks := tk }) (n := "range_iterator") st' rfl rfl (by decide) ⟨.int (lo + i), H, I1, ⟨t, ?_⟩, ⟨rfl, rfl⟩, st', fun b hb => (hf b hb).1⟩⟩
  rw [Int.mul_one]
 done := by
  walk_at "z1"
  subst hP hw hK
  walk_at "z4"
  exact wpAny_pyNext_range_end (I.ok.hd hc) st (by have : n ≤ i := hg; lia) fun h' eb => ⟨rfl, I.turned (t' := s.toks) (fun b o hb e => eb b o hb e) f0 f1 f3 f4 f5⟩
 self := fun _ _ _ _ _ st h => wpAny_pyIter_rangeiter st h
end L2
namespace L2
open PySem PySem.Spec PyProof.Rows
section
variable {X : Cx} {tg : Expr}
def iList (K : PySem.W.Frag) (tl : TE) : TI := fun σ H R => tl σ H fun x H1 => ∃ a, x = .ref a ∧ (∃ xs, SqL K H1 a xs) ∧ R (Itl K a) H1
def iTup (K : PySem.W.Frag) (tl : TE) : TI := fun σ H R => tl σ H fun x H1 => ∃ a, x = .ref a ∧ (∃ xs, SqT K H1 a xs) ∧ R (Itt K a) H1
theorem pi_list {l : Expr} {tl : TE} (hl : PE X l tl) : PI X tg l (iList X.K tl) := by
 intro pins s σ H R I h
 refine thn (hl pins s σ H _ I h) fun v s1 ⟨x, H1, I1, r1, q1⟩ => ?_
 obtain ⟨a, e, ⟨xs, hq⟩, q⟩ := q1
 subst e
 cases r1
 obtain ⟨its, rv, p, hz⟩ := I1.list hq
 refine wpAny_pyIter_list p.isList ?_
 refine ⟨s1.heap.objs.size, [s1.heap.objs.size], _, _, H1, rfl, I1.kept (t' := s1.toks) fun b o e => Heap.get?_push_of_some _ e, turn_list a _, ⟨_, Heap.get?_push_size _ rfl, rfl, rfl⟩, fun b hb => ?_, q⟩
 have e : b = s1.heap.objs.size := by simpa using hb
 subst e
 exact I1.fpOk (Nat.le_refl _) (I1.hok.fresh (Nat.le_refl _))
theorem pi_tup {l : Expr} {tl : TE} (hl : PE X l tl) : PI X tg l (iTup X.K tl) := by
 intro pins s σ H R I h
 refine thn (hl pins s σ H _ I h) fun v s1 ⟨x, H1, I1, r1, q1⟩ => ?_
 obtain ⟨a, e, ⟨xs, hq⟩, q⟩ := q1
 subst e
 cases r1
 obtain ⟨its, rv, p, hz⟩ := I1.tuple hq
 refine wpAny_pyIter_tuple (show s1.heap.IsTuple a its.toArray from p) ?_
 refine ⟨s1.heap.objs.size, [s1.heap.objs.size], _, _, H1, rfl, I1.kept (t' := s1.toks) fun b o e => Heap.get?_push_of_some _ e, turn_tuple a _, ⟨_, Heap.get?_push_size _ rfl, rfl, rfl⟩, fun b hb => ?_, q⟩
 have e : b = s1.heap.objs.size := by simpa using hb
 subst e
 exact I1.fpOk (Nat.le_refl _) (I1.hok.fresh (Nat.le_refl _))
theorem range_it {pins : List (Addr × Obj)} {σ : St} {H : Hp} {s : Shared} {R : It → Hp → Prop} {E : Value → Shared → Prop} {lo hi : Int} {t u v : Tok} {tk : Nat} (I : Inv X pins σ H s) (h1 : -(2 ^ 62) ≤ lo) (h2 : lo < 2 ^ 62) (h3 : -(2 ^ 62) ≤ hi) (h4 : hi < 2 ^ 62)
 (q : R (Itr lo (hi - lo).toNat) H) : wpAny (model X.prog X.w) X.A (pyIter (.ref s.heap.objs.size)) (PIE X pins σ tg R) E { s with heap := s.heap.push { cls := .type "range", data := .fields #[.int lo t, .int hi u, .int 1 v] }, toks := tk } := by
 refine wpAny_pyIter_range (IsRange.new ..) (small_one h1 h2 h3 h4) ?_
 have I1 : Inv X pins σ H { s with heap := s.heap.push { cls := .type "range", data := .fields #[.int lo t, .int hi u, .int 1 v] }, toks := tk } := I.kept fun b o e => Heap.get?_push_of_some _ e
 refine ⟨(s.heap.push { cls := .type "range", data := .fields #[.int lo t, .int hi u, .int 1 v] }).objs.size, [(s.heap.push { cls := .type "range", data := .fields #[.int lo t, .int hi u, .int 1 v] }).objs.size], _, _, H, rfl,
  I1.kept (t' := tk) fun b o e => Heap.get?_push_of_some _ e, turn_range _ lo (hi - lo).toNat, ?_, fun b hb => ?_, q⟩
 ·have e1 : lo + ((0 : Nat) : Int) * 1 = lo := by simp
  have e2 : (((hi - lo).toNat : Nat) : Int) - ((0 : Nat) : Int) = Builtin.Range.rangeSize lo hi 1 := by rw [rangeSize_one]; split <;> lia
  show IsRangeIter _ _ (lo + ((0 : Nat) : Int) * 1) ((((hi - lo).toNat : Nat) : Int) - ((0 : Nat) : Int)) 1
  rw [e1, e2]
  exact Heap.get?_push_size _ rfl
 ·have e : b = (s.heap.push { cls := .type "range", data := .fields #[.int lo t, .int hi u, .int 1 v] }).objs.size := by simpa using hb
  subst e
  exact I1.fpOk (Nat.le_refl _) (I1.hok.fresh (Nat.le_refl _))
def iRng1 (ta : TA) : TI := fun σ H R => ta σ H fun vs H1 => ∃ j : Int, vs = [.int j] ∧ -(2 ^ 62) ≤ j ∧ j < 2 ^ 62 ∧ R (Itr 0 j.toNat) H1
def iRng2 (ta : TA) : TI := fun σ H R => ta σ H fun vs H1 => ∃ i j : Int, vs = [.int i, .int j] ∧ (-(2 ^ 62) ≤ i ∧ i < 2 ^ 62 ∧ -(2 ^ 62) ≤ j ∧ j < 2 ^ 62) ∧ R (Itr i (j - i).toNat) H1
theorem pi_range1 {a : Expr} {ta : TA} {p pos : Pos} (hg : Gl X "range") (hm : X.mg "range" = none) (ha : PA X [a] ta) (hs : starEach [a] X.env = [(false, eval a X.env)] := by rfl) : PI X tg (.Call (.Name "range" p) [a] [] pos) (iRng1 ta) := by
 intro pins s σ H R I h
 refine Call_ (ld_blt I hg hm boot_range (PyProof.Rows.callWith_type1 (thn (ha pos pins s σ H _ I h) fun us s1 ⟨vs, H1, I1, r1, q1⟩ => ?_) hs rfl))
 obtain ⟨j, e, q1, q2, q⟩ := q1
 subst e
 cases r1 with
 | cons r rr =>
   cases rr
   obtain ⟨t, rfl⟩ := r
   exact call_range_1 (range_it I1 (by lia) (by lia) q1 q2 (by simpa using q))
def tFor (wi : TI) (g : TG) (tb : TS) : TS := fun D σ H => wi σ H fun J H1 => ∃ W : Nat → Nat → St → Hp → Prop, (∃ m, W 0 m σ H1) ∧ ∀ i m σ H, W i m σ H →
 (J.stop i H ∧ D.nx σ H) ∨ (J.go i H ∧ ∃ N : St → Hp → Prop, (∀ σ' H', N σ' H' → ∃ m', m' < m ∧ W (i + 1) m' σ' H') ∧ ∀ x H', J.yld i H x H' → g x σ H' fun σ2 H2 => tb { D with nx := N, ct := N, bk := D.nx } σ2 H2)
def pinsAt (fp : List Addr) (h : Heap) : List (Addr × Obj) := fp.filterMap fun b => (h.get? b).map fun o => (b, o)
theorem mem_pinsAt {fp : List Addr} {h : Heap} {b : Addr} {o : Obj} (hb : b ∈ fp) (e : h.get? b = some o) : (b, o) ∈ pinsAt fp h := List.mem_filterMap.mpr ⟨b, hb, by rw [e]; rfl⟩
theorem of_pinsAt {fp : List Addr} {h : Heap} {p : Addr × Obj} (hp : p ∈ pinsAt fp h) : p.1 ∈ fp ∧ h.get? p.1 = some p.2 := by
 obtain ⟨b, hb, e⟩ := List.mem_filterMap.mp hp
 cases q : h.get? b with
 | none => rw [q] at e; cases e
 | some o =>
   rw [q] at e
   have e' : (b, o) = p := Option.some.inj e
   subst e'
   exact ⟨hb, q⟩
theorem Inv.pinned {pins : List (Addr × Obj)} {σ : St} {H : Hp} {s : Shared} {fp : List Addr} (I : Inv X pins σ H s) (hf : ∀ b ∈ fp, FpOk X pins H b) (ho : ∀ b ∈ fp, ∃ o, s.heap.get? b = some o ∧ ∀ v, o.data ≠ .cell v) : Inv X (pins ++ pinsAt fp s.heap) σ H s :=
 I.pins_of fun p hp => (List.mem_append.mp hp).elim (fun z => I.pin p (List.mem_append_right _ z)) fun z => by
  obtain ⟨hb, e⟩ := of_pinsAt z
  obtain ⟨f0, f1, f2, _⟩ := hf p.1 hb
  obtain ⟨o, e', d⟩ := ho p.1 hb
  rw [e] at e'; cases e'
  exact ⟨e, f0, f1, f2, d⟩
theorem Inv.unpinned {pins pl : List (Addr × Obj)} {σ : St} {H : Hp} {s : Shared} (I : Inv X (pins ++ pl) σ H s) : Inv X pins σ H s := I.pins_of fun p hp => I.pin p (List.mem_append_right _ (List.mem_append_left _ hp))
theorem ps_for {iter : Expr} {body : List Stmt} {wi : TI} {g : TG} {tb : TS} {pos : Pos} (hp : PassesOwn (model X.prog X.w) X.A X.env X.xe) (hc : X.calm = true) (hi : PI X tg iter wi) (hg : PG X tg g) (hb : PSs X body tb)
 (hs : ∀ x, foldedSetIterable iter X.env x = pure x := by intro _; rfl) : PS X (.For tg iter body [] pos) (tFor wi g tb) := by
 intro pins s σ H D I h
 refine wpAny_For (thn (hi pins s σ H _ I h) fun v s1 h1 => thn h1 fun itv s2 h2 => ?_) hs
 obtain ⟨it, fp, tn, J, H2, e, I2, T, st2, f2, W, ⟨m0, w0⟩, turn⟩ := h2
 subst e
 have stat : ∀ {H' : Hp}, (∀ b ∈ fp, H' b = none) → ∀ b ∈ fp, FpOk X pins H' b := fun hn b hb => ⟨hn b hb, (f2 b hb).2⟩
 refine codeAny_forLoop_any (fun n s' => ∃ i σ' H', Inv X pins σ' H' s' ∧ tn i s'.heap ∧ (∀ b ∈ fp, H' b = none) ∧ W i n σ' H') ?_ m0 ⟨0, σ, H2, I2, st2, fun b hb => (f2 b hb).1, w0⟩
 rintro n s3 ⟨i, σ3, H3, I3, st3, fr3, w3⟩
 rcases turn i n σ3 H3 w3 with ⟨stop, qn⟩ | ⟨go, N, hN, step⟩
 ·refine wpAny_passesOwn hp (thn (T.done X rfl rfl rfl hc i pins s3 σ3 H3 X.xe I3 (stat fr3) st3 stop) fun r s4 ⟨hr, I4⟩ => ?_)
  subst hr
  exact wpAny_execs_nil ⟨σ3, H3, I4, qn⟩
 ·refine wpAny_passesOwn hp (thn (T.item X rfl rfl rfl hc i pins s3 σ3 H3 X.xe I3 (stat fr3) st3 go) fun r s4 ⟨u, hr, h4⟩ => ?_)
  subst hr
  refine wpAny_passesOwn hp (thn h4 fun _ s5 ⟨x, H5, I5, r5, y5, st5, fr5⟩ => ?_)
  have I5' := I5.pinned (stat fr5) (T.obj _ _ st5)
  refine wpAny_passesOwn hp (thn (hg _ s5 σ3 H5 x u _ I5' r5 (step x H5 y5)) fun _ s6 ⟨σ6, H6, I6, q6⟩ => ?_)
  refine wpAny_passesOwn hp (thn (hb _ s6 σ6 H6 _ I6 q6) fun f s7 q7 => ?_)
  have again : ∀ {σ7 : St} {H7 : Hp}, Inv X (pins ++ pinsAt fp s5.heap) σ7 H7 s7 → N σ7 H7 → ∃ m, m < n ∧ ∃ i σ' H', Inv X pins σ' H' s7 ∧ tn i s7.heap ∧ (∀ b ∈ fp, H' b = none) ∧ W i m σ' H' := fun {σ7 H7} I7 n7 => by
   obtain ⟨m', hm, w7⟩ := hN σ7 H7 n7
   refine ⟨m', hm, i + 1, σ7, H7, I7.unpinned, T.keep _ _ _ st5 fun b hb o e => (I7.pin (b, o) (List.mem_append_right _ (List.mem_append_right _ (mem_pinsAt hb e)))).1, fun b hb => ?_, w7⟩
   obtain ⟨o, e, d⟩ := T.obj _ _ st5 b hb
   exact (I7.pin (b, o) (List.mem_append_right _ (List.mem_append_right _ (mem_pinsAt hb e)))).2.1
  cases f with
  | next => obtain ⟨σ7, H7, I7, n7⟩ := q7; exact again I7 n7
  | cont => obtain ⟨σ7, H7, I7, n7⟩ := q7; exact again I7 n7
  | brk => obtain ⟨σ7, H7, I7, q7⟩ := q7; exact ⟨σ7, H7, I7.unpinned, q7⟩
  | ret v => obtain ⟨x7, σ7, H7, I7, r7, q7⟩ := q7; exact ⟨x7, σ7, H7, I7.unpinned, r7, q7⟩
end
theorem for_list {K : PySem.W.Frag} {a : Addr} {xs : List V} {g : TG} {tb : TS} {D : Ends} {σ : St} {H : Hp} (Pv : Nat → St → Hp → Prop) (h0 : Pv 0 σ H) (hl : ∀ i σ H, i ≤ xs.length → Pv i σ H → SqL K H a xs)
 (hs : ∀ i x σ H, xs[i]? = some x → Pv i σ H → g x σ H fun σ2 H2 => tb { D with nx := Pv (i + 1), ct := Pv (i + 1), bk := D.nx } σ2 H2) (hd : ∀ σ H, Pv xs.length σ H → D.nx σ H) :
 ∃ W : Nat → Nat → St → Hp → Prop, (∃ m, W 0 m σ H) ∧ ∀ i m σ H, W i m σ H →
  ((Itl K a).stop i H ∧ D.nx σ H) ∨ ((Itl K a).go i H ∧ ∃ N : St → Hp → Prop, (∀ σ' H', N σ' H' → ∃ m', m' < m ∧ W (i + 1) m' σ' H') ∧ ∀ x H', (Itl K a).yld i H x H' → g x σ H' fun σ2 H2 => tb { D with nx := N, ct := N, bk := D.nx } σ2 H2) := by
 refine ⟨fun i m σ H => m = xs.length - i ∧ i ≤ xs.length ∧ Pv i σ H, ⟨xs.length, by simp, Nat.zero_le _, h0⟩, ?_⟩
 rintro i m σ H ⟨rfl, hi, p⟩
 have q := hl i σ H hi p
 by_cases hlt : i < xs.length
 ·refine .inr ⟨⟨xs, xs[i], q, by simp [hlt]⟩, Pv (i + 1), fun σ' H' p' => ⟨xs.length - (i + 1), by lia, rfl, hlt, p'⟩, fun x H' y => ?_⟩
  obtain ⟨e, y⟩ := y
  subst e
  exact hs i x σ _ (y xs q) p
 ·have e : i = xs.length := by lia
  subst e
  exact .inl ⟨⟨xs, q, Nat.le_refl _⟩, hd σ H p⟩
theorem for_range {lo : Int} {n : Nat} {g : TG} {tb : TS} {D : Ends} {σ : St} {H : Hp} (Pv : Nat → St → Hp → Prop) (h0 : Pv 0 σ H)
 (hs : ∀ i σ H, i < n → Pv i σ H → g (.int (lo + i)) σ H fun σ2 H2 => tb { D with nx := Pv (i + 1), ct := Pv (i + 1), bk := D.nx } σ2 H2) (hd : ∀ σ H, Pv n σ H → D.nx σ H) :
 ∃ W : Nat → Nat → St → Hp → Prop, (∃ m, W 0 m σ H) ∧ ∀ i m σ H, W i m σ H →
  ((Itr lo n).stop i H ∧ D.nx σ H) ∨ ((Itr lo n).go i H ∧ ∃ N : St → Hp → Prop, (∀ σ' H', N σ' H' → ∃ m', m' < m ∧ W (i + 1) m' σ' H') ∧ ∀ x H', (Itr lo n).yld i H x H' → g x σ H' fun σ2 H2 => tb { D with nx := N, ct := N, bk := D.nx } σ2 H2) := by
 refine ⟨fun i m σ H => m = n - i ∧ i ≤ n ∧ Pv i σ H, ⟨n, by simp, Nat.zero_le _, h0⟩, ?_⟩
 rintro i m σ H ⟨rfl, hi, p⟩
 by_cases hlt : i < n
 ·refine .inr ⟨hlt, Pv (i + 1), fun σ' H' p' => ⟨n - (i + 1), by lia, rfl, hlt, p'⟩, fun x H' y => ?_⟩
  obtain ⟨e, y⟩ := y
  subst e y
  exact hs i σ _ hlt p
 ·have e : i = n := by lia
  subst e
  exact .inl ⟨Nat.le_refl _, hd σ H p⟩
end L2
namespace L2
open PySem PySem.Spec PyProof.Rows
abbrev R2 := V → V → Hp → VK → Prop
def OpR (X : Cx) (f : Value → Value → Sem Value) (r : R2) : Prop :=
 ∀ (pins : List (Addr × Obj)) (s : Shared) (σ : St) (H : Hp) (x y : V) (v u : Value) (Q : VK), Inv X pins σ H s → RelV x v → RelV y u → r x y H Q →
  wpAny (model X.prog X.w) X.A (f v u) (EP X pins σ Q) X.xe s
def UnR (X : Cx) (f : Value → Sem Value) (r : V → Hp → VK → Prop) : Prop :=
 ∀ (pins : List (Addr × Obj)) (s : Shared) (σ : St) (H : Hp) (x : V) (v : Value) (Q : VK), Inv X pins σ H s → RelV x v → r x H Q →
  wpAny (model X.prog X.w) X.A (f v) (EP X pins σ Q) X.xe s
def CallR (X : Cx) (f : Value) (r : List V → Hp → VK → Prop) : Prop :=
 ∀ (pins : List (Addr × Obj)) (s : Shared) (σ : St) (H : Hp) (xs : List V) (us : List Value) (Q : VK), Inv X pins σ H s → Vals xs us → r xs H Q →
  wpAny (model X.prog X.w) X.A (call f us) (EP X pins σ Q) X.xe s
def TruR (X : Cx) (r : V → Hp → (Bool → Hp → Prop) → Prop) : Prop :=
 ∀ (pins : List (Addr × Obj)) (s : Shared) (σ : St) (H : Hp) (x : V) (v : Value) (Q : Bool → Hp → Prop), Inv X pins σ H s → RelV x v → r x H Q →
  wpAny (model X.prog X.w) X.A (truthy v) (TP X pins σ Q) X.xe s
def tOp (r : R2) (ta tb : TE) : TE := fun σ H Q => ta σ H fun x H1 => tb σ H1 fun y H2 => r x y H2 Q
def tUn (r : V → Hp → VK → Prop) (ta : TE) : TE := fun σ H Q => ta σ H fun x H1 => r x H1 Q
def rI (C : Int → Int → Prop) (g : Int → Int → V) : R2 := fun x y H Q => ∃ i j, x = .int i ∧ y = .int j ∧ C i j ∧ Q (g i j) H
def rI0 (g : Int → Int → V) : R2 := fun x y H Q => ∃ i j, x = .int i ∧ y = .int j ∧ Q (g i j) H
def rU (g : Int → V) : V → Hp → VK → Prop := fun x H Q => ∃ i, x = .int i ∧ Q (g i) H
section
variable {X : Cx} {a b c : Expr} {ta tb tc : TE} {pos : Pos}
theorem binT (ha : PE X a ta) (hb : PE X b tb) {pins : List (Addr × Obj)} {s : Shared} {σ : St} {H : Hp} {R : V → V → Hp → Prop} (I : Inv X pins σ H s)
 (h : ta σ H fun x H1 => tb σ H1 fun y H2 => R x y H2) {Q : Value → Shared → Prop} {f : Value → Value → Sem Value}
 (hf : ∀ v u s2 x y H2, Inv X pins σ H2 s2 → RelV x v → RelV y u → R x y H2 → wpAny (model X.prog X.w) X.A (f v u) Q X.xe s2) :
 wpAny (model X.prog X.w) X.A (eval a X.env) (fun v s₁ => wpAny (model X.prog X.w) X.A (eval b X.env) (fun u s₂ => wpAny (model X.prog X.w) X.A (f v u) Q X.xe s₂) X.xe s₁) X.xe s := by
 refine thn (ha pins s σ H _ I h) fun v s1 ⟨x, H1, I1, r1, q1⟩ => ?_
 refine thn (hb pins s1 σ H1 _ I1 q1) fun u s2 ⟨y, H2, I2, r2, q2⟩ => ?_
 exact hf v u s2 x y H2 I2 r1 r2 q2
theorem pe_op {op : Operator} {r : R2} (ho : OpR X (binaryOp op) r) (ha : PE X a ta) (hb : PE X b tb) : PE X (.BinOp a op b pos) (tOp r ta tb) := by
 walk_at "z0"
 exact wpAny_BinOp (binT ha hb I h fun v u s2 x y H2 I2 rx ry q => ho pins s2 σ H2 x y v u Q I2 rx ry q)
theorem pe_un {op : UnaryOp} {r : V → Hp → VK → Prop} (ho : UnR X (unaryOp op) r) (ha : PE X a ta) : PE X (.UnaryOp op a pos) (tUn r ta) := by
 walk_at "z0"
 exact UnaryOp_ (thn (ha pins s σ H _ I h) fun v s1 ⟨x, H1, I1, r1, q1⟩ => ho pins s1 σ H1 x v Q I1 r1 q1)
theorem opI {f : Value → Value → Sem Value} {C : Int → Int → Prop} {g : Int → Int → Int}
 (rule : ∀ (i j : Int) (t u : Tok) (s : Shared) (Q : Value → Shared → Prop) (E : Value → Shared → Prop), C i j → Q (.int (g i j) s.toks) { s with toks := s.toks + 1 } → wpAny (model X.prog X.w) X.A (f (.int i t) (.int j u)) Q E s) :
 OpR X f (rI C fun i j => .int (g i j)) := by
 intro pins s σ H x y v u Q I rx ry h
 obtain ⟨i, j, rfl, rfl, hc, q⟩ := h
 obtain ⟨t, rfl⟩ := rx
 obtain ⟨t', rfl⟩ := ry
 exact rule i j t t' s _ _ hc ⟨.int (g i j), H, I.tok _, ⟨_, rfl⟩, q⟩
theorem opI0 {f : Value → Value → Sem Value} {g : Int → Int → Int}
 (rule : ∀ (i j : Int) (t u : Tok) (s : Shared) (Q : Value → Shared → Prop) (E : Value → Shared → Prop), Q (.int (g i j) s.toks) { s with toks := s.toks + 1 } → wpAny (model X.prog X.w) X.A (f (.int i t) (.int j u)) Q E s) :
 OpR X f (rI0 fun i j => .int (g i j)) := by
 intro pins s σ H x y v u Q I rx ry h
 obtain ⟨i, j, rfl, rfl, q⟩ := h
 obtain ⟨t, rfl⟩ := rx
 obtain ⟨t', rfl⟩ := ry
 exact rule i j t t' s _ _ ⟨.int (g i j), H, I.tok _, ⟨_, rfl⟩, q⟩
theorem opB0 {f : Value → Value → Sem Value} {g : Int → Int → Bool}
 (rule : ∀ (i j : Int) (t u : Tok) (s : Shared) (Q : Value → Shared → Prop) (E : Value → Shared → Prop), Q (.bool (g i j)) s → wpAny (model X.prog X.w) X.A (f (.int i t) (.int j u)) Q E s) :
 OpR X f (rI0 fun i j => .bl (g i j)) := by
 intro pins s σ H x y v u Q I rx ry h
 obtain ⟨i, j, rfl, rfl, q⟩ := h
 obtain ⟨t, rfl⟩ := rx
 obtain ⟨t', rfl⟩ := ry
 exact rule i j t t' s _ _ ⟨.bl (g i j), H, I, rfl, q⟩
def CDiv (i j : Int) : Prop := 0 < j ∧ j < 1073741824
def CPow (i j : Int) : Prop := 0 ≤ j ∧ j ≤ 1000000 ∧ i.natAbs < 2 ^ 64
def CMul (i j : Int) : Prop := (-(2 ^ 64) < i ∧ i < 2 ^ 64) ∨ (-(2 ^ 64) < j ∧ j < 2 ^ 64)
theorem CMul.ok {i j : Int} (h : CMul i j) : IntMulOk i j := by
 rcases h with ⟨h1, h2⟩ | ⟨h1, h2⟩
 ·exact .of_left (intBits_le_64 h1 h2)
 ·exact .of_right (intBits_le_64 h1 h2)
theorem op_add : OpR X (binaryOp .Add) (rI0 fun i j => .int (i + j)) := opI0 fun _ _ _ _ _ _ _ q => add_int q
theorem op_sub : OpR X (binaryOp .Sub) (rI0 fun i j => .int (i - j)) := opI0 fun _ _ _ _ _ _ _ q => sub_int q
theorem op_mul : OpR X (binaryOp .Mult) (rI CMul fun i j => .int (i * j)) := opI fun _ _ _ _ _ _ _ hc q => mul_int q hc.ok
theorem op_fdiv : OpR X (binaryOp .FloorDiv) (rI CDiv fun i j => .int (i / j)) := opI fun i j _ _ _ _ _ hc q => by
 have h1 : (0 : Int) < j := hc.1
 have h2 : j < 1073741824 := hc.2
 exact floordiv_int (by lia) (by rw [Int.fdiv_eq_ediv_of_nonneg i (by lia)]; exact q) (.inl (PyProof.noPylong_small (by lia)))
theorem op_mod : OpR X (binaryOp .Mod) (rI (fun _ j => 0 < j) fun i j => .int (i % j)) := opI fun i j _ _ _ _ _ hc q => by
 have h1 : (0 : Int) < j := hc
 exact mod_int' (by lia) (by rw [Int.fmod_eq_emod_of_nonneg i (by lia)]; exact q)
theorem op_pow : OpR X (binaryOp .Pow) (rI CPow fun i j => .int (i ^ j.toNat)) := opI fun _ _ _ _ _ _ _ hc q => pow_int_small hc.1 hc.2.1 hc.2.2 q
theorem unI {f : Value → Sem Value} {g : Int → Int}
 (rule : ∀ (i : Int) (t : Tok) (s : Shared) (Q : Value → Shared → Prop) (E : Value → Shared → Prop), Q (.int (g i) s.toks) { s with toks := s.toks + 1 } → wpAny (model X.prog X.w) X.A (f (.int i t)) Q E s) :
 UnR X f (rU fun i => .int (g i)) := by
 intro pins s σ H x v Q I rx h
 obtain ⟨i, rfl, q⟩ := h
 obtain ⟨t, rfl⟩ := rx
 exact rule i t s _ _ ⟨.int (g i), H, I.tok _, ⟨_, rfl⟩, q⟩
theorem un_neg : UnR X (unaryOp .USub) (rU fun i => .int (-i)) := unI fun _ _ _ _ _ q => neg_int q
end
section
variable {X : Cx} {a b c : Expr} {ta tb tc : TE} {pos : Pos}
theorem op_lt : OpR X (compareOp .Lt) (rI0 fun i j => .bl (decide (i < j))) := opB0 fun _ _ _ _ _ _ _ q => lt_int q
theorem op_le : OpR X (compareOp .LtE) (rI0 fun i j => .bl (decide (i ≤ j))) := opB0 fun _ _ _ _ _ _ _ q => le_int q
theorem op_gt : OpR X (compareOp .Gt) (rI0 fun i j => .bl (decide (j < i))) := opB0 fun _ _ _ _ _ _ _ q => gt_int q
theorem op_ge : OpR X (compareOp .GtE) (rI0 fun i j => .bl (decide (j ≤ i))) := opB0 fun _ _ _ _ _ _ _ q => ge_int q
theorem OpR.or {f : Value → Value → Sem Value} {r r' : R2} (h : OpR X f r) (h' : OpR X f r') : OpR X f (fun x y H Q => r x y H Q ∨ r' x y H Q) := by
 intro pins s σ H x y v u Q I rx ry q
 rcases q with q | q
 ·exact h pins s σ H x y v u Q I rx ry q
 ·exact h' pins s σ H x y v u Q I rx ry q
theorem nomark (b : Expr) {op : CmpOp} (h : op ≠ .In := by decide) (h2 : op ≠ .NotIn := by decide) : behindInMarks op b = false := by
 have e1 : (op == CmpOp.In) = false := by cases op <;> first | rfl | exact absurd rfl h
 have e2 : (op == CmpOp.NotIn) = false := by cases op <;> first | rfl | exact absurd rfl h2
 cases b <;> simp [behindInMarks, e1, e2]
theorem pe_cmpR {op : CmpOp} {r : R2} (ho : OpR X (compareOp op) r) (ha : PE X a ta) (hb : PE X b tb) (hm : behindInMarks op b = false) : PE X (.Compare a [op] [b] pos) (tOp r ta tb) := by
 walk_at "z0"
 exact wpAny_Compare1 (binT ha hb I h fun v u s2 x y H2 I2 rx ry q => ho pins s2 σ H2 x y v u Q I2 rx ry q) hm
def tTest (t : TE) : TT := fun σ H Q => t σ H fun x H' => ∃ k, x = .bl k ∧ Q k H'
theorem pt_cmpR {op : CmpOp} {r : R2} (ho : OpR X (compareOp op) r) (ha : PE X a ta) (hb : PE X b tb) (hm : behindInMarks op b = false) : PT X (.Compare a [op] [b] pos) (tTest (tOp r ta tb)) := by
 walk_at "z0"
 refine wpAny_isTrue_Compare1 (thn (ha pins s σ H _ I h) fun v s1 ⟨x, H1, I1, r1, q1⟩ => thn (hb pins s1 σ H1 _ I1 q1) fun u s2 ⟨y, H2, I2, r2, q2⟩ =>
  thn (ho pins s2 σ H2 x y v u _ I2 r1 r2 q2) fun c s3 ⟨z, H3, I3, r3, k, e, q3⟩ => ?_) hm
 subst e
 cases r3
 exact wpAny_truthy_bool ⟨H3, I3, q3⟩
def tChain (r r' : R2) (ta tb tc : TE) : TE := fun σ H Q => ta σ H fun x H1 => tb σ H1 fun y H2 => r x y H2 fun z H3 => ∃ k, z = .bl k ∧
 (if k = true then tc σ H3 fun w' H4 => r' y w' H4 Q else Q (.bl false) H3)
theorem pe_chain {op op' : CmpOp} {r r' : R2} (ho : OpR X (compareOp op) r) (ho' : OpR X (compareOp op') r') (ha : PE X a ta) (hb : PE X b tb) (hc : PE X c tc)
 (hm : lastMarks [op, op'] [b, c] = false := by with_unfolding_all rfl) : PE X (.Compare a [op, op'] [b, c] pos) (tChain r r' ta tb tc) := by
 walk_at "z0"
 refine Compare_chain (thn (ha pins s σ H _ I h) fun v s1 ⟨x, H1, I1, r1, q1⟩ => chain_link (thn (hb pins s1 σ H1 _ I1 q1) fun u s2 ⟨y, H2, I2, r2, q2⟩ =>
  thn (ho pins s2 σ H2 x y v u _ I2 r1 r2 q2) fun d s3 ⟨z, H3, I3, r3, k, e, q3⟩ => ?_)) hm
 subst e
 cases r3
 refine wpAny_truthy_bool ?_
 cases k with
 | false => exact ite_ff ⟨.bl false, H3, I3, rfl, q3⟩
 | true => exact ite_tt (chain_last (thn (hc pins s3 σ H3 _ I3 q3) fun w' s4 ⟨z', H4, I4, r4, q4⟩ => ho' pins s4 σ H4 y z' u w' Q I4 r2 r4 q4))
theorem pt_chain {op op' : CmpOp} {r r' : R2} (ho : OpR X (compareOp op) r) (ho' : OpR X (compareOp op') r') (ha : PE X a ta) (hb : PE X b tb) (hc : PE X c tc)
 (hm : lastMarks [op, op'] [b, c] = false := by with_unfolding_all rfl) : PT X (.Compare a [op, op'] [b, c] pos) (tTest (tChain r r' ta tb tc)) := by
 walk_at "z0"
 refine isTrue_chain (thn (ha pins s σ H _ I h) fun v s1 ⟨x, H1, I1, r1, q1⟩ => test_link (thn (hb pins s1 σ H1 _ I1 q1) fun u s2 ⟨y, H2, I2, r2, q2⟩ =>
  thn (ho pins s2 σ H2 x y v u _ I2 r1 r2 q2) fun d s3 ⟨z, H3, I3, r3, k, e, q3⟩ => ?_)) hm
 subst e
 cases r3
 refine wpAny_truthy_bool ?_
 cases k with
 | false =>
   obtain ⟨k', e', q'⟩ := q3
   cases e'
   exact ite_ff ⟨H3, I3, q'⟩
 | true =>
   refine ite_tt (test_last (thn (hc pins s3 σ H3 _ I3 q3) fun w' s4 ⟨z', H4, I4, r4, q4⟩ => thn (ho' pins s4 σ H4 y z' u w' _ I4 r2 r4 q4) fun d' s5 ⟨z2, H5, I5, r5, k2, e2, q5⟩ => ?_))
   subst e2
   cases r5
   exact wpAny_truthy_bool ⟨H5, I5, q5⟩
def TruV (K : PySem.W.Frag) (x : V) (H : Hp) (k : Bool) : Prop :=
 match x with
 | .non => k = false
 | .bl b => k = b
 | .int i => k = (i != 0)
 | .str y => y.length ≤ sizeLine ∧ k = ((y.length : Int) != 0)
 | .byt y => y.size ≤ sizeLine ∧ k = ((y.size : Int) != 0)
 | .ref p => (∃ xs, SqL K H p xs ∧ k = !xs.isEmpty) ∨ (∃ xs, SqT K H p xs ∧ k = !xs.isEmpty) ∨ ∃ kvs, H p = some (.dK kvs) ∧ k = !kvs.isEmpty
 | _ => False
theorem isEmpty_kv {κ : Type} {kvs : List (κ × V)} {vs : List (κ × Value)} (r : KV kvs vs) : (!vs.isEmpty) = !kvs.isEmpty := by
 cases r <;> rfl
theorem isEmpty_of {xs : List V} {its : List Value} (r : Vals xs its) : (!its.toArray.isEmpty) = !xs.isEmpty := by
 cases r <;> simp
theorem line63 : (sizeLine : Nat) < 2 ^ 63 := by rw [sizeLine_eq]; decide
theorem tru_ok : TruR X (fun x H Q => ∃ k, TruV X.K x H k ∧ Q k H) := by
 intro pins s σ H x v Q I rx h
 obtain ⟨k, e, q⟩ := h
 have hl := line63
 have hs : sizeLine = 16777216 := sizeLine_eq
 cases x with
 | non =>
   cases rx
   have e' : k = false := e
   subst e'
   exact truthy_none ⟨H, I, q⟩
 | bl b =>
   cases rx
   have e' : k = b := e
   subst e'
   exact wpAny_truthy_bool ⟨H, I, q⟩
 | int i =>
   obtain ⟨t, rfl⟩ := rx
   have e' : k = (i != 0) := e
   subst e'
   exact PySem.P.truthy_int ⟨H, I, q⟩
 | str y =>
   obtain ⟨t, rfl⟩ := rx
   obtain ⟨hy, e'⟩ : y.length ≤ sizeLine ∧ k = ((y.length : Int) != 0) := e
   subst e'
   exact PySem.P.truthy_str (by lia) ⟨H, I.tok _, q⟩
 | byt y =>
   obtain ⟨t, rfl⟩ := rx
   obtain ⟨hy, e'⟩ : y.size ≤ sizeLine ∧ k = ((y.size : Int) != 0) := e
   subst e'
   exact PySem.W.truthy_bytes (by lia) ⟨H, I.tok _, q⟩
 | ref p =>
   cases rx
   have e' : (∃ xs, SqL X.K H p xs ∧ k = !xs.isEmpty) ∨ (∃ xs, SqT X.K H p xs ∧ k = !xs.isEmpty) ∨ ∃ kvs, H p = some (.dK kvs) ∧ k = !kvs.isEmpty := e
   rcases e' with ⟨xs, hx, e'⟩ | ⟨xs, hx, e'⟩ | ⟨kvs, hx, e'⟩
   ·subst e'
    obtain ⟨its, r, pl, hz⟩ := I.list hx
    have hlen := r.length
    exact wpAny_truthy_list pl.isList (by simp only [List.size_toArray]; lia) ⟨H, I.tok _, by rw [isEmpty_of r]; exact q⟩
   ·subst e'
    obtain ⟨its, r, pl, hz⟩ := I.tuple hx
    have hlen := r.length
    exact truthy_tuple pl (by simp only [List.size_toArray]; lia) ⟨H, I.tok _, by rw [isEmpty_of r]; exact q⟩
   ·subst e'
    obtain ⟨hz, hS, vs, r, m⟩ : kvs.length ≤ sizeLine ∧ (p == sysModules) = false ∧ ∃ vs, KV kvs vs ∧ s.heap.DictOf (mixKind X.prog X.w) p vs := I.hok p _ hx
    have hlen : kvs.length = vs.length := Paired.length r
    exact wpAny_truthy_dict hS m (by lia) ⟨H, I.tok _, by rw [isEmpty_kv r]; exact q⟩
 | _ => exact (show False from e).elim
theorem pt_truth (ha : PE X a ta) (he : ∀ whole, isTrue a X.env whole = (do let v ← whole; standAt a.pos; holding [v] (truthy v))) :
 PT X a (fun σ H Q => ta σ H fun x H' => ∃ k, TruV X.K x H' k ∧ Q k H') := by
 walk_at "z0"
 exact isTrue_plain (thn (ha pins s σ H _ I h) fun v s1 ⟨x, H1, I1, r1, q1⟩ => tru_ok pins s1 σ H1 x v Q I1 r1 q1) (he _)
theorem vals1 {x : V} {us : List Value} (r : Vals [x] us) : ∃ u, us = [u] ∧ RelV x u := by
 cases r with
 | cons r1 r2 => cases r2; exact ⟨_, rfl, r1⟩
theorem vals2 {x y : V} {us : List Value} (r : Vals [x, y] us) : ∃ u w', us = [u, w'] ∧ RelV x u ∧ RelV y w' := by
 cases r with
 | cons r1 r2 =>
   cases r2 with
   | cons r3 r4 => cases r4; exact ⟨_, _, rfl, r1, r3⟩
theorem call_abs : CallR X (.builtin "abs") (fun xs H Q => ∃ i, xs = [.int i] ∧ Q (.int (if i < 0 then -i else i)) H) := by
 walk_at "z5"
 obtain ⟨i, rfl, q⟩ := h
 obtain ⟨u, rfl, t, rfl⟩ := vals1 r
 exact call_abs_int fun u tk => ⟨.int (if i < 0 then -i else i), H, I.tok _, ⟨_, rfl⟩, q⟩
theorem call_max2 (hc : X.calm = true) : CallR X (.builtin "max") (fun xs H Q => ∃ i j, xs = [.int i, .int j] ∧ Q (.int (if j > i then j else i)) H) := by
 walk_at "z5"
 obtain ⟨i, j, rfl, q⟩ := h
 obtain ⟨u, w', rfl, ⟨t, rfl⟩, ⟨t', rfl⟩⟩ := vals2 r
 refine max_two_ints (I.ok.hd hc) fun h' tk k => ⟨_, H, I.kept k, ?_, q⟩
 by_cases hj : j > i
 ·rw [if_pos hj, if_pos hj]; exact ⟨_, rfl⟩
 ·rw [if_neg hj, if_neg hj]; exact ⟨_, rfl⟩
theorem call_min2 (hc : X.calm = true) : CallR X (.builtin "min") (fun xs H Q => ∃ i j, xs = [.int i, .int j] ∧ Q (.int (if j < i then j else i)) H) := by
 walk_at "z5"
 obtain ⟨i, j, rfl, q⟩ := h
 obtain ⟨u, w', rfl, ⟨t, rfl⟩, ⟨t', rfl⟩⟩ := vals2 r
 refine min_two_ints (I.ok.hd hc) fun h' tk k => ⟨_, H, I.kept k, ?_, q⟩
 by_cases hj : j < i
 ·rw [if_pos hj, if_pos hj]; exact ⟨_, rfl⟩
 ·rw [if_neg hj, if_neg hj]; exact ⟨_, rfl⟩
theorem call_int1 : CallR X (.type "int") (fun xs H Q => (∃ i, xs = [.int i] ∧ Q (.int i) H) ∨ ∃ k, xs = [.bl k] ∧ Q (.int (if k then 1 else 0)) H) := by
 walk_at "z5"
 rcases h with ⟨i, rfl, q⟩ | ⟨k, rfl, q⟩
 ·obtain ⟨u, rfl, t, rfl⟩ := vals1 r
  exact call_int_int ⟨.int i, H, I, ⟨_, rfl⟩, q⟩
 ·obtain ⟨u, rfl, r1⟩ := vals1 r
  cases r1
  exact call_int_bool ⟨.int (if k then 1 else 0), H, I.tok _, ⟨_, rfl⟩, q⟩
def LenV (K : PySem.W.Frag) (x : V) (H : Hp) (n : Nat) : Prop :=
 match x with
 | .str y => y.length ≤ sizeLine ∧ n = y.length
 | .byt y => y.size ≤ sizeLine ∧ n = y.size
 | .ref p => (∃ xs, SqL K H p xs ∧ n = xs.length) ∨ ∃ xs, SqT K H p xs ∧ n = xs.length
 | _ => False
theorem call_len : CallR X (.builtin "len") (fun xs H Q => ∃ x n, xs = [x] ∧ LenV X.K x H n ∧ Q (.int n) H) := by
 walk_at "z5"
 obtain ⟨x, n, rfl, e, q⟩ := h
 obtain ⟨u, rfl, rx⟩ := vals1 r
 have hl := line63
 have hs : sizeLine = 16777216 := sizeLine_eq
 cases x with
 | str y =>
   obtain ⟨t, rfl⟩ := rx
   obtain ⟨hy, e'⟩ : y.length ≤ sizeLine ∧ n = y.length := e
   subst e'
   exact len_str (by lia) ⟨.int _, H, I.tok _, ⟨_, rfl⟩, q⟩
 | byt y =>
   obtain ⟨t, rfl⟩ := rx
   obtain ⟨hy, e'⟩ : y.size ≤ sizeLine ∧ n = y.size := e
   subst e'
   exact PySem.W.len_bytes (by lia) ⟨.int _, H, I.tok _, ⟨_, rfl⟩, q⟩
 | ref p =>
   cases rx
   have e' : (∃ xs, SqL X.K H p xs ∧ n = xs.length) ∨ ∃ xs, SqT X.K H p xs ∧ n = xs.length := e
   rcases e' with ⟨xs, hx, e'⟩ | ⟨xs, hx, e'⟩
   ·subst e'
    obtain ⟨its, r', pl, hz⟩ := I.list hx
    have hlen := r'.length
    exact Calls.call_len_list pl.isList (by simp only [List.size_toArray]; lia) ⟨.int xs.length, H, I.tok _, ⟨_, by simp only [List.size_toArray]; rw [hlen]⟩, q⟩
   ·subst e'
    obtain ⟨its, r', pl, hz⟩ := I.tuple hx
    have hlen := r'.length
    exact len_tuple pl (by simp only [List.size_toArray]; lia) ⟨.int xs.length, H, I.tok _, ⟨_, by simp only [List.size_toArray]; rw [hlen]⟩, q⟩
 | _ => exact (show False from e).elim
end
end L2
namespace L2
open PySem PySem.Spec PyProof.Rows
structure ObjM (h : Heap) (x dx C : Addr) (mA : Str → Option Value) : Prop where
 obj : h.get? x = some (PySem.W.instObj C dx)
 ns : h.Ns1 dx mA
 ne : dx ≠ x
theorem lookIn_ns {h : Heap} {dx : Addr} {mA : Str → Option Value} (n : h.Ns1 dx mA) : ∃ od, h.get? dx = some od ∧ ∀ name, PySem.W.lookIn name od = some (mA name) := by
 obtain ⟨o, es, ep, ho, hd, hk, _, hm⟩ := n
 refine ⟨o, ho, fun name => ?_⟩
 have e := hm name
 unfold nsFind findBy at e
 rw [← Array.find?_toList] at e
 unfold PySem.W.lookIn
 rw [hd]
 dsimp only
 split
 ·rename_i y q
  rw [q] at e
  exact congrArg some e
 ·rename_i q
  rw [q] at e
  have a : es.toList.any (·.refKey) = false := by
   rw [List.any_eq_false]
   intro y hy
   obtain ⟨z, t, hkey⟩ := hk y (Array.mem_toList_iff.mp hy)
   simp [DictEntry.refKey, hkey]
  have a' : ¬ es.toList.any (·.refKey) = true := by rw [a]; exact Bool.false_ne_true
  rw [if_neg a']
  exact congrArg some e
theorem ObjM.look {h : Heap} {x dx C : Addr} {mA : Str → Option Value} (I : ObjM h x dx C mA) : ∃ od, PySem.W.InstAt h x (PySem.W.instObj C dx) C (some od) ∧ ∀ name, PySem.W.lookIn name od = some (mA name) :=
 let ⟨od, ho, hl⟩ := lookIn_ns I.ns
 ⟨od, ⟨I.obj, rfl, rfl, ho⟩, hl⟩
section
variable {prog : Program} {w : World} {A : Around} {E : Value → Shared → Prop} {s : Shared} {K : PySem.W.Frag} {x dx C f : Addr} {mA : Str → Option Value} {name : Str} {v : Value}
theorem set_map {ns : List Str} {Q : Unit → Shared → Prop} (X : K.In s.heap) (I : ObjM s.heap x dx C mA)
 (hs : PySem.W.findIn K (.ref C) "__setattr__" = some (some (.builtin "object.__setattr__"))) (hp : PySem.W.plainOver K C = true) (ht : PySem.W.takerIn K C name = some none) (hh : PySem.W.hasDictIn K C = true)
 (hw : PySem.Within mA ns) (hsz : ns.length ≤ sizeLine)
 (h : ∀ h', ObjM h' x dx C (fun y => if y = name then some v else mA y) → Heap.SameBut dx s.heap h' → Q () { s with heap := h', toks := s.toks + 2 }) :
 wpAny (model prog w) A (setAttr (.ref x) name v) Q E s := by
 obtain ⟨od, J, hl⟩ := I.look
 refine PySem.W.set_plain X J hs (PySem.W.osa_open (s := { s with toks := s.toks + 1 }) (r := none) X J hp ht fun b => ?_)
 obtain ⟨cd, hc, hd'⟩ := PySem.W.any_some hh
 have hx : s.heap.get? x = some ⟨.ref C, some dx, .plain, #[]⟩ := I.obj
 refine wpAny_bind (wpAny_pure (wpAny_bind (wpAny_bind (wpAny_loadPart hx (wpAny_bind (PySem.W.Looks.here (s := { s with toks := s.toks + 1 }) (PySem.W.looks_clsIn X hc) ?_))))))
 rw [hd']
 refine wpAny_pure (a := some dx) (wpAny_bind (wpAny_pure (wpAny_bind ?_)))
 refine wpAny_nsSet1 (s := { s with toks := s.toks + 1 }) I.ns fun h' hn2 hs2 => ?_
 obtain ⟨oD, esD, epD, hoD, hdD, hcD⟩ := hn2.count (PySem.Within.cons name v hw)
 refine wpAny_bind (wpAny_lookBehind hoD (by rw [hdD]; exact pastItsLine_dict (Nat.le_trans hcD (by rw [List.length_cons]; lia))) ?_)
 exact wpAny_pure (h _ ⟨(hs2.2 _ (Ne.symm I.ne)).trans I.obj, hn2, I.ne⟩ hs2)
theorem make_map {R : Result → Shared → Prop} {vs : List Value} {kw : List (Str × Value)} (X : K.In s.heap) (hm : PySem.W.makesIn K C = true)
 (hi : PySem.W.findIn K (.ref C) "__init__" = some (some (.ref f))) (hf : PySem.W.typeIn K (.ref f) = some (.type "function"))
 (h : codeAny (model prog w) (A.under (.builtin "type.__call__" ⟨.ref C :: vs, kw⟩)) (.call (.ref f) ⟨.ref (s.heap.objs.size + 1) :: vs, kw⟩) (PySem.W.InitBack (s.heap.objs.size + 1) R)
  { s with heap := (s.heap.push PySem.W.emptyDict).push (PySem.W.instObj C s.heap.objs.size) }) :
 codeAny (model prog w) A (.call (.ref C) ⟨vs, kw⟩) R s := by
 obtain ⟨hh, g, d, t, os⟩ := s
 exact PySem.W.make_core (PySem.W.makes_of X hm) (PySem.W.looks_findIn X hi) (fun self => PySem.W.bind_fn X self hf) (.inl rfl) h
end
def putF (f : Str) (v : V) : List (Str × V) → List (Str × V)
 | [] => [(f, v)]
 | (g, x) :: r => if g = f then (g, v) :: r else (g, x) :: putF f v r
theorem lookup_putF (f g : Str) (v : V) : ∀ fs : List (Str × V), (putF f v fs).lookup g = if g = f then some v else fs.lookup g
 | [] => by
   show List.lookup g [(f, v)] = _
   by_cases h : g = f
   ·have hb : (g == f) = true := beq_iff_eq.mpr h
    simp only [List.lookup, hb, if_pos h]
   ·have hb : (g == f) = false := beq_eq_false_iff_ne.mpr h
    simp only [List.lookup, hb, if_neg h]
 | (k, x) :: r => by
   have ih := lookup_putF f g v r
   rw [show putF f v ((k, x) :: r) = (if k = f then (k, v) :: r else (k, x) :: putF f v r) from rfl]
   by_cases hk : k = f
   ·rw [if_pos hk]
    by_cases h : g = k
    ·have hb : (g == k) = true := beq_iff_eq.mpr h
     simp only [List.lookup, hb, if_pos (h.trans hk)]
    ·have hb : (g == k) = false := beq_eq_false_iff_ne.mpr h
     simp only [List.lookup, hb, if_neg (fun e : g = f => h (e.trans hk.symm))]
   ·rw [if_neg hk]
    by_cases h : g = k
    ·have hb : (g == k) = true := beq_iff_eq.mpr h
     simp only [List.lookup, hb, if_neg (fun e : g = f => hk (h.symm.trans e))]
    ·have hb : (g == k) = false := beq_eq_false_iff_ne.mpr h
     simp only [List.lookup, hb]
     exact ih
theorem keys_putF (f : Str) (v : V) : ∀ fs : List (Str × V), f ∈ (putF f v fs).map (·.1) ∧ ∀ g, g ∈ fs.map (·.1) → g ∈ (putF f v fs).map (·.1)
 | [] => ⟨by simp [putF], fun g h => by simp at h⟩
 | (k, x) :: r => by
   obtain ⟨i1, i2⟩ := keys_putF f v r
   rw [show putF f v ((k, x) :: r) = (if k = f then (k, v) :: r else (k, x) :: putF f v r) from rfl]
   by_cases hk : k = f
   ·rw [if_pos hk]
    subst hk
    exact ⟨by simp, fun g h => by simpa using h⟩
   ·rw [if_neg hk]
    refine ⟨?_, fun g h => ?_⟩
    ·rw [List.map_cons]
     exact List.mem_cons_of_mem _ i1
    ·rw [List.map_cons] at h ⊢
     rcases List.mem_cons.mp h with e | e
     ·exact List.mem_cons.mpr (.inl e)
     ·exact List.mem_cons_of_mem _ (i2 g e)
theorem length_putF (f : Str) (v : V) : ∀ fs : List (Str × V), (putF f v fs).length ≤ fs.length + 1
 | [] => by simp [putF]
 | (k, x) :: r => by
   have ih := length_putF f v r
   rw [show putF f v ((k, x) :: r) = (if k = f then (k, v) :: r else (k, x) :: putF f v r) from rfl]
   by_cases hk : k = f
   ·rw [if_pos hk, List.length_cons, List.length_cons]; lia
   ·rw [if_neg hk, List.length_cons, List.length_cons]; lia
section
variable {P : Program} {w : World} {H H' : Hp} {h h' : Heap} {a C dx : Addr} {fs fs' : List (Str × V)}
theorem ins_get (hok : HOk P w H h) (e : H a = some (.ins C dx fs)) : ∃ mA, ObjM h a dx C mA ∧ (∀ f, RelO (fs.lookup f) (mA f)) ∧ PySem.Within mA (fs.map (·.1)) ∧ fs.length ≤ 1000 ∧ H dx = some (.own a) := by
 obtain ⟨d, z, ne, ob, mA, n, r, q⟩ := (show ObjOk P w H h a (.ins C dx fs) from hok a _ e)
 exact ⟨mA, ⟨ob, n, ne⟩, r, q, z, d⟩
end
structure Cls (K : PySem.W.Frag) (C : Addr) : Prop where
 pg : PySem.W.plainGet K C Str.empty = true
 hd : PySem.W.hasDictIn K C = true
 po : PySem.W.plainOver K C = true
 sa : PySem.W.findIn K (.ref C) "__setattr__" = some (some (.builtin "object.__setattr__"))
def NoAttr (K : PySem.W.Frag) (C : Addr) (f : Str) : Prop := PySem.W.findIn K (.ref C) f = some none
theorem NoAttr.taker {K : PySem.W.Frag} {C : Addr} {f : Str} (n : NoAttr K C f) : PySem.W.takerIn K C f = some none := by
 unfold PySem.W.takerIn
 rw [show PySem.W.findIn K (.ref C) f = some none from n]
 rfl
structure Con (K : PySem.W.Frag) (C : Addr) (f : Str) (v : V) (u : Value) : Prop where
 at_ : PySem.W.findIn K (.ref C) f = some (some u)
 rel : RelV v u
 get : PySem.W.specialIn K u "__get__" = some none
 cp : PySem.W.copiedNames.contains f = false
structure Meth (K : PySem.W.Frag) (C : Addr) (m : Str) (f : Addr) : Prop where
 at_ : PySem.W.findIn K (.ref C) m = some (some (.ref f))
 fn : PySem.W.isFn K (.ref f) = true
 kp : PySem.W.keepIn K (.ref f) = true
section
variable {X : Cx} {pins : List (Addr × Obj)} {σ : St} {H : Hp} {s : Shared} {a C dx : Addr} {fs : List (Str × V)} {f : Str} {v : V} {A : Around} {E : Value → Shared → Prop}
theorem setattr_ok {y : V} {u : Value} {Q : Unit → Shared → Prop} (I : Inv X pins σ H s) (e : H a = some (.ins C dx fs)) (c : Cls X.K C) (n : NoAttr X.K C f) (hl : fs.length < 1000) (ry : RelV y u)
 (h : ∀ s', Inv X pins σ (upd H a (.ins C dx (putF f y fs))) s' → Q () s') : wpAny (model X.prog X.w) A (setAttr (.ref a) f u) Q E s := by
 obtain ⟨mA, O, r, wi, _, ho⟩ := ins_get I.hok e
 have hz : (fs.map (·.1)).length ≤ sizeLine := by rw [List.length_map, sizeLine_eq]; lia
 refine set_map I.kIn O c.sa c.po n.taker c.hd wi hz fun h' O' sb => h _ ?_
 have hd : ∃ o, h'.get? dx = some o := let ⟨o, _, _, e', _⟩ := O'.ns; ⟨o, e'⟩
 refine I.write (x := a) (e := dx) (by rw [e]; exact True.intro) (.inr ho) (fun b q hb z => (sb.2 b hb).trans z) hd ?_
 refine ⟨by rw [upd_ne O.ne]; exact ho, ?_, O.ne, O'.obj, _, O'.ns, fun g => ?_, fun g hg => ?_⟩
 ·have := length_putF f y fs; lia
 ·show RelO ((putF f y fs).lookup g) (if g = f then some u else mA g)
  rw [lookup_putF]
  by_cases q : g = f
  ·rw [if_pos q, if_pos q]; exact ry
  ·rw [if_neg q, if_neg q]; exact r g
 ·by_cases q : g = f
  ·rw [q]; exact (keys_putF f y fs).1
  ·refine (keys_putF f y fs).2 g (wi g fun z => hg ?_)
   show (if g = f then some u else mA g) = none
   rw [if_neg q]; exact z
theorem Inv.made (I : Inv X pins σ H s) : Inv X pins σ (upd (upd H s.heap.objs.size (.own (s.heap.objs.size + 1))) (s.heap.objs.size + 1) (.ins C s.heap.objs.size []))
 { s with heap := (s.heap.push PySem.W.emptyDict).push (PySem.W.instObj C s.heap.objs.size) } := by
 have e1 : (s.heap.push PySem.W.emptyDict).get? s.heap.objs.size = some PySem.W.emptyDict := Heap.get?_push_size s.heap rfl
 have e2 : ((s.heap.push PySem.W.emptyDict).push (PySem.W.instObj C s.heap.objs.size)).get? (s.heap.objs.size + 1) = some (PySem.W.instObj C s.heap.objs.size) := by
  have := Heap.get?_push_size (s.heap.push PySem.W.emptyDict) (o := PySem.W.instObj C s.heap.objs.size) rfl
  rwa [Heap.size_push] at this
 have e3 : (s.heap.push PySem.W.emptyDict).Ns s.heap.objs.size (fun _ => none) := ⟨PySem.W.emptyDict, #[], _, e1, rfl, (fun e he => absurd he (by simp)), fun _ => rfl⟩
 have I1 := I.laid (a := s.heap.objs.size) (o := .own (s.heap.objs.size + 1)) (h' := s.heap.push PySem.W.emptyDict) (t' := s.toks) (fun b u q => Heap.get?_push_of_some _ q) (Nat.le_refl _) ⟨_, e1⟩
 refine I1.laid (a := s.heap.objs.size + 1) (o := .ins C s.heap.objs.size []) (t' := s.toks) (fun b u q => Heap.get?_push_of_some _ q) (Nat.le_of_eq (Heap.size_push _ _)) ?_
 have ne : s.heap.objs.size ≠ s.heap.objs.size + 1 := Nat.ne_of_lt (Nat.lt_succ_self _)
 refine ⟨by rw [upd_ne ne, upd_same], Nat.zero_le _, ne, e2, fun _ => none, (Heap.Ns1.of_empty e3).at fun o q => Heap.get?_push_of_some _ q, fun _ => True.intro, fun y hy => absurd rfl hy⟩
end
def tFld (K : PySem.W.Frag) (ta : TE) (f : Str) : TE := fun σ H Q => ta σ H fun x H1 => ∃ a C dx fs v, x = .ref a ∧ H1 a = some (.ins C dx fs) ∧ Cls K C ∧ NoAttr K C f ∧ fs.lookup f = some v ∧ Q v H1
def sFld (K : PySem.W.Frag) (ta tv : TE) (f : Str) : TS := fun D σ H => tv σ H fun y H1 => ta σ H1 fun x H2 => ∃ a C dx fs, x = .ref a ∧ H2 a = some (.ins C dx fs) ∧ Cls K C ∧ NoAttr K C f ∧ fs.length < 1000 ∧
 D.nx σ (upd H2 a (.ins C dx (putF f y fs)))
section
variable {X : Cx} {o e value : Expr} {f : Str} {pos pos' tpos : Pos} {ta tv : TE}
theorem ps_fld (ha : PE X o ta) (hv : PE X value tv) (hs : swapsWith value (some (.Attribute o f pos')) pos.line X.env = pure false) : PS X (.Assign [.Attribute o f pos'] value pos) (sFld X.K ta tv f) := by
 intro pins s σ H D I h
 refine plainObj_wpAny_Assign_Attribute (thn (hv pins s σ H _ I h) fun u s1 ⟨y, H1, I1, ry, q⟩ => thn (ha pins s1 σ H1 _ I1 q) fun ov s2 ⟨x, H2, I2, rx, a, C, dx, fs, ex, ea, c, n, l, q2⟩ => ?_) hs
 subst ex
 obtain rfl : ov = Value.ref a := rx
 exact setattr_ok I2 ea c n l ry fun s3 I3 => ⟨σ, _, I3, q2⟩
end
section
variable {X : Cx} {pins : List (Addr × Obj)} {σ : St} {H : Hp} {s : Shared} {A : Around} {E : Value → Shared → Prop} {Q : Value → Shared → Prop} {c : Value} {b : Bool}
inductive TyOf (K : PySem.W.Frag) (H : Hp) : V → Value → Prop where
 | non : TyOf K H .non (.type "NoneType")
 | bl (x : Bool) : TyOf K H (.bl x) (.type "bool")
 | int (i : Int) : TyOf K H (.int i) (.type "int")
 | str (x : Str) : TyOf K H (.str x) (.type "str")
 | flt (x : UInt64) : TyOf K H (.flt x) (.type "float")
 | lst {a : Addr} {xs : List V} (e : H a = some (.lst xs)) : TyOf K H (.ref a) (.type "list")
 | frz {a : Addr} {o : Obj} {xs : List V} (e : H a = some (.frz o (.lst xs))) : TyOf K H (.ref a) (.type "list")
 | tup {a : Addr} {xs : List V} (e : H a = some (.tup xs)) : TyOf K H (.ref a) (.type "tuple")
 | dK {a : Addr} {kvs : List (Key × V)} (e : H a = some (.dK kvs)) : TyOf K H (.ref a) (.type "dict")
 | dT {a : Addr} {kvs : List (List Key × V)} (e : H a = some (.dT kvs)) : TyOf K H (.ref a) (.type "dict")
 | ins {a C dx : Addr} {fs : List (Str × V)} (e : H a = some (.ins C dx fs)) (cl : Cls K C) (ha : PySem.W.findIn K (.ref C) "__class__" = some (some (.builtin "object.__class__")))
  (hn : PySem.W.specialIn K (.builtin "object.__class__") "__get__" = some (some (.builtin "getset_descriptor.__get__"))) (htk : PySem.W.takesIn K (.builtin "object.__class__") = some true)
  (hm : PySem.W.mroIn K C (.type "object") = some true) : TyOf K H (.ref a) (.ref C)
end
end L2
namespace L2
open PySem PySem.Spec PyProof.Rows
structure Room (k : Nat) (A : Around) : Prop where
 hd : A.handled = none
 dp : A.depth + 3 * k + 5 < recursionLimit
 un : A.units + 16 * k + 200 < cLine
theorem Room.mono {j k : Nat} {A : Around} (r : Room k A) (h : j ≤ k) : Room j A := ⟨r.hd, by have := r.dp; lia, by have := r.un; lia⟩
theorem Room.deeper {k : Nat} {A : Around} (r : Room (k + 1) A) (env : Env) : Room k (A.deeper env) :=
 ⟨r.hd, by have := r.dp; show A.depth + 1 + 3 * k + 5 < _; lia, by have := r.un; show A.units + 3 + 16 * k + 200 < _; lia⟩
theorem make_depth {A : Around} {C : Addr} {us : List Value} {kw : List (Str × Value)} : (A.under (.builtin "type.__call__" ⟨.ref C :: us, kw⟩)).depth = A.depth + 1 := by
 first | rfl | simp [Around.under, Code.weight, Code.isCreation, Code.isGuard, Code.isCaller, Code.frames, Code.isFrame, guardIds]
theorem make_units {A : Around} {C : Addr} {us : List Value} {kw : List (Str × Value)} : (A.under (.builtin "type.__call__" ⟨.ref C :: us, kw⟩)).units = A.units + 1 := by
 first | rfl | simp [Around.under, Code.cUnits, Code.frames, Code.isFrame]
theorem Room.make {k : Nat} {A : Around} (r : Room (k + 1) A) (C : Addr) (us : List Value) (kw : List (Str × Value)) : Room k (A.under (.builtin "type.__call__" ⟨.ref C :: us, kw⟩)) :=
 ⟨r.hd, by have := r.dp; rw [make_depth]; lia, by have := r.un; rw [make_units]; lia⟩
theorem Room.depth {k : Nat} {A : Around} (r : Room k A) : A.depth < recursionLimit := by have := r.dp; lia
theorem Room.units {k : Nat} {A : Around} (r : Room k A) : A.units + 64 < cLine := by have := r.un; lia
def tNil : TA := fun _ H Q => Q [] H
def tCons (ta : TE) (tr : TA) : TA := fun σ H Q => ta σ H fun x H1 => tr σ H1 fun xs H2 => Q (x :: xs) H2
section
variable {X : Cx} {e : Expr} {es : List Expr} {te : TE} {t : TA} {pos : Pos}
theorem pa_nil : PA X [] tNil := fun _ _ _ _ H Q I h => Calls.spliced_nil ⟨[], H, I, .nil, h⟩
theorem pa_cons (ha : PE X e te) (hr : PA X es t) (hs : starEach (e :: es) X.env = (false, eval e X.env) :: starEach es X.env := by rfl) : PA X (e :: es) (tCons te t) := by
 intro pos pins s σ H Q I h
 rw [hs]
 show wpAny _ _ (spliced ((false, eval e X.env) :: backTo pos (starEach es X.env))) _ _ s
 refine Calls.spliced_cons (thn (ha pins s σ H _ I h) fun u s1 ⟨x, H1, I1, r1, q1⟩ => ?_)
 exact thn (hr pos pins s1 σ H1 _ I1 q1) fun us s2 ⟨xs, H2, I2, r2, q2⟩ => ⟨x :: xs, H2, I2, .cons r1 r2, q2⟩
def tTup (t : TA) : TE := fun σ H Q => t σ H fun xs H1 => xs.length ≤ sizeLine ∧ ∀ p, H1 p = none → Q (.ref p) (upd H1 p (.tup xs))
def tLst (t : TA) : TE := fun σ H Q => t σ H fun xs H1 => xs.length ≤ sizeLine ∧ ∀ p, H1 p = none → Q (.ref p) (upd H1 p (.lst xs))
theorem pe_tup {x1} (h : PA X es t) : PE X (.Tuple es x1 pos) (tTup t) := by
 intro pins s σ H Q I hq
 refine wpAny_Tuple_spliced (thn (h pos pins s σ H _ I hq) fun us s1 ⟨xs, H1, I1, r, z, q⟩ => ⟨by rw [← r.length]; exact z, ?_⟩)
 have hf : H1 s1.heap.objs.size = none := I1.hok.fresh (Nat.le_refl _)
 refine ⟨.ref s1.heap.objs.size, upd H1 s1.heap.objs.size (.tup xs), I1.laid (t' := s1.toks) (fun b u e => Heap.get?_push_of_some _ e) (Nat.le_refl _) ?_, rfl, q _ hf⟩
 exact ⟨z, us, r, ⟨_, Heap.get?_push_size _ rfl, rfl, _, rfl⟩⟩
theorem pe_lst (h : PA X es t) : PE X (.List es pos) (tLst t) := by
 intro pins s σ H Q I hq
 refine wpAny_List_spliced (thn (h pos pins s σ H _ I hq) fun us s1 ⟨xs, H1, I1, r, z, q⟩ => ⟨by rw [← r.length]; exact z, ?_⟩)
 have hf : H1 s1.heap.objs.size = none := I1.hok.fresh (Nat.le_refl _)
 refine ⟨.ref s1.heap.objs.size, upd H1 s1.heap.objs.size (.lst xs), I1.laid (t' := s1.toks) (fun b u e => Heap.get?_push_of_some _ e) (Nat.le_refl _) ?_, rfl, q _ hf⟩
 exact ⟨z, us, 0, r, Heap.get?_push_size _ rfl⟩
end
abbrev Sp := List V → Hp → VK → XK → Prop
abbrev CXT := List Env → Hp → Shared → XK → Value → Shared → Prop
structure Env0 (P : Program) (w : World) (K : PySem.W.Frag) (mg : Str → Option Value) (base : Heap) (A : Around) (outer : List Env) (s : Shared) (H : Hp) : Prop where
 frames : A.frames = some outer
 mod : Mod K mg base
 bs : ∀ b o, base.get? b = some o → s.heap.get? b = some o ∧ H b = none
 bsz : base.objs.size ≤ s.heap.objs.size
 funs : s.heap.FunFrames base outer
 frf : ∀ b ∈ frs outer, H b = none
 hok : HOk P w H s.heap
 bare : AllBare s.gens
def CE (outer : List Env) (P : Program) (w : World) (H : Hp) (s : Shared) (Q : VK) (u : Value) (s' : Shared) : Prop :=
 ∃ v H', s'.os = s.os ∧ AllBare s'.gens ∧ Un (frs outer) [] H H' s.heap s'.heap ∧ HOk P w H' s'.heap ∧ RelV v u ∧ Q v H'
def CR (CX : CXT) (outer : List Env) (P : Program) (w : World) (H : Hp) (s : Shared) (Q : VK) (E : XK) (r : Result) (s' : Shared) : Prop :=
 match r with
 | .ok (.ret u) => CE outer P w H s Q u s'
 | .ok _ => False
 | .error e => CX outer H s E e s'
structure FnOk (P : Program) (w : World) (K : PySem.W.Frag) (mg : Str → Option Value) (base : Heap) (CX : CXT) (k : Nat) (f : Addr) (fd : FuncData) (ps : List Str) (sp : Sp) : Prop where
 len : ∀ vs H Q E, sp vs H Q E → vs.length = ps.length
 run : ∀ (A : Around) (outer : List Env) (s : Shared) (H : Hp) (args : Args) (us : List Value) (vs : List V) (Q : VK) (E : XK), Room k A → Env0 P w K mg base A outer s H → BindsTo s fd args (ps.zip us) → Vals vs us → sp vs H Q E →
  codeAny (model P w) A (.call (.ref f) args) (CR CX outer P w H s Q E) s
theorem Env0.make {P : Program} {w : World} {K : PySem.W.Frag} {mg : Str → Option Value} {base : Heap} {A : Around} {outer : List Env} {s : Shared} {H : Hp} (e : Env0 P w K mg base A outer s H) (C : Addr) (us : List Value) (kw : List (Str × Value)) :
 Env0 P w K mg base (A.under (.builtin "type.__call__" ⟨.ref C :: us, kw⟩)) outer s H := ⟨by first | exact e.frames | (simpa [Around.under, Code.envs, Code.isFrame, pushEnvs] using e.frames), e.mod, e.bs, e.bsz, e.funs, e.frf, e.hok, e.bare⟩
section
variable {X : Cx} {pins : List (Addr × Obj)} {σ : St} {H : Hp} {s s' : Shared}
theorem Inv.env0 (I : Inv X pins σ H s) : Env0 X.prog X.w X.K X.mg X.base X.A X.stack s H :=
 ⟨I.ok.frames, I.ok.mod, I.bs, Nat.le_trans I.ok.bsz I.sz, I.stack, I.stkFree, I.hok, I.bare⟩
theorem Inv.after {Q : VK} {u : Value} (I : Inv X pins σ H s) (h : CE X.stack X.prog X.w H s Q u s') : EP X pins σ Q u s' := by
 obtain ⟨v, H', os, bare, un, hok, r, q⟩ := h
 obtain ⟨hh, g, d, t, os'⟩ := s'
 obtain rfl : os' = s.os := os
 exact ⟨v, H', I.call (h' := hh) (g' := g) (d' := d) (t' := t) (ch := []) un hok bare (fun b z => absurd z (by simp)), r, q⟩
end
def tCall (sp : Sp) (dvs : List V) (E : XK) (t : TA) : TE := fun σ H Q => t σ H fun vs H1 => sp (vs ++ dvs) H1 Q E
def tMeth (C : Addr) (m : Str) (sp : Sp) (dvs : List V) (E : XK) (ta : TE) (t : TA) : TE := fun σ H Q => ta σ H fun x H1 => ∃ a dx fs, x = .ref a ∧ H1 a = some (.ins C dx fs) ∧ fs.lookup m = none ∧
 t σ H1 fun vs H2 => sp (x :: (vs ++ dvs)) H2 Q E
def tMake (C : Addr) (sp : Sp) (dvs : List V) (E : XK) (t : TA) : TE := fun σ H Q => t σ H fun vs H1 => ∀ x dx, H1 x = none → H1 dx = none → dx ≠ x →
 sp (.ref x :: (vs ++ dvs)) (upd (upd H1 dx (.own x)) x (.ins C dx [])) (fun v H2 => v = .non ∧ Q (.ref x) H2) E
def Binds (K : PySem.W.Frag) (fd : FuncData) (ps : List Str) (ds : List Value) : Prop :=
 ∀ (s : Shared) (us : List Value), K.In s.heap → (us ++ ds).length = ps.length → BindsTo s fd ⟨us, []⟩ (ps.zip (us ++ ds))
theorem Binds.all {K : PySem.W.Frag} {fd : FuncData} {ps : List Str} (h : ∀ us : List Value, us.length = ps.length → bindArgs fd ⟨us, []⟩ = pure (ps.zip us)) : Binds K fd ps [] := fun s us _ hl => by
 rw [List.append_nil] at hl ⊢
 exact .of_eq (h us hl)
def Passes (CX : CXT) (X : Cx) (E : XK) : Prop := ∀ (pins : List (Addr × Obj)) (σ : St) (H : Hp) (s : Shared) (e : Value) (s' : Shared), Inv X pins σ H s → CX X.stack H s E e s' → X.xe e s'
section
variable {X : Cx} {CX : CXT} {k : Nat} {f C : Addr} {fd : FuncData} {ps : List Str} {sp : Sp} {dvs : List V} {ds : List Value} {E : XK} {x m : Str} {p pos apos : Pos} {e o : Expr} {es : List Expr} {ta : TE} {t : TA}
theorem run_fn {pins : List (Addr × Obj)} {σ : St} {H : Hp} {s : Shared} {Q : VK} {us : List Value} {vs : List V} (F : FnOk X.prog X.w X.K X.mg X.base CX k f fd ps sp) (hr : Room k X.A) (hb : Binds X.K fd ps ds) (hd : Vals dvs ds) (hx : Passes CX X E)
 (I : Inv X pins σ H s) (r : Vals vs us) (h : sp (vs ++ dvs) H Q E) : wpAny (model X.prog X.w) X.A (call (.ref f) us) (EP X pins σ Q) X.xe s := by
 have r2 : Vals (vs ++ dvs) (us ++ ds) := r.append hd
 have hl : (us ++ ds).length = ps.length := by rw [← r2.length]; exact F.len _ _ _ _ h
 refine wpAny_call (codeAny_mono (F.run X.A X.stack s H ⟨us, []⟩ (us ++ ds) (vs ++ dvs) Q E hr I.env0 (hb s us I.kIn hl) r2 h) fun r s' hq => ?_)
 cases r with
 | error e => exact hx pins σ H s e s' I hq
 | ok fl =>
   cases fl with
   | ret u => exact I.after hq
   | next => exact False.elim hq
   | brk => exact False.elim hq
   | cont => exact False.elim hq
theorem pe_call (F : FnOk X.prog X.w X.K X.mg X.base CX k f fd ps sp) (hr : Room k X.A) (hg : Gl X x) (hm : X.mg x = some (.ref f)) (hk : PySem.W.keepIn X.K (.ref f) = true) (hb : Binds X.K fd ps ds) (hd : Vals dvs ds) (hx : Passes CX X E)
 (ha : PA X (e :: es) t) (hdb : (x == ("__debug__" : Str)) = false := by decide) (he : starEach (e :: es) X.env = (false, eval e X.env) :: starEach es X.env := by rfl) (hpl : (backTo pos (starEach es X.env)).any (·.1) = false := by rfl) :
 PE X (.Call (.Name x p) (e :: es) [] pos) (tCall sp dvs E t) := by
 walk_at "z0"
 refine wpAny_Call_Name_kw (ld_glob I hg hm ?_ hdb)
 walk_at "z3"
 exact run_fn F hr hb hd hx I1 r q
structure Mk (K : PySem.W.Frag) (C f : Addr) : Prop where
 makes : PySem.W.makesIn K C = true
 init : PySem.W.findIn K (.ref C) "__init__" = some (some (.ref f))
 fn : PySem.W.isFn K (.ref f) = true
 kp : PySem.W.keepIn K (.ref C) = true
theorem run_make {pins : List (Addr × Obj)} {σ : St} {H : Hp} {s : Shared} {Q : VK} {us : List Value} {vs : List V} (M : Mk X.K C f) (F : FnOk X.prog X.w X.K X.mg X.base CX k f fd ps sp) (hr : Room (k + 1) X.A) (hb : Binds X.K fd ps ds) (hd : Vals dvs ds)
 (hx : Passes CX X E) (I : Inv X pins σ H s) (r : Vals vs us)
 (h : ∀ x dx, H x = none → H dx = none → dx ≠ x → sp (.ref x :: (vs ++ dvs)) (upd (upd H dx (.own x)) x (.ins C dx [])) (fun v H2 => v = .non ∧ Q (.ref x) H2) E) :
 wpAny (model X.prog X.w) X.A (call (.ref C) us) (EP X pins σ Q) X.xe s := by
 have hq := h (s.heap.objs.size + 1) s.heap.objs.size (I.hok.fresh (Nat.le_succ _)) (I.hok.fresh (Nat.le_refl _)) (Nat.ne_of_lt (Nat.lt_succ_self _))
 have I2 := Inv.made (C := C) I
 have r2 : Vals (V.ref (s.heap.objs.size + 1) :: (vs ++ dvs)) (Value.ref (s.heap.objs.size + 1) :: (us ++ ds)) := .cons rfl (r.append hd)
 have hl : (Value.ref (s.heap.objs.size + 1) :: us ++ ds).length = ps.length := by
  have e := r2.length
  rw [F.len _ _ _ _ hq] at e
  exact e.symm
 refine wpAny_call (make_map (f := f) I.kIn M.makes M.init (beq_iff_eq.mp M.fn) (codeAny_mono (F.run _ X.stack _ _ ⟨Value.ref (s.heap.objs.size + 1) :: us, []⟩ (Value.ref (s.heap.objs.size + 1) :: (us ++ ds)) _ _ E (hr.make C us [])
  (I2.env0.make C us []) (hb _ (Value.ref (s.heap.objs.size + 1) :: us) I2.kIn hl) r2 hq) fun r s' hq' => ?_))
 cases r with
 | error e => exact hx pins σ _ _ e s' I2 hq'
 | ok fl =>
   cases fl with
   | ret u =>
     obtain ⟨v, H', I3, rv, ev, q3⟩ := I2.after hq'
     subst ev
     exact ⟨rv, ⟨V.ref (s.heap.objs.size + 1), H', I3, rfl, q3⟩⟩
   | next => exact False.elim hq'
   | brk => exact False.elim hq'
   | cont => exact False.elim hq'
theorem pe_make (M : Mk X.K C f) (F : FnOk X.prog X.w X.K X.mg X.base CX k f fd ps sp) (hr : Room (k + 1) X.A) (hg : Gl X x) (hm : X.mg x = some (.ref C)) (hb : Binds X.K fd ps ds) (hd : Vals dvs ds) (hx : Passes CX X E)
 (ha : PA X (e :: es) t) (hdb : (x == ("__debug__" : Str)) = false := by decide) (he : starEach (e :: es) X.env = (false, eval e X.env) :: starEach es X.env := by rfl) (hpl : (backTo pos (starEach es X.env)).any (·.1) = false := by rfl) :
 PE X (.Call (.Name x p) (e :: es) [] pos) (tMake C sp dvs E t) := by
 walk_at "z0"
 refine wpAny_Call_Name_kw (ld_glob I hg hm ?_ hdb)
 refine PySem.W.callWith_K (h₀ := X.base) I.ok.mod.kin M.kp (thn (ha pos pins s σ H _ I h) fun us s1 ⟨vs, H1, I1, r, q⟩ => ⟨I1.kIn, ?_⟩) he hpl
 exact run_make M F hr hb hd hx I1 r q
end
section
variable {X : Cx} {CX : CXT} {k : Nat} {f C : Addr} {fd : FuncData} {ps ks : List Str} {sp : Sp} {E : XK} {x m : Str} {p pos apos kpos : Pos} {e o : Expr} {es : List Expr} {kws : List Keyword} {te ta : TE} {t tk : TA} {nm : Option Str}
structure KBinds (K : PySem.W.Frag) (fd : FuncData) (ps ks : List Str) (g : List Value → List Value → List Value) (gV : List V → List V → List V) : Prop where
 to : ∀ (s : Shared) (us ws : List Value), K.In s.heap → (g us ws).length = ps.length → BindsTo s fd ⟨us, ks.zip ws⟩ (ps.zip (g us ws))
 rel : ∀ {vs : List V} {us : List Value} {zs : List V} {ws : List Value}, Vals vs us → Vals zs ws → Vals (gV vs zs) (g us ws)
variable {g : List Value → List Value → List Value} {gV : List V → List V → List V}
end
structure FnScope (N P : List Str) (sc : Scope) : Prop where
 kind : sc.kind = .function
 co : sc.isCoroutine = false
 gen : sc.isGenerator = false
 nd : N.Nodup
 pre : N.take P.length = P
 par : ∀ x ∈ P, sc.names.lookup x = some .local ∨ sc.names.lookup x = some .cell
 nofree : ∀ y ∈ sc.names, y.2 ≠ .free
theorem bindL_out {kindOf : Str → Option NameKind} {x : Str} : ∀ {binds : List (Str × Value)} {m : Str → Option Value}, (∀ v, (x, v) ∉ binds) → bindL kindOf binds m x = m x
 | [], _, _ => rfl
 | (n, v) :: r, m, h => by
   unfold bindL
   rw [bindL_out fun w hw => h w (List.mem_cons_of_mem _ hw)]
   split
   ·have : x ≠ n := by rintro rfl; exact h v List.mem_cons_self
    simp [this]
   ·rfl
theorem bindC_out {kindOf : Str → Option NameKind} {x : Str} : ∀ {binds : List (Str × Value)} {m : Str → Option Value}, (∀ v, (x, v) ∉ binds) → bindC kindOf binds m x = m x
 | [], _, _ => rfl
 | (n, v) :: r, m, h => by
   unfold bindC
   rw [bindC_out fun w hw => h w (List.mem_cons_of_mem _ hw)]
   split
   ·rfl
   ·have : x ≠ n := by rintro rfl; exact h v List.mem_cons_self
    simp [this]
theorem bindL_get {kindOf : Str → Option NameKind} {x : Str} {v : Value} : ∀ {P : List Str} {vs : List Value} {i : Nat} {m : Str → Option Value}, P.Nodup → P[i]? = some x → vs[i]? = some v → kindOf x = some .local →
 bindL kindOf (P.zip vs) m x = some v
 | [], _, _, _, _, h, _, _ => by simp at h
 | _ :: _, [], _, _, _, _, h, _ => by simp at h
 | p :: P, w :: vs, 0, m, nd, h1, h2, hk => by
   simp at h1 h2; subst h1; subst h2
   show bindL kindOf ((p, w) :: P.zip vs) m p = _
   unfold bindL
   rw [bindL_out fun v hv => (List.nodup_cons.mp nd).1 (List.of_mem_zip hv).1, if_pos hk]
   simp
 | p :: P, w :: vs, i + 1, m, nd, h1, h2, hk => by
   show bindL kindOf ((p, w) :: P.zip vs) m x = _
   unfold bindL
   exact bindL_get (i := i) (List.nodup_cons.mp nd).2 (by simpa using h1) (by simpa using h2) hk
theorem bindC_get {kindOf : Str → Option NameKind} {x : Str} {v : Value} : ∀ {P : List Str} {vs : List Value} {i : Nat} {m : Str → Option Value}, P.Nodup → P[i]? = some x → vs[i]? = some v → kindOf x ≠ some .local →
 bindC kindOf (P.zip vs) m x = some v
 | [], _, _, _, _, h, _, _ => by simp at h
 | _ :: _, [], _, _, _, _, h, _ => by simp at h
 | p :: P, w :: vs, 0, m, nd, h1, h2, hk => by
   simp at h1 h2; subst h1; subst h2
   show bindC kindOf ((p, w) :: P.zip vs) m p = _
   unfold bindC
   rw [bindC_out fun v hv => (List.nodup_cons.mp nd).1 (List.of_mem_zip hv).1, if_neg hk]
   simp
 | p :: P, w :: vs, i + 1, m, nd, h1, h2, hk => by
   show bindC kindOf ((p, w) :: P.zip vs) m x = _
   unfold bindC
   exact bindC_get (i := i) (List.nodup_cons.mp nd).2 (by simpa using h1) (by simpa using h2) hk
def start (N : List Str) (vs : List V) : St := vs.map some ++ List.replicate (N.length - vs.length) none
def cxOf (CX : CXT) (P : Program) (w : World) (K : PySem.W.Frag) (mg : Str → Option Value) (base : Heap) (N : List Str) (qual : Str) (scope : Scope) (f : Addr) (cd : Value) (A : Around) (outer : List Env) (s : Shared) (H : Hp) (E : XK) : Cx where
 prog := P
 w := w
 K := K
 mg := mg
 base := base
 A := A.deeper (envOfC qual scope s.heap.objs.size f cd)
 N := N
 s₀ := s
 H₀ := H
 env := envOfC qual scope s.heap.objs.size f cd
 outer := outer
 stack := envOfC qual scope s.heap.objs.size f cd :: outer
 ex := []
 calm := true
 fn := fun _ => true
 pn := []
 xe := fun e s' => wpAny (model P w) (A.deeper (envOfC qual scope s.heap.objs.size f cd)) (leaving (envOfC qual scope s.heap.objs.size f cd) e) (fun _ s'' => CX outer H s E e s'') (fun e' s'' => CX outer H s E e' s'') s'
theorem cell_has {sc : Scope} {n : Nat} {x : Str} (h : sc.names.lookup x = some .cell) : ∃ c, (cellsFrom n sc.names []).lookup x = some c := by
 have q := PySem.W.cellsFrom_some sc.names n [] (.inl h)
 exact Option.isSome_iff_exists.mp q
theorem inv_start {CX : CXT} {P : Program} {w : World} {K : PySem.W.Frag} {mg : Str → Option Value} {base : Heap} {N ps : List Str} {qual : Str} {scope : Scope} {f : Addr} {cd : Value} {A : Around} {outer : List Env} {s s1 : Shared} {H : Hp} {E : XK} {us : List Value} {vs : List V}
 (S : FnScope N ps scope) (hd : A.handled = none) (e0 : Env0 P w K mg base A outer s H) (hl : vs.length = ps.length) (r : Vals vs us)
 (x : InCallC s s.heap.objs.size (bindL (envOfC qual scope s.heap.objs.size f cd).kindOf (ps.zip us) fun _ => none) (cellsFrom (s.heap.objs.size + 1) scope.names []) (bindC (envOfC qual scope s.heap.objs.size f cd).kindOf (ps.zip us) fun _ => none) s1) :
 Inv (cxOf CX P w K mg base N qual scope f cd A outer s H E) [] (start N vs) H s1 := by
 have hpl : ps.length ≤ N.length := by have := congrArg List.length S.pre; rw [List.length_take] at this; lia
 obtain ⟨h1, tk, rfl, hk⟩ := x.done
 have noA : ∀ b : Addr, b ∉ (cxOf CX P w K mg base N qual scope f cd A outer s H E).ex := fun b z => absurd (show b ∈ ([] : List Addr) from z) (by simp)
 refine ⟨⟨e0.mod, S.kind, rfl, rfl, Nat.le_refl _, fun y z c h1 h2 => ?_, fun y hy => ?_, fun y c _ h => ?_, fun _ => hd, Around.frames_deeper e0.frames, .inr ⟨rfl, rfl⟩, fun b z => absurd z (noA b), e0.bs, e0.bsz, fun b _ _ => noA b, fun b z => absurd z (noA b), e0.funs, e0.frf⟩,
  rfl, e0.bare, Un.kept hk, ⟨_, x.toInCall.ns, fun i y v h1 h2 h3 => ?_⟩, fun y c h => ⟨_, x.cell y c h⟩, e0.hok.fresh (Nat.le_refl _), fun y c h => ?_, fun p hp => absurd (show p ∈ ([] : List (Addr × Obj)) from hp) (by simp), e0.hok.kept hk, ?_⟩
 ·exact name_of_addr x.apart (PySem.mem_of_lookup h1) (PySem.mem_of_lookup h2)
 ·have hy : scope.names.lookup y = some .cell ∨ scope.names.lookup y = some .free := hy
  rcases hy with hy | hy
  ·exact cell_has hy
  ·exact absurd rfl (S.nofree _ (PySem.mem_of_lookup hy))
 ·exact Nat.le_of_lt (x.above y c (PySem.mem_of_lookup h))
 ·have hi : i < vs.length := by
   unfold start at h2
   by_cases hi : i < vs.length
   ·exact hi
   ·rw [List.getElem?_append_right (by simpa using hi)] at h2
    rw [List.getElem?_replicate] at h2
    split at h2 <;> cases h2
  have ha : vs[i]? = some v := by
   unfold start at h2
   rw [List.getElem?_append_left (by simpa using hi), List.getElem?_map] at h2
   cases e : vs[i]? with
   | none => rw [e] at h2; cases h2
   | some a => rw [e] at h2; cases h2; rfl
  obtain ⟨u, hu, rv⟩ := r.get ha
  have hp : ps[i]? = some y := by
   rw [← S.pre, List.getElem?_take_of_lt (by lia)]; exact h1
  have ndP : ps.Nodup := by rw [← S.pre]; exact S.nd.sublist (List.take_sublist _ _)
  refine ⟨u, rv, ?_⟩
  rcases S.par y (List.mem_of_getElem? hp) with k | k
  ·exact .inl ⟨k, bindL_get ndP hp hu k⟩
  ·obtain ⟨c, e⟩ := cell_has (n := s.heap.objs.size + 1) k
   refine .inr ⟨.inl k, c, e, ?_⟩
   have q := x.cell y c e
   rw [bindC_get ndP hp hu (by show scope.names.lookup y ≠ _; rw [k]; decide)] at q
   exact q
 ·exact e0.hok.fresh (Nat.le_of_lt (x.above y c (PySem.mem_of_lookup h)))
 ·unfold start
  show _ = N.length
  rw [List.length_append, List.length_map, List.length_replicate]
  lia
theorem fn_of {CX : CXT} {P : Program} {w : World} {K : PySem.W.Frag} {mg : Str → Option Value} {base : Heap} {k : Nat} {f : Addr} {name qual : Str} {params : Arguments} {body : List Stmt} {scope : Scope} {dV kV doc pm cdv ct oc : Value} {an od : Option Addr}
 {osl : Array (Option Value)} {N ps : List Str} {sp : Sp} (lk : K.lookup f = some ⟨oc, od, .func (PySem.W.fnOf name qual params body scope dV kV doc pm an cdv ct), osl⟩) (hcd : PySem.W.codeIn K cdv qual = true) (S : FnScope N ps scope)
 (len : ∀ vs H Q E, sp vs H Q E → vs.length = ps.length)
 (hbody : ∀ (A : Around) (outer : List Env) (s : Shared) (H : Hp) (vs : List V) (Q : VK) (E : XK), Room k (A.deeper (envOfC qual scope s.heap.objs.size f cdv)) → sp vs H Q E →
  ∃ t, PSs (cxOf CX P w K mg base N qual scope f cdv A outer s H E) body t ∧ t { nx := fun _ H' => Q .non H', rt := Q } (start N vs) H) :
 FnOk P w K mg base CX (k + 1) f (PySem.W.fnOf name qual params body scope dV kV doc pm an cdv ct) ps sp := by
 refine ⟨len, fun A outer s H args us vs Q E hr e0 hb r hsp => ?_⟩
 have hl := len _ _ _ _ hsp
 have KX : K.In s.heap := e0.mod.kin.keeps fun b o e => (e0.bs b o e).1
 have lim : s.heap.NoLimit := e0.mod.nolimit.keeps fun b o e => (e0.bs b o e).1
 have hkind : ∀ y ∈ ps.zip us, scope.names.lookup y.1 = some .local ∨ (scope.names.lookup y.1 = some .cell ∧ ((cellsFrom (s.heap.objs.size + 1) scope.names []).lookup y.1).isSome = true) := fun ⟨n, v⟩ hy => by
  rcases S.par n (List.of_mem_zip hy).1 with q | q
  ·exact .inl q
  ·exact .inr ⟨q, PySem.W.cellsFrom_some _ _ _ (.inl q)⟩
 refine codeAny_call_function hr.depth (KX _ _ lk) rfl S.co S.gen rfl (PySem.W.codeRec_of KX hcd) (hb _ _ _ _ ?_)
 refine wpAny_newFunctionEnv_cells S.kind hkind fun env he s1 x => ?_
 subst he
 refine ⟨lim.keeps x.toInCall.keep, codeAny_func ?_⟩
 obtain ⟨t, ht, hq⟩ := hbody A outer s H vs Q E (hr.deeper _) hsp
 have I : Inv (cxOf CX P w K mg base N qual scope f cdv A outer s H E) [] (start N vs) H s1 := inv_start S hr.hd e0 hl r x
 refine wpAny_mono (ht [] s1 (start N vs) H _ I hq) (fun fl s' hs => ?_) fun e s' hs => hs
 have fin : ∀ {σ' : St} {H' : Hp} {v : V} {u : Value}, Inv (cxOf CX P w K mg base N qual scope f cdv A outer s H E) [] σ' H' s' → RelV v u → Q v H' → CE outer P w H s Q u s' :=
  fun {σ' H' v u} J rv q => ⟨v, H', J.os, J.bare, J.base, J.hok, rv, q⟩
 cases fl with
 | ret u =>
   obtain ⟨v, σ', H', J, rv, q⟩ := hs
   exact fin J rv q
 | next =>
   obtain ⟨σ', H', J, q⟩ := hs
   exact fin (v := V.non) (u := Value.none) J rfl q
 | brk =>
   obtain ⟨_, _, _, q⟩ := hs
   exact False.elim q
 | cont =>
   obtain ⟨_, _, _, q⟩ := hs
   exact False.elim q
end L2
namespace L2
open PySem PySem.Spec PyProof.Rows
section
variable {X : Cx} {x : Str} {p pos : Pos} {e : Expr} {es : List Expr} {t : TA} {id T : String} {r : List V → Hp → VK → Prop}
def tCB (r : List V → Hp → VK → Prop) (t : TA) : TE := fun σ H Q => t σ H fun vs H1 => r vs H1 Q
theorem pe_callB (hc : CallR X (.builtin id) r) (hg : Gl X x) (hm : X.mg x = none) (hv : bootBuiltins x = some (.builtin id)) (ha : PA X (e :: es) t) (hn : x ≠ "__name__" := by decide) (hdb : (x == ("__debug__" : Str)) = false := by decide)
 (he : starEach (e :: es) X.env = (false, eval e X.env) :: starEach es X.env := by rfl) (hpl : (backTo pos (starEach es X.env)).any (·.1) = false := by rfl) : PE X (.Call (.Name x p) (e :: es) [] pos) (tCB r t) := by
 walk_at "z0"
 refine wpAny_Call_Name_kw (ld_blt I hg hm hv ?_ hn hdb)
 exact PyProof.Rows.callWith_builtin1 (thn (ha pos pins s σ H _ I h) fun us s1 ⟨vs, H1, I1, r1, q1⟩ => hc pins s1 σ H1 vs us Q I1 r1 q1) he hpl
theorem pe_callTy (hc : CallR X (.type T) r) (hg : Gl X x) (hm : X.mg x = none) (hv : bootBuiltins x = some (.type T)) (ha : PA X (e :: es) t) (hn : x ≠ "__name__" := by decide) (hdb : (x == ("__debug__" : Str)) = false := by decide)
 (he : starEach (e :: es) X.env = (false, eval e X.env) :: starEach es X.env := by rfl) (hpl : (backTo pos (starEach es X.env)).any (·.1) = false := by rfl) : PE X (.Call (.Name x p) (e :: es) [] pos) (tCB r t) := by
 walk_at "z0"
 refine wpAny_Call_Name_kw (ld_blt I hg hm hv ?_ hn hdb)
 exact PyProof.Rows.callWith_type1 (thn (ha pos pins s σ H _ I h) fun us s1 ⟨vs, H1, I1, r1, q1⟩ => hc pins s1 σ H1 vs us Q I1 r1 q1) he hpl
end
end L2
namespace HT
open PySem PyProof.Rows
def lexLt : List Int → List Int → Bool
 | [], [] => false
 | [], _ :: _ => true
 | _ :: _, [] => false
 | x :: xs, y :: ys => if x = y then lexLt xs ys else decide (x < y)
theorem lexLt_cons (x y : Int) (xs ys : List Int) : lexLt (x :: xs) (y :: ys) = if x = y then lexLt xs ys else decide (x < y) := rfl
theorem lexLt_nil_nil : lexLt [] [] = false := rfl
theorem lexLt_nil_cons (y : Int) (ys : List Int) : lexLt [] (y :: ys) = true := rfl
theorem lexLt_cons_nil (x : Int) (xs : List Int) : lexLt (x :: xs) [] = false := rfl
theorem eqAt_int (A : Around) (s : Shared) (a : Int) (t : Tok) (c : Int) (u : Tok) : ∃ e, SeqAt.EqAt A s (.int a t) (.int c u) e ∧ (e = true ↔ a = c) :=
 ⟨(a == c), SeqAt.EqAt.int_int a t c u, by simp⟩
theorem rcLt_int (A : Around) (s : Shared) (a : Int) (t : Tok) (c : Int) (u : Tok) (prog : Program) (w : World) (E : Value → Shared → Prop) (Q : Value → Shared → Prop) (h : Q (.bool (decide (a < c))) s) :
 wpAny (model prog w) A (richCompare .Lt (.int a t) (.int c u)) Q E s :=
 (PyProof.Rows.lt_int h : wpAny (model prog w) A (compareOp .Lt (.int a t) (.int c u)) Q E s)
section
open PySem.SeqAt
open PySem.AutoSeq1 (wpAny_loadPart')
open PySem.MeetsSeq PySem.MeetsSeq2 PySem.MeetsSeq3
end
section
variable {prog : Program} {w : World} {A : Around} {E : Value → Shared → Prop} {s : Shared}
def sIx (n d : Nat) : Option Int → Nat
 | none => d
 | some v => if v < 0 then (v + (n : Int)).toNat else min v.toNat n
theorem sIx_none (n d : Nat) : sIx n d none = d := rfl
theorem sIx_nat (n d k : Nat) : sIx n d (some (k : Int)) = min k n := by
 show (if (k : Int) < 0 then ((k : Int) + (n : Int)).toNat else min (k : Int).toNat n) = min k n
 rw [if_neg (by lia), Int.toNat_natCast]
end
end HT
namespace L2
open PySem PySem.Spec PyProof.Rows
abbrev TO := St → Hp → (Option Int → Hp → Prop) → Prop
def PO (X : Cx) (e : Option Expr) (t : TO) : Prop :=
 ∀ (pins : List (Addr × Obj)) (s : Shared) (σ : St) (H : Hp) (Q : Option Int → Hp → Prop), Inv X pins σ H s → t σ H Q →
  wpAny (model X.prog X.w) X.A (evalPart e X.env) (fun u s' => ∃ o H', Inv X pins σ H' s' ∧ IsPart u o ∧ Q o H') X.xe s
def tNoPart : TO := fun _ H Q => Q none H
def tPart (t : TE) : TO := fun σ H Q => t σ H fun x H1 => ∃ i, x = .int i ∧ Q (some i) H1
theorem intsAre_of {ns : List Int} : ∀ {us : List Value}, Vals (ns.map V.int) us → IntsAre us ns := by
 induction ns with
 | nil => intro us r; rw [List.map_nil] at r; cases r; exact .nil
 | cons n ns ih =>
   intro us r
   rw [List.map_cons] at r
   cases r with
   | cons r1 r2 =>
     obtain ⟨t, e⟩ := r1
     subst e
     exact .cons n t (ih r2)
section
variable {X : Cx} {e : Expr} {te : TE} {lo hi : Option Expr} {tl th : TO} {pos p2 : Pos}
theorem po_none : PO X none tNoPart := by
 walk_at "z0"
 rw [evalPart_none]
 exact wpAny_pure ⟨none, H, I, .none, h⟩
theorem po_some (h : PE X e te) : PO X (some e) (tPart te) := by
 intro pins s σ H Q I hw
 rw [evalPart_some]
 refine thn (h pins s σ H _ I hw) fun u s1 ⟨x, H1, I1, r1, q1⟩ => ?_
 obtain ⟨i, rfl, q⟩ := q1
 obtain ⟨t, rfl⟩ := r1
 exact ⟨some i, H1, I1, .int i t, q⟩
def SlR (X : Cx) (r : V → Option Int → Option Int → Hp → VK → Prop) : Prop :=
 ∀ (pins : List (Addr × Obj)) (s : Shared) (σ : St) (H : Hp) (x : V) (v vl vu : Value) (lo hi : Option Int) (sl : Addr) (Q : VK), Inv X pins σ H s → RelV x v → s.heap.IsSliceOf sl vl vu .none → IsPart vl lo → IsPart vu hi → r x lo hi H Q →
  ∃ T id, typeLookup (.type T) "__getitem__" = pure (some (.builtin id)) ∧ s.TypeIs v T ∧ wpAny (model X.prog X.w) X.A (getItem v (.ref sl)) (EP X pins σ Q) X.xe s
def tSl (r : V → Option Int → Option Int → Hp → VK → Prop) (te : TE) (tl th : TO) : TE := fun σ H Q => te σ H fun x H1 => tl σ H1 fun l H2 => th σ H2 fun u H3 => r x l u H3 Q
theorem pe_slice {r : V → Option Int → Option Int → Hp → VK → Prop} (hr : SlR X r) (he : PE X e te) (hl : PO X lo tl) (hu : PO X hi th) : PE X (.Subscript e (.Slice lo hi none p2) pos) (tSl r te tl th) := by
 walk_at "z0"
 refine Subscript_ (thn (he pins s σ H _ I h) fun v s1 ⟨x, H1, I1, r1, q1⟩ => ?_)
 refine wpAny_Slice (thn (hl pins s1 σ H1 _ I1 q1) fun vl s2 ⟨l, H2, I2, pl, q2⟩ => thn (hu pins s2 σ H2 _ I2 q2) fun vu s3 ⟨u, H3, I3, pu, q3⟩ => ?_)
 rw [evalPart_none]
 refine wpAny_pure ?_
 have I4 : Inv X pins σ H3 { s3 with heap := s3.heap.push { cls := .type "slice", data := .fields #[vl, vu, .none] } } := I3.kept (t' := s3.toks) fun b ob q => Heap.get?_push_of_some _ q
 obtain ⟨T, id, hT, ht, hg⟩ := hr pins { s3 with heap := s3.heap.push { cls := .type "slice", data := .fields #[vl, vu, .none] } } σ H3 x v vl vu l u s3.heap.objs.size Q I4 r1 (Heap.IsSliceOf.new ..) pl pu q3
 show wpAny (model X.prog X.w) X.A (subscriptTail e (.Slice lo hi none p2) v (.ref s3.heap.objs.size)) (EP X pins σ Q) X.xe { s3 with heap := s3.heap.push { cls := .type "slice", data := .fields #[vl, vu, .none] } }
 exact tail_any (ops := [.ref s3.heap.objs.size, v]) ht hT hg (by with_unfolding_all rfl)
def cutV (xs : List V) (lo hi : Option Int) : List V := (xs.drop (HT.sIx xs.length 0 lo)).take (HT.sIx xs.length xs.length hi - HT.sIx xs.length 0 lo)
theorem cutV_length (xs : List V) (lo hi : Option Int) : (cutV xs lo hi).length ≤ xs.length := by
 unfold cutV
 rw [List.length_take, List.length_drop]
 lia
end
end L2
namespace L2
open PySem PySem.Spec PyProof.Rows
def ixN (n : Nat) (i : Int) : Option Nat := if 0 ≤ i then (if i < n then some i.toNat else none) else if -(n : Int) ≤ i then some (i + n).toNat else none
def atI {α : Type} (xs : List α) (i : Int) : Option α := (ixN xs.length i).bind fun j => xs[j]?
theorem ixN_seq {n : Nat} {i : Int} {j : Nat} (h : ixN n i = some j) : seqIndex? i n = some j ∧ j < n ∧ -(n : Int) ≤ i ∧ i < n := by
 unfold ixN at h
 by_cases h0 : 0 ≤ i
 ·rw [if_pos h0] at h
  by_cases h1 : i < n
  ·rw [if_pos h1] at h
   have e : i.toNat = j := Option.some.inj h
   exact ⟨by rw [seqIndex_of h0 h1, e], by lia, by lia, h1⟩
  ·rw [if_neg h1] at h; cases h
 ·rw [if_neg h0] at h
  by_cases h1 : -(n : Int) ≤ i
  ·rw [if_pos h1] at h
   have e : (i + n).toNat = j := Option.some.inj h
   exact ⟨by rw [seqIndex_neg (by lia) h1, e], by lia, h1, by lia⟩
  ·rw [if_neg h1] at h; cases h
theorem atI_get {α : Type} {xs : List α} {i : Int} {v : α} (h : atI xs i = some v) : ∃ j, seqIndex? i xs.length = some j ∧ xs[j]? = some v ∧ j < xs.length ∧ -(xs.length : Int) ≤ i ∧ i < xs.length := by
 unfold atI at h
 cases e : ixN xs.length i with
 | none => rw [e] at h; cases h
 | some j =>
   rw [e] at h
   obtain ⟨h1, h2, h3, h4⟩ := ixN_seq e
   exact ⟨j, h1, h, h2, h3, h4⟩
theorem atI_nat {α : Type} {xs : List α} {j : Nat} {v : α} (h : xs[j]? = some v) : atI xs (j : Int) = some v := by
 have hj : j < xs.length := (List.getElem?_eq_some_iff.mp h).1
 have e : ixN xs.length (j : Int) = some j := by
  unfold ixN
  rw [if_pos (by lia), if_pos (by lia)]; simp
 unfold atI; rw [e]; exact h
theorem atI_last {α : Type} (xs : List α) (v : α) : atI (xs ++ [v]) (-1) = some v := by
 have hl : (xs ++ [v]).length = xs.length + 1 := by simp
 have e : ixN (xs ++ [v]).length (-1) = some xs.length := by
  unfold ixN
  rw [hl, if_neg (by decide), if_pos (by lia)]
  congr 1
  lia
 unfold atI
 rw [e]
 show (xs ++ [v])[xs.length]? = some v
 simp
def PlainIx (b : Expr) : Prop := ∀ o i, subscripted b false o i = operate [o, i] (getItem o i)
def IxR (X : Cx) (r : R2) : Prop :=
 ∀ (value slice : Expr) (pins : List (Addr × Obj)) (s : Shared) (σ : St) (H : Hp) (x y : V) (v u : Value) (Q : VK), Inv X pins σ H s → RelV x v → RelV y u → r x y H Q →
  subscripted slice false v u = operate [v, u] (getItem v u) → wpAny (model X.prog X.w) X.A (subscriptTail value slice v u) (EP X pins σ Q) X.xe s
def MtR (X : Cx) (id : String) (r : V → List V → Hp → VK → Prop) : Prop :=
 ∀ (pins : List (Addr × Obj)) (s : Shared) (σ : St) (H : Hp) (x : V) (xs : List V) (v : Value) (us : List Value) (Q : VK), Inv X pins σ H s → RelV x v → Vals xs us → r x xs H Q →
  wpAny (model X.prog X.w) X.A (call (.builtin id) (v :: us)) (EP X pins σ Q) X.xe s
section
variable {X : Cx} {a b : Expr} {ta tb : TE} {pos : Pos}
theorem IxR.or {r r' : R2} (h : IxR X r) (h' : IxR X r') : IxR X (fun x y H Q => r x y H Q ∨ r' x y H Q) := by
 intro value slice pins s σ H x y v u Q I rx ry q hs
 rcases q with q | q
 ·exact h value slice pins s σ H x y v u Q I rx ry q hs
 ·exact h' value slice pins s σ H x y v u Q I rx ry q hs
theorem pe_ix {r : R2} (hr : IxR X r) (ha : PE X a ta) (hb : PE X b tb) (hs : PlainIx b) : PE X (.Subscript a b pos) (tOp r ta tb) := by
 walk_at "z0"
 exact Subscript_ (binT ha hb I h fun v u s2 x y H2 I2 rx ry q => hr a b pins s2 σ H2 x y v u Q I2 rx ry q (hs _ _))
def rIxL (K : PySem.W.Frag) : R2 := fun x y H Q => ∃ p xs i v, x = .ref p ∧ y = .int i ∧ SqL K H p xs ∧ atI xs i = some v ∧ Q v H
def rIxT (K : PySem.W.Frag) : R2 := fun x y H Q => ∃ p xs i v, x = .ref p ∧ y = .int i ∧ SqT K H p xs ∧ atI xs i = some v ∧ Q v H
theorem ix_list : IxR X (rIxL X.K) := by
 intro value slice pins s σ H x y v u Q I rx ry h hs
 obtain ⟨p, xs, i, z, rfl, rfl, hq, he, q⟩ := h
 cases rx
 obtain ⟨t, rfl⟩ := ry
 obtain ⟨its, r, pl, hz⟩ := I.list hq
 obtain ⟨j, h1, h2, h3, h4, h5⟩ := atI_get he
 obtain ⟨w, ew, rw'⟩ := r.get h2
 have hl := r.length
 have hn := line63
 have fin : EP X pins σ Q w s := ⟨z, H, I, rw', q⟩
 by_cases h0 : 0 ≤ i
 ·have hj : i.toNat = j := by
   rw [seqIndex_of h0 h5] at h1
   exact Option.some.inj h1
  exact item_listR pl.isList h0 (by lia) (by rw [hj]; simpa using ew) fin hs
 ·have hj : (i + (its.toArray.size : Int)).toNat = j := by
   rw [seqIndex_neg (by lia) h4] at h1
   rw [List.size_toArray, ← hl]
   exact Option.some.inj h1
  exact subscriptTail_builtinR (x := w) pl.isList.typeIs slot_list_getitem.lookup
   (wpAny_getItem_list_neg (Q := fun r s' => r = w ∧ EP X pins σ Q r s') pl.isList (by lia) (by rw [List.size_toArray] <;> lia) (by lia) (by rw [hj]; simpa using ew) ⟨rfl, fin⟩) hs
theorem ix_tup : IxR X (rIxT X.K) := by
 intro value slice pins s σ H x y v u Q I rx ry h hs
 obtain ⟨p, xs, i, z, rfl, rfl, hq, he, q⟩ := h
 cases rx
 obtain ⟨t, rfl⟩ := ry
 obtain ⟨its, r, pl, hz⟩ := I.tuple hq
 obtain ⟨j, h1, h2, h3, h4, h5⟩ := atI_get he
 obtain ⟨w, ew, rw'⟩ := r.get h2
 have hl := r.length
 have hn := line63
 have fin : EP X pins σ Q w s := ⟨z, H, I, rw', q⟩
 exact subscriptTail_builtinR (x := w) pl.typeIs slot_tuple_getitem.lookup
  (getItem_tuple (j := j) (Q := fun r s' => r = w ∧ EP X pins σ Q r s') pl (by lia) (by lia) (by rw [List.size_toArray, ← hl]; exact h1) (by simpa using ew) ⟨rfl, fin⟩) hs
theorem mapSeq_set (its : List Value) (n j : Nat) (u : Value) : Obj.mapSeq (·.setIfInBounds j u) { cls := .type "list", data := .seq its.toArray n } = { cls := .type "list", data := .seq (its.set j u).toArray n } := by
 simp [Obj.mapSeq]
theorem Inv.lst {pins : List (Addr × Obj)} {σ : St} {H : Hp} {s : Shared} {p : Addr} {xs : List V} (I : Inv X pins σ H s) (h : H p = some (.lst xs)) :
 ∃ (its : List Value) (n : Nat), Vals xs its ∧ s.heap.get? p = some { cls := .type "list", data := .seq its.toArray n } ∧ xs.length ≤ sizeLine := by
 obtain ⟨z, its, n, r, e⟩ := I.hok p _ h
 exact ⟨its, n, r, e, z⟩
theorem Inv.lstUpd {pins : List (Addr × Obj)} {σ : St} {H : Hp} {s : Shared} {p : Addr} {xs ys : List V} {its its' : List Value} {n n' : Nat} {f : Obj → Obj} (I : Inv X pins σ H s) (h : H p = some (.lst xs))
 (ho : s.heap.get? p = some { cls := .type "list", data := .seq its.toArray n }) (hf : f { cls := .type "list", data := .seq its.toArray n } = { cls := .type "list", data := .seq its'.toArray n' }) (r : Vals ys its') (hz : ys.length ≤ sizeLine) (t : Nat) :
 Inv X pins σ (upd H p (.lst ys)) { s with heap := s.heap.update p f, toks := t } := by
 have e : (s.heap.update p f).get? p = some { cls := .type "list", data := .seq its'.toArray n' } := by
  rw [Heap.get?_update_self f ho (by rw [hf] <;> rfl), hf]
 refine I.write (x := p) (e := p) (by rw [h]; trivial) (.inl rfl) (fun b u hb q => (Heap.get?_update_other _ _ (Ne.symm hb)).trans q) ⟨_, e⟩ ?_
 exact ⟨hz, its', n', r, e⟩
def rSetL : V → V → V → Hp → (Hp → Prop) → Prop := fun o i v H Q => ∃ p xs k j, o = .ref p ∧ i = .int k ∧ H p = some (.lst xs) ∧ ixN xs.length k = some j ∧ Q (upd H p (.lst (xs.set j v)))
theorem set_list : PSet X rSetL := by
 intro pins s σ H o i v ov iv u Q I ro ri rv h
 obtain ⟨p, xs, k, j, rfl, rfl, hp, hj, q⟩ := h
 cases ro
 obtain ⟨t, rfl⟩ := ri
 obtain ⟨its, n, r, ho, hz⟩ := I.lst hp
 obtain ⟨h1, h2, h3, h4⟩ := ixN_seq hj
 have hl := r.length
 have hn := line63
 have I' : Inv X pins σ (upd H p (.lst (xs.set j v))) { s with heap := s.heap.update p (Obj.mapSeq (·.setIfInBounds j u)) } :=
  I.lstUpd hp ho (mapSeq_set its n j u) (r.set rv j) (by rw [List.length_set]; exact hz) s.toks
 by_cases h0 : 0 ≤ k
 ·have hk : k.toNat = j := by
   rw [seqIndex_of h0 h4] at h1
   exact Option.some.inj h1
  exact PySem.W.ki_setAt ho h0 (by lia) (by rw [List.size_toArray, ← hl]; exact h4) (by rw [hk]; exact ⟨_, I', q⟩)
 ·have hk : (k + (its.toArray.size : Int)).toNat = j := by
   rw [seqIndex_neg (by lia) h3] at h1
   rw [List.size_toArray, ← hl]
   exact Option.some.inj h1
  exact PySem.W.ki_setBack ho (by lia) (by rw [List.size_toArray, ← hl]; exact h3) (by lia) (by rw [hk]; exact ⟨_, I', q⟩)
theorem slice_bounds (lo hi : Option Int) (n : Nat) : (sliceBounds lo hi none n).1 = ((HT.sIx n 0 lo : Nat) : Int) ∧ (sliceBounds lo hi none n).2.1 = ((HT.sIx n n hi : Nat) : Int) ∧ (sliceBounds lo hi none n).2.2 = 1 := by
 refine ⟨?_, ?_, rfl⟩
 ·cases lo with
  | none => simp [sliceBounds, HT.sIx]
  | some i =>
    simp only [sliceBounds, HT.sIx, Option.getD_none, show (1 : Int) > 0 by decide, if_true]
    by_cases h : i < 0
    ·simp only [h, if_true] <;> lia
    ·simp only [h, if_false] <;> lia
 ·cases hi with
  | none => simp [sliceBounds, HT.sIx]
  | some i =>
    simp only [sliceBounds, HT.sIx, Option.getD_none, show (1 : Int) > 0 by decide, if_true]
    by_cases h : i < 0
    ·simp only [h, if_true] <;> lia
    ·simp only [h, if_false] <;> lia
theorem slicePick_cut (its : List Value) (lo hi : Option Int) : slicePick its.toArray lo hi none = ((its.drop (HT.sIx its.length 0 lo)).take (HT.sIx its.length its.length hi - HT.sIx its.length 0 lo)).toArray := by
 obtain ⟨h1, h2, h3⟩ := slice_bounds lo hi its.toArray.size
 unfold slicePick
 rw [h1, h2, h3]
 simp only [sliceRange_one, pick_run, List.size_toArray] <;> rfl
def rSlL (K : PySem.W.Frag) : V → Option Int → Option Int → Hp → VK → Prop := fun x lo hi H Q => ∃ a xs, x = .ref a ∧ SqL K H a xs ∧ ∀ p, H p = none → Q (.ref p) (upd H p (.lst (cutV xs lo hi)))
theorem sl_list : SlR X (rSlL X.K) := by
 intro pins s σ H x v vl vu lo hi sl Q I rx hs pl pu h
 obtain ⟨a, xs, rfl, hx, q⟩ := h
 cases rx
 obtain ⟨its, r, ht, hz⟩ := I.list hx
 have hlen := r.length
 refine ⟨"list", _, slot_list_getitem.lookup, ht.isList.typeIs, ?_⟩
 refine wpAny_getItem_list_slice ht.isList hs pl pu .none (by simp) ?_ (by rw [List.size_toArray] <;> lia)
 rw [slicePick_cut, ← hlen]
 refine ⟨.ref s.heap.objs.size, _, I.laid (t' := s.toks) (o := .lst (cutV xs lo hi)) (fun b ob q => Heap.get?_push_of_some _ q) (Nat.le_refl _) ?_, rfl, q _ (I.hok.fresh (Nat.le_refl _))⟩
 exact ⟨Nat.le_trans (cutV_length xs lo hi) hz, _, 0, (r.drop (HT.sIx xs.length 0 lo)).take (HT.sIx xs.length xs.length hi - HT.sIx xs.length 0 lo), Heap.get?_push_size _ rfl⟩
theorem call_list_of : CallR X (.type "list") (fun xs H Q => ∃ p ys, xs = [.ref p] ∧ (SqL X.K H p ys ∨ SqT X.K H p ys) ∧ ∀ l, H l = none → Q (.ref l) (upd H l (.lst ys))) := by
 walk_at "z5"
 obtain ⟨p, ys, rfl, hq, q⟩ := h
 obtain ⟨u, rfl, rx⟩ := vals1 r
 cases rx
 have fin : ∀ (its : List Value), Vals ys its → ys.length ≤ sizeLine → ∀ (h' : Heap) (c' : Nat), (∀ b o', s.heap.get? b = some o' → h'.get? b = some o') →
  h'.get? s.heap.objs.size = some { cls := .type "list", dict := none, data := .seq its.toArray c', slots := #[] } → EP X pins σ Q (.ref s.heap.objs.size) { s with heap := h' } := fun its r' hz h' c' kp e =>
  ⟨.ref s.heap.objs.size, _, I.laid (t' := s.toks) kp (Nat.le_refl _) (show ObjOk X.prog X.w _ h' _ (.lst ys) from ⟨hz, its, c', r', e⟩), rfl, q _ (I.hok.fresh (Nat.le_refl _))⟩
 rcases hq with hq | hq
 ·obtain ⟨its, r', pl, hz⟩ := I.list hq
  have hlen := r'.length
  obtain ⟨o, ho, hc, n, hd⟩ := pl.isList
  exact call_list_seq p (.inl rfl) ho hc hd (fun h' c' kp e => fin its r' hz h' c' kp e) (by simp only [List.size_toArray] <;> lia)
 ·obtain ⟨its, r', pl, hz⟩ := I.tuple hq
  have hlen := r'.length
  obtain ⟨o, ho, hc, n, hd⟩ := pl
  exact call_list_seq p (.inr rfl) ho hc hd (fun h' c' kp e => fin its r' hz h' c' kp e) (by simp only [List.size_toArray] <;> lia)
theorem call_tuple_of : CallR X (.type "tuple") (fun xs H Q => ∃ p ys, xs = [.ref p] ∧ ((SqL X.K H p ys ∧ ∀ l, H l = none → Q (.ref l) (upd H l (.tup ys))) ∨ (SqT X.K H p ys ∧ Q (.ref p) H))) := by
 walk_at "z5"
 obtain ⟨p, ys, rfl, h⟩ := h
 obtain ⟨u, rfl, rx⟩ := vals1 r
 cases rx
 rcases h with ⟨hq, q⟩ | ⟨hq, q⟩
 ·obtain ⟨its, r', pl, hz⟩ := I.list hq
  have hlen := r'.length
  refine call_tuple_list pl.isList (fun h' kp => ?_) (by simp only [List.size_toArray] <;> lia)
  have I1 : Inv X pins σ H { s with heap := h' } := I.kept (t' := s.toks) kp
  have I2 : Inv X pins σ (upd H h'.objs.size (.tup ys)) { s with heap := h'.push { cls := .type "tuple", data := .seq its.toArray } } :=
   I1.laid (t' := s.toks) (fun b o e => Heap.get?_push_of_some _ e) (Nat.le_refl _) (show ObjOk X.prog X.w _ _ _ (.tup ys) from ⟨hz, its, r', IsTup.new _ _⟩)
  exact ⟨.ref h'.objs.size, _, I2, rfl, q _ (I1.hok.fresh (Nat.le_refl _))⟩
 ·obtain ⟨its, r', pl, hz⟩ := I.tuple hq
  exact call_tuple_same pl ⟨.ref p, H, I, rfl, q⟩
def tyV (K : PySem.W.Frag) (T : String) (x : V) (H : Hp) : Prop := match x with
 | .str _ => T = "str"
 | .int _ => T = "int"
 | .ref p => (T = "list" ∧ ∃ xs, SqL K H p xs) ∨ (T = "tuple" ∧ ∃ o, K.lookup p = some o ∧ o.cls = .type "tuple" ∧ o.dict = none) ∨
  (T = "dict" ∧ ((∃ kvs, H p = some (.dK kvs)) ∨ ∃ kvs, H p = some (.dT kvs))) ∨ (T = "set" ∧ ∃ S n, H p = some (.set S n))
 | _ => False
theorem tyV_is {pins : List (Addr × Obj)} {σ : St} {H : Hp} {s : Shared} {T : String} {x : V} {v : Value} (I : Inv X pins σ H s) (r : RelV x v) (ty : tyV X.K T x H) :
 s.TypeIs v T ∧ ∀ a, v = .ref a → ∃ ob, s.heap.get? a = some ob ∧ ob.dict = none := by
 cases x with
 | str z =>
   obtain ⟨t, rfl⟩ := r
   cases (show T = "str" from ty)
   exact ⟨typeIs_str s z t, fun _ e => nomatch e⟩
 | int i =>
   obtain ⟨t, rfl⟩ := r
   cases (show T = "int" from ty)
   exact ⟨typeIs_int s i t, fun _ e => nomatch e⟩
 | ref p =>
   cases r
   rcases ty with ⟨rfl, xs, hq⟩ | ⟨rfl, o, hk, hc, hd⟩ | ⟨rfl, hk⟩ | ⟨rfl, S, n, hk⟩
   ·obtain ⟨its, _, pl, _⟩ := I.list hq
    refine ⟨pl.isList.typeIs, fun a e => ?_⟩
    cases e
    obtain ⟨o, n, e, c, hd, _⟩ := pl
    exact ⟨o, e, hd⟩
   ·refine ⟨⟨o, I.kIn p o hk, hc⟩, fun a e => ?_⟩
    cases e
    exact ⟨o, I.kIn _ o hk, hd⟩
   ·have z : ∃ o, s.heap.get? p = some o ∧ o.ExactDict := by
     rcases hk with ⟨kvs, hk⟩ | ⟨kvs, hk⟩
     ·obtain ⟨_, _, _, _, o, _, _, e, ex, _⟩ := I.hok p _ hk
      exact ⟨o, e, ex⟩
     ·obtain ⟨_, _, _, _, o, _, _, e, ex, _⟩ := I.hok p _ hk
      exact ⟨o, e, ex⟩
    obtain ⟨o, e, ex⟩ := z
    refine ⟨⟨o, e, ex.1⟩, fun a e2 => ?_⟩
    cases e2
    exact ⟨o, e, ex.2.1⟩
   ·obtain ⟨o, _, _, _, e, ex, _⟩ := I.hok p _ hk
    refine ⟨⟨o, e, ex.1⟩, fun a e2 => ?_⟩
    cases e2
    exact ⟨o, e, ex.2.1⟩
 | _ => exact False.elim ty
def tBM0 (K : PySem.W.Frag) (T : String) (r : V → List V → Hp → VK → Prop) (to : TE) : TE := fun σ H Q => to σ H fun x H1 => tyV K T x H1 ∧ r x [] H1 Q
def tBM (K : PySem.W.Frag) (T : String) (r : V → List V → Hp → VK → Prop) (to : TE) (t : TA) : TE := fun σ H Q => to σ H fun x H1 => tyV K T x H1 ∧ t σ H1 fun xs H2 => r x xs H2 Q
variable {o e : Expr} {es : List Expr} {to : TE} {t : TA} {name : Str} {apos cpos : Pos} {T id : String} {r : V → List V → Hp → VK → Prop}
theorem pe_bm0 (pa : PlainAttrs T) (slot : Slot T name id) (hty : typeOf (.builtin id) = pure (.type "method_descriptor")) (hm : MtR X id r) (ho : PE X o to)
 (hbase : attributeBase o name X.env (eval o X.env) = eval o X.env := by rfl) (hline : (apos.endLine == cpos.line) = true := by rfl) : PE X (.Call (.Attribute o name apos) [] [] cpos) (tBM0 X.K T r to) := by
 walk_at "z0"
 refine wpAny_Call_method0_late hbase hline (thn (ho pins s σ H _ I h) fun v s1 ⟨x, H1, I1, r1, ty, q1⟩ => ?_)
 obtain ⟨h1, h2⟩ := tyV_is I1 r1 ty
 exact ⟨T, id, pa, slot, hty, h1, h2, Calls.callWith_builtin rfl (PySem.evalArgs_none (hm pins s1 σ H1 x [] v [] Q I1 r1 .nil q1))⟩
theorem pe_bm (pa : PlainAttrs T) (slot : Slot T name id) (hty : typeOf (.builtin id) = pure (.type "method_descriptor")) (hm : MtR X id r) (ho : PE X o to) (ha : PA X (e :: es) t)
 (hbase : attributeBase o name X.env (eval o X.env) = eval o X.env := by rfl)
 (hfew : ((backTo cpos (starEach (e :: es) X.env)).all (fun x => !x.1) && (backToKw cpos (keywordEach [] X.env)).all (fun x => x.1.isSome)
  && decide ((e :: es).length + ([] : List Keyword).length + (if ([] : List Keyword).isEmpty then 0 else 1) < 30)) = true := by rfl)
 (hline : (apos.endLine == cpos.line) = true := by rfl) (hs : starEach (e :: es) X.env = (false, eval e X.env) :: starEach es X.env := by rfl) (hplain : (backTo cpos (starEach es X.env)).any (·.1) = false := by rfl) :
 PE X (.Call (.Attribute o name apos) (e :: es) [] cpos) (tBM X.K T r to t) := by
 walk_at "z0"
 refine wpAny_Call_method_late hbase hfew hline rfl (thn (ho pins s σ H _ I h) fun v s1 ⟨x, H1, I1, r1, ty, q1⟩ => ?_)
 obtain ⟨h1, h2⟩ := tyV_is I1 r1 ty
 refine ⟨T, id, pa, slot, hty, h1, h2, ?_⟩
 have hA := ha cpos pins s1 σ H1 _ I1 q1
 rw [hs] at hA ⊢
 refine Calls.callWith_builtin (by show (false || (backTo cpos (starEach es X.env)).any (·.1)) = false; rw [hplain] <;> rfl) (Calls.evalArgs_plain ?_)
 exact thn hA fun us s2 ⟨vs, H2, I2, r2, q2⟩ => hm pins s2 σ H2 x vs v us Q I2 r1 r2 q2
end
end L2
namespace L2
open PySem PySem.Spec PyProof.Rows
def MtM (X : Cx) (id : String) (r : V → List V → Hp → VK → Prop) : Prop :=
 ∀ (pins : List (Addr × Obj)) (s : Shared) (σ : St) (H : Hp) (x : V) (xs : List V) (v : Value) (us : List Value) (Q : VK), Inv X pins σ H s → RelV x v → Vals xs us → r x xs H Q →
  wpAny (model X.prog X.w) X.A (call (.builtin id) (v :: us)) (EP X pins σ Q) X.xe s
theorem Vals.one : ∀ {x : V} {us : List Value}, Vals [x] us → ∃ u, us = [u] ∧ RelV x u
 | _, _, .cons r .nil => ⟨_, rfl, r⟩
theorem Vals.zero : ∀ {us : List Value}, Vals [] us → us = []
 | _, .nil => rfl
theorem Vals.dropLast {xs : List V} {us : List Value} (h : Vals xs us) : Vals xs.dropLast us.dropLast := by
 induction h with
 | nil => exact .nil
 | cons r t ih =>
   cases t with
   | nil => exact .nil
   | cons q t' => exact .cons r ih
theorem Vals.reverse {xs : List V} {us : List Value} (h : Vals xs us) : Vals xs.reverse us.reverse := by
 induction h with
 | nil => exact .nil
 | cons r t ih => rw [List.reverse_cons, List.reverse_cons]; exact Vals.append ih (.cons r .nil)
theorem Vals.rep {xs : List V} {us : List Value} (h : Vals xs us) : ∀ k : Nat, Vals (List.replicate k xs).flatten (List.replicate k us).flatten
 | 0 => .nil
 | k + 1 => by
   rw [List.replicate_succ, List.replicate_succ, List.flatten_cons, List.flatten_cons]
   exact Vals.append h (Vals.rep h k)
theorem erase_last {α : Type} (l : List α) : l.eraseIdx (l.length - 1) = l.dropLast := by
 induction l with
 | nil => rfl
 | cons a r ih =>
   cases r with
   | nil => rfl
   | cons b r =>
     have e : (a :: b :: r).length - 1 = ((b :: r).length - 1) + 1 := by
      have h1 : (a :: b :: r).length = r.length + 2 := rfl
      have h2 : (b :: r).length = r.length + 1 := rfl
      lia
     rw [e, List.eraseIdx_cons_succ, ih]
     all_goals rfl
theorem foldl_rep (its : List Value) : ∀ (k : Nat) (acc : List Value),
 List.foldl (fun x1 x2 => x1 ++ x2) acc.toArray (List.replicate k its.toArray) = (acc ++ (List.replicate k its).flatten).toArray
 | 0, acc => by simp
 | k + 1, acc => by
   have e : acc.toArray ++ its.toArray = (acc ++ its).toArray := by simp
   have e2 : (acc ++ its) ++ (List.replicate k its).flatten = acc ++ (List.replicate (k + 1) its).flatten := by
    rw [List.replicate_succ, List.flatten_cons, List.append_assoc]
   rw [← e2, ← foldl_rep its k (acc ++ its), ← e, List.replicate_succ, List.foldl_cons]
section
variable {X : Cx} {pins : List (Addr × Obj)} {σ : St} {H : Hp} {s : Shared} {l b : Addr} {xs ys zs : List V}
theorem Inv.lset {its its' : List Value} {n : Nat} {f : Array Value → Array Value} {t' : Nat} (I : Inv X pins σ H s) (hH : H l = some (.lst xs))
 (e : s.heap.get? l = some { cls := .type "list", data := .seq its.toArray n }) (hf : f its.toArray = its'.toArray) (hv : Vals ys its') (hz : ys.length ≤ sizeLine) :
 Inv X pins σ (upd H l (.lst ys)) { s with heap := s.heap.update l (Obj.mapSeq f), toks := t' } := by
 have q := PySem.IsL.update e f
 rw [hf] at q
 refine I.write (x := l) (e := l) (by rw [hH]; exact trivial) (.inl rfl) (fun b' u hb hu => (Heap.get?_update_other s.heap (Obj.mapSeq f) (Ne.symm hb)).trans hu) ⟨_, q⟩ ?_
 exact ⟨hz, its', _, hv, q⟩
theorem Inv.lnew {its : List Value} {t' : Nat} (I : Inv X pins σ H s) (hv : Vals ys its) (hz : ys.length ≤ sizeLine) :
 Inv X pins σ (upd H s.heap.objs.size (.lst ys)) { s with heap := s.heap.push { cls := .type "list", data := .seq its.toArray }, toks := t' } :=
 I.laid (fun _ _ q => Heap.get?_push_of_some _ q) (Nat.le_refl _) ⟨hz, its, 0, hv, Heap.get?_push_size _ rfl⟩
theorem Inv.fresh (I : Inv X pins σ H s) : H s.heap.objs.size = none := I.hok.fresh (Nat.le_refl _)
theorem Inv.lstM (I : Inv X pins σ H s) (hH : H l = some (.lst xs)) : xs.length ≤ sizeLine ∧ ∃ (its : List Value) (n : Nat), Vals xs its ∧ xs.length = its.length ∧ s.heap.get? l = some { cls := .type "list", data := .seq its.toArray n } := by
 obtain ⟨z, its, n, r, e⟩ := I.hok l _ hH
 exact ⟨z, its, n, r, r.length, e⟩
theorem notLongL {n : Nat} (h : n ≤ sizeLine) : Builtin.List.listTooLong n = false := by
 unfold Builtin.List.listTooLong
 exact decide_eq_false (by lia)
end
section
variable {X : Cx}
def rAppend : V → List V → Hp → VK → Prop := fun x vs H Q => ∃ l xs y, x = .ref l ∧ vs = [y] ∧ H l = some (.lst xs) ∧ xs.length < sizeLine ∧ Q .non (upd H l (.lst (xs ++ [y])))
theorem mt_append : MtM X "list.append" rAppend := by
 intro pins s σ H x vs v us Q I rx rv h
 obtain ⟨l, xs, y, rfl, rfl, hH, hz, q⟩ := h
 cases rx
 obtain ⟨u, rfl, ru⟩ := rv.one
 obtain ⟨z, its, n, r, hl, e⟩ := I.lstM hH
 refine call_meets F.slot_list_append ⟨_, e, rfl⟩ F.entry_list_append (F.args_list_append_2 _ _) (PySem.list_append l its.toArray n u (by rw [List.size_toArray]; lia)) ⟨e, ?_⟩
 refine ⟨.non, _, I.lset (its' := its ++ [u]) hH e (by simp) (r.append (.cons ru .nil)) ?_, rfl, q⟩
 rw [List.length_append, List.length_singleton]
 lia
def rPop : V → List V → Hp → VK → Prop := fun x vs H Q => ∃ l xs y, x = .ref l ∧ vs = [] ∧ H l = some (.lst xs) ∧ xs[xs.length - 1]? = some y ∧ Q y (upd H l (.lst xs.dropLast))
theorem mt_pop : MtM X "list.pop" rPop := by
 intro pins s σ H x vs v us Q I rx rv h
 obtain ⟨l, xs, y, rfl, rfl, hH, hy, q⟩ := h
 cases rx
 have hus := rv.zero
 subst hus
 obtain ⟨z, its, n, r, hl, e⟩ := I.lstM hH
 obtain ⟨u, hu, ru⟩ := r.get hy
 have hy' : its.toArray[its.toArray.size - 1]? = some u := by
  show its.toArray[its.length - 1]? = some u
  rw [← Array.getElem?_toList, ← hl]
  exact hu
 refine call_meets F.slot_list_pop ⟨_, e, rfl⟩ F.entry_list_pop (F.args_list_pop_1 _) (MeetsSeq.list_pop_last l its.toArray n u hy' (by rw [List.size_toArray]; lia)) ⟨e, ?_⟩
 refine ⟨y, _, I.lset (its' := its.dropLast) hH e ?_ r.dropLast ?_, ru, q⟩
 ·show its.toArray.eraseIdxIfInBounds (its.toArray.size - 1) = its.dropLast.toArray
  rw [List.size_toArray, List.eraseIdxIfInBounds_toArray, erase_last]
 ·rw [List.length_dropLast]
  lia
def rCat : R2 := fun x y H Q => ∃ l b xs zs, x = .ref l ∧ y = .ref b ∧ H l = some (.lst xs) ∧ H b = some (.lst zs) ∧ xs.length + zs.length ≤ sizeLine ∧ ∀ p, H p = none → Q (.ref p) (upd H p (.lst (xs ++ zs)))
theorem op_cat : OpR X (binaryOp .Add) rCat := by
 intro pins s σ H x y v u Q I rx ry h
 obtain ⟨l, b, xs, zs, rfl, rfl, hH, hB, hz, q⟩ := h
 cases rx
 cases ry
 obtain ⟨z, its, n, r, hl, e⟩ := I.lstM hH
 obtain ⟨z2, its2, n2, r2, hl2, e2⟩ := I.lstM hB
 refine PySem.P.add_list e e2 ?_ (by rw [List.size_toArray, List.size_toArray]; lia)
 have ea : its.toArray ++ its2.toArray = (its ++ its2).toArray := by simp
 rw [ea]
 exact ⟨.ref _, _, I.lnew (t' := s.toks) (r.append r2) (by rw [List.length_append]; lia), rfl, q _ I.fresh⟩
def rRep : R2 := fun x y H Q => ∃ l k xs, x = .ref l ∧ y = .int k ∧ H l = some (.lst xs) ∧ -(2 ^ 63) ≤ k ∧ k < 2 ^ 63 ∧ xs.length * k.toNat ≤ sizeLine ∧
 ∀ p, H p = none → Q (.ref p) (upd H p (.lst (List.replicate k.toNat xs).flatten))
theorem len_rep {α : Type} (xs : List α) (k : Nat) : (List.replicate k xs).flatten.length = k * xs.length := by
 induction k with
 | zero => simp
 | succ k ih => rw [List.replicate_succ, List.flatten_cons, List.length_append, ih, Nat.succ_mul, Nat.add_comm]
theorem op_rep : OpR X (binaryOp .Mult) rRep := by
 intro pins s σ H x y v u Q I rx ry h
 obtain ⟨l, k, xs, rfl, rfl, hH, h1, h2, hz, q⟩ := h
 cases rx
 obtain ⟨t, rfl⟩ := ry
 obtain ⟨z, its, n, r, hl, e⟩ := I.lstM hH
 have hlen : its.toArray.size * k.toNat ≤ sizeLine := by rw [List.size_toArray, ← hl]; exact hz
 have hcap : ¬ its.toArray.size * k.toNat > (2 ^ 63 - 1) / 8 := by
  have : (sizeLine : Nat) ≤ (2 ^ 63 - 1) / 8 := by decide
  lia
 have hfit : ¬ (!Builtin.List.listFitsIndex k) = true := by
  rw [fitsIndex_both h1 h2]
  exact Bool.false_ne_true
 have hlong : ¬ Builtin.List.listTooLong (its.toArray.size * k.toNat) = true := by
  rw [notLongL hlen]
  exact Bool.false_ne_true
 have hnew : List.foldl (fun x1 x2 => x1 ++ x2) #[] (List.replicate (if its.toArray.isEmpty = true then 0 else k.toNat) its.toArray) = (List.replicate k.toNat its).flatten.toArray := by
  have f0 : ∀ m : Nat, List.foldl (fun x1 x2 => x1 ++ x2) #[] (List.replicate m its.toArray) = (List.replicate m its).flatten.toArray := fun m => by
   have := foldl_rep its m []
   rw [List.nil_append] at this
   exact this
  rw [f0]
  cases its with
  | nil => simp
  | cons a r' => rw [if_neg (by simp)]
 refine wpAny_binaryOp_repeat_ref (T := "list") (U := "int") (by decide) ⟨_, e, rfl⟩ (fun s' => typeIs_int s' k t) noFill_list_mul F.fills_int_mul F.slot_int_rmul repeat_list F.slot_int_index.lookup
  (call_meets F.slot_int_rmul (typeIs_int s k t) F.entry_int_rmul (F.args_int_rmul_2 _ _) (int___rmul___int_list k t l its.toArray n)
   ⟨e, rfl, ⟨_, e, rfl⟩, call_meets F.slot_list_mul ⟨_, e, rfl⟩ F.entry_list_mul (F.args_list_mul_2 _ _) (AutoListH.list___mul___list_int_3 l its.toArray n k t hfit hcap hlong) ⟨e, ?_⟩⟩)
 rw [hnew]
 exact ⟨.ref _, _, I.lnew (t' := s.toks) (r.rep k.toNat) (by rw [len_rep, Nat.mul_comm]; exact hz), rfl, q _ I.fresh⟩
end
section
variable {prog : Program} {w : World} {A : Around} {E : Value → Shared → Prop} {s : Shared}
end
section
variable {X : Cx}
end
end L2
namespace Att
open PySem PySem.W PySem.Calls PyProof.Rows
theorem ints_of_wellAll {P : Params} {h : Heap} : ∀ (ns : List Int) (vs : List Value), WellAll P h vs (ns.map WData.int) → IntsAre vs ns := by
 intro ns
 induction ns with
 | nil =>
   intro vs w
   rw [List.map_nil] at w
   cases w
   exact .nil
 | cons n ns ih =>
   intro vs w
   rw [List.map_cons] at w
   cases w with
   | cons a b =>
     cases a
     exact .cons _ _ (ih _ b)
theorem script_of {l : OpenLaw} {n : Nat} (hn : l.most = some n) {P : Params} {h : Heap} {args : List WData} {vals : List Value}
 (hpre : l.row.toRowW.claim.pre args = true) (hwl : WellAll P h vals args) :
 ∃ a vs ns, vals = [Value.ref a] ∧ args = [WData.list (ns.map WData.int)] ∧ h.get? a = some { cls := .type "list", data := .seq vs.toArray } ∧ IntsAre vs ns ∧ ns.length ≤ n := by
 have hsh : WShape.hasAll [] args [.list .int] = true := (pre_splitW hpre).1
 have hc : l.pre.holds [] { args := args } = true := (pre_splitW hpre).2
 obtain ⟨d, r, rfl, h1, h2⟩ := hasAllW_cons hsh
 obtain rfl := hasAllW_nil h2
 obtain ⟨xs, rfl, h3⟩ := hasW_list h1
 obtain ⟨ns, rfl⟩ := items_int h3
 have hlen : ns.length ≤ n := by
  unfold OpenLaw.pre at hc
  have h4 : (WTm.not (.lt (.lit (.int (n : Int))) (.len (.arg 0)))).holds [] { args := [.list (ns.map .int)] } = true := by
   have h4 := (holds_andW hc).1
   rw [hn] at h4
   exact h4
  have h5 := condW_of h4 (w_not (w_lt w_lit (w_len_list (w_arg rfl))))
  rw [List.length_map] at h5
  refine Nat.le_of_not_lt fun q => ?_
  have q' : (n : Int) < ((ns.length : Nat) : Int) := by lia
  first
   | (rw [decide_eq_true q'] at h5; exact absurd h5 (by decide))
   | (simp at h5; lia)
 cases hwl with
 | cons w1 w2 =>
   cases w2
   cases w1 with
   | list ho hall => exact ⟨_, _, ns, rfl, rfl, ho, ints_of_wellAll ns _ hall, hlen⟩
theorem post_true (l : OpenLaw) (args : List WData) : l.row.toRowW.claim.post args (.bool true) args = true :=
 postW_of (r := l.row.toRowW) (X := (true == true))
  (show WShape.has [] (.bool true) .bool = true by first | rfl | decide | simp [WShape.has, WShape.arms, WShape.armsAll])
  (show (WTm.eq .res (.lit (.bool true))).value [] { args := args, res := some (.bool true), after := args } = some (.bool (true == true)) from w_eq_bool (w_res rfl) w_lit) rfl
theorem attach_call {l : OpenLaw} {n : Nat} {q : Program} {loose : List Str} {XP : (Str → Option Value) → Heap → Prop} {YP : World → Heap → Prop} {d : DefRec}
 (hn : l.most = some n) (hdf : d.params.defaults = [])
 (call : ∀ (w : World) (s₀ s₁ : Shared) (mg mb : Str → Option Value) (fa : Addr) (o : Obj) (pm cd doc : Value) (a : Addr) (vs : List Value) (ns : List Int),
  Ground q loose [] XP w s₀ mg mb s₁.heap → YP w s₁.heap →
  s₁.heap.get? fa = some o → o.data = .func (docDef d.name d.params d.body d.scope pm cd doc) → s₁.heap.CodeRec cd d.name → mg d.name = some (.ref fa) →
  s₁.heap.get? a = some { cls := .type "list", data := .seq vs.toArray } → IntsAre vs ns → ns.length ≤ n → s₁.gens = #[] →
  codeAny (model l.prog w) callerA (.call (.ref fa) ⟨[.ref a], []⟩) (fun r s' => r = .ok (.ret (.bool true)) ∧ OldK s₁.heap s'.heap ∧ s'.os = s₁.os ∧ AllBare s'.gens) s₁) :
 WalkO q loose XP YP l.row.toRowW d [] (fun f vs => PySem.call f vs) := by
 intro w s₀ s₁ mg mb G Y fa o pm cd doc dV kV ho hd hcd hD hmg hg args vals as hpre hlay hrd hwl hlo
 obtain rfl : dV = .none := Dflts.none hD hdf
 obtain rfl : kV = .none := Dflts.noKw hD
 obtain ⟨a, vs, ns, rfl, rfl, hobj, hints, hlen⟩ := script_of hn hpre hwl
 refine enter_call (codeAny_mono (call w s₀ s₁ mg mb fa o pm cd doc a vs ns G Y ho (fd_plain hd) hcd hmg hobj hints hlen hg) fun r s' hq => ?_)
 obtain ⟨rfl, h2, h3, h4⟩ := hq
 exact ⟨.inl ⟨.bool true, .bool true, [], rfl, fun _ => rfl, .bool true, post_true l _, fun _ => ⟨List.Pairwise.nil, fun _ hm => (nomatch hm)⟩⟩, h2, h3, h4⟩
section
variable {prog : Program} {w : World} {A : Around} {E : Value → Shared → Prop} {s : Shared} {K : Frag}
end
end Att
namespace L2
open PySem PySem.Spec PyProof.Rows
theorem vals_ints : ∀ {vs : List Value} {ns : List Int}, IntsAre vs ns → Vals (ns.map V.int) vs
 | _, _, .nil => .nil
 | _, _, .cons n t h => .cons ⟨t, rfl⟩ (vals_ints h)
def Only (H : Hp) : Prop := ∀ b, H b = none ∨ ∃ o xs, H b = some (.frz o (.lst xs))
theorem law_call {P : Program} {w : World} {K : PySem.W.Frag} {mg mb : Str → Option Value} {CX : CXT} {k : Nat} {fa a : Addr} {fd : FuncData} {x : Str} {sp : Sp} {s₁ : Shared} {vs : List Value} {ns : List Int}
 (KX : K.In s₁.heap) (hns : s₁.heap.Ns mainGlobals mg) (hb : s₁.heap.Ns builtinsNs mb) (hbb : ∀ x : Str, x ≠ "__name__" → mb x = bootBuiltins x) (hlim : s₁.heap.NoLimit) (hg : s₁.gens = #[])
 (ha : s₁.heap.get? a = some { cls := .type "list", data := .seq vs.toArray }) (hi : IntsAre vs ns) (hl : ns.length ≤ sizeLine) (hr : Room k callerA)
 (F : ∀ base : Heap, K.In base → base.Ns mainGlobals mg → FnOk P w K mg base CX k fa fd [x] sp) (hbind : ∀ (s : Shared) (u : Value), BindsTo s fd ⟨[u], []⟩ [(x, u)])
 (hsp : ∀ H : Hp, Only H → SqL K H a (ns.map V.int) → sp [.ref a] H (fun v _ => v = .bl true) fun _ _ _ => False)
 (hCX : ∀ H e s', CX [] H s₁ (fun _ _ _ => False) e s' → False) :
 codeAny (model P w) callerA (.call (.ref fa) ⟨[.ref a], []⟩) (fun r s' => r = .ok (.ret (.bool true)) ∧ OldK s₁.heap s'.heap ∧ s'.os = s₁.os ∧ AllBare s'.gens) s₁ := by
 have rv := vals_ints hi
 have lenV := hi.length
 have core : ∀ H : Hp, Only H → SqL K H a (ns.map V.int) → HOk P w H s₁.heap → (∀ b, H b ≠ none → b = a) → (H a ≠ none → K.lookup a = none) →
  codeAny (model P w) callerA (.call (.ref fa) ⟨[.ref a], []⟩) (fun r s' => r = .ok (.ret (.bool true)) ∧ OldK s₁.heap s'.heap ∧ s'.os = s₁.os ∧ AllBare s'.gens) s₁ := by
  intro H hO hS hok hA hK
  have base_of : ∀ {b : Addr} {o : Obj}, s₁.heap.get? b = some o → H b = none → (hidT s₁.heap H).get? b = some o := fun e n => hidT_get e n
  have noA : ∀ {b : Addr} {o : Obj} {es : Array DictEntry} {ep : Nat}, s₁.heap.get? b = some o → o.data = .dict es ep → H b = none := fun {b o es ep} e d => by
   cases q : H b with
   | none => rfl
   | some u =>
     have e' : b = a := hA b (by rw [q]; simp)
     subst e'
     rw [ha] at e; cases e
     have d' : Data.seq vs.toArray _ = Data.dict es ep := d
     cases d'
  have nsK : ∀ {b : Addr} {m : Str → Option Value}, s₁.heap.Ns b m → (hidT s₁.heap H).Ns b m := fun {b m} ⟨o, es, ep, e, d, r⟩ => ⟨o, es, ep, base_of e (noA e d), d, r⟩
  have hKb : K.In (hidT s₁.heap H) := fun b o e => base_of (KX b o e) (by
   cases q : H b with
   | none => rfl
   | some u =>
     have e' : b = a := hA b (by rw [q]; simp)
     subst e'
     rw [hK (by rw [q]; simp)] at e; cases e)
  have hM : Mod K mg (hidT s₁.heap H) := ⟨hKb, nsK hns, ⟨mb, nsK hb, hbb⟩, let ⟨mc, h1, h2⟩ := hlim; ⟨mc, nsK h1, h2⟩⟩
  have e0 : Env0 P w K mg (hidT s₁.heap H) callerA [] s₁ H := ⟨rfl, hM, fun b o e => of_hidT e, Nat.le_of_eq (hidT_size _ _), trivial, fun b hb => absurd (show b ∈ ([] : List Addr) from hb) (by simp), hok, .of_eq hg⟩
  refine codeAny_mono ((F _ hKb (nsK hns)).run callerA [] s₁ H ⟨[.ref a], []⟩ [.ref a] [.ref a] _ _ hr e0 (hbind s₁ (.ref a)) (.cons rfl .nil) (hsp H hO hS)) fun r s' h => ?_
  cases r with
  | error e => exact (hCX H e s' h).elim
  | ok fl =>
    cases fl with
    | next => exact False.elim h
    | brk => exact False.elim h
    | cont => exact False.elim h
    | ret u =>
      obtain ⟨v, H', os, bare, un, hok', r', q⟩ := h
      have q' : v = .bl true := q
      subst q'
      obtain rfl : u = Value.bool true := r'
      refine ⟨rfl, OldK.of_keep fun b o e => ?_, os, bare⟩
      cases q : H b with
      | none => exact un.keep b o e q (by intro z; exact absurd (show b ∈ ([] : List Addr) from z) (by simp)) (by simp)
      | some u =>
        rcases hO b with z | ⟨ob, xs, z⟩
        ·rw [q] at z; cases z
        ·have z2 := un.frzs b ob _ z
         obtain ⟨e1, _⟩ := hok b _ z
         obtain ⟨e2, _⟩ := hok' b _ z2
         rw [e] at e1; cases e1
         exact e2
 cases hk : K.lookup a with
 | some o =>
   have e := KX a o hk
   rw [ha] at e
   cases e
   refine core (fun _ => none) (fun _ => .inl rfl) (.inr ⟨_, vs.toArray, _, hk, rfl, rfl, rfl, by rw [List.size_toArray, lenV]; exact hl, by simpa using rv⟩) (fun b u z => by have z' : (none : Option HO) = some u := z; cases z') (fun b z => absurd rfl z) fun z => absurd rfl z
 | none =>
   refine core (fun b => if b = a then some (.frz { cls := .type "list", data := .seq vs.toArray } (.lst (ns.map V.int))) else none) (fun b => ?_) (.inl (.inr ⟨{ cls := .type "list", data := .seq vs.toArray }, if_pos rfl⟩)) (fun b u z => ?_) (fun b z => ?_) fun _ => hk
   ·by_cases hb : b = a
    ·exact .inr ⟨_, _, if_pos hb⟩
    ·exact .inl (if_neg hb)
   ·by_cases hb : b = a
    ·have z' := (if_pos hb).symm.trans z
     cases z'
     subst hb
     exact ⟨ha, by rw [List.length_map]; exact hl, vs, _, rv, ha⟩
    ·have z' := (if_neg hb).symm.trans z
     cases z'
   ·by_cases hb : b = a
    ·exact hb
    ·exact absurd (if_neg hb) z
end L2
namespace L2
open PySem PySem.Spec PyProof.Rows
theorem walk_of {l : PySem.W.OpenLaw} {n k : Nat} {q : Program} {loose : List Str} {XP : (Str → Option Value) → Heap → Prop} {YP : World → Heap → Prop} {d : DefRec} {K : Params → PySem.W.Frag} {CX : World → CXT} {sp : World → Sp} {x : Str}
 (hn : l.most = some n) (hn2 : n ≤ sizeLine) (hdf : d.params.defaults = []) (hr : Room k callerA)
 (hY : ∀ (w : World) (h : Heap), YP w h → (K w.params).In h)
 (F : ∀ (w : World) (mg : Str → Option Value) (fa : Addr) (h : Heap), (K w.params).In h → h.Ns mainGlobals mg → mg d.name = some (.ref fa) →
  ∃ fd : FuncData, (∀ (s : Shared) (u : Value), BindsTo s fd ⟨[u], []⟩ [(x, u)]) ∧
   ∀ base : Heap, (K w.params).In base → base.Ns mainGlobals mg → FnOk l.prog w (K w.params) mg base (CX w) k fa fd [x] (sp w))
 (hsp : ∀ (w : World) (H : Hp) (a : Addr) (ns : List Int), ns.length ≤ n → Only H → SqL (K w.params) H a (ns.map V.int) → sp w [.ref a] H (fun v _ => v = .bl true) fun _ _ _ => False)
 (hCX : ∀ (w : World) (H : Hp) (s : Shared) (e : Value) (s' : Shared), CX w [] H s (fun _ _ _ => False) e s' → False) :
 PySem.W.WalkO q loose XP YP l.row.toRowW d [] (fun f vs => PySem.call f vs) := by
 refine Att.attach_call hn hdf fun w s₀ s₁ mg mb fa o pm cd doc a vs ns G Y ho hd hcd hmg hobj hints hlen hg => ?_
 have KX := hY w _ Y
 obtain ⟨fd, hb, hF⟩ := F w mg fa _ KX G.T.g hmg
 exact law_call KX G.T.g G.T.b G.T.builtins G.T.nolimit hg hobj hints (Nat.le_trans hlen hn2) hr hF hb (fun H hO hS => hsp w H a ns hlen hO hS) fun H e s' => hCX w H s₁ e s'
end L2
namespace L2
open PySem PySem.Spec PyProof.Rows
def inClass (s : Stmt) (j : Nat) : Stmt := match s with
 | .ClassDef _ _ _ body _ _ _ _ _ _ _ => body.getD j (.Pass ⟨0, 0, 0, 0⟩)
 | _ => .Pass ⟨0, 0, 0, 0⟩
def defArgs (s : Stmt) : Arguments := match s with
 | .FunctionDef _ a _ _ _ _ _ _ _ _ => a
 | _ => { posonlyargs := [], args := [], vararg := none, kwonlyargs := [], kw_defaults := [], kwarg := none, defaults := [] }
def defBody (s : Stmt) : List Stmt := match s with
 | .FunctionDef _ _ b _ _ _ _ _ _ _ => b
 | _ => []
def defScope (s : Stmt) : Scope := match s with
 | .FunctionDef _ _ _ _ _ _ sc _ _ _ => sc
 | _ => { kind := .function, names := [], isGenerator := false, isCoroutine := false }
abbrev CX0 : CXT := fun _ _ _ _ _ _ => False
abbrev E0 : XK := fun _ _ _ => False
theorem pass0 {X : Cx} : Passes CX0 X E0 := fun _ _ _ _ _ _ _ h => h.elim
structure Fun (K : PySem.W.Frag) (x qual : Str) (st : Stmt) (f : Addr) (fd : FuncData) : Prop where
 ex : ∃ (oc : Value) (od : Option Addr) (kV doc pm : Value) (an : Option Addr) (cdv ct : Value) (osl : Array (Option Value)),
  fd = PySem.W.fnOf x qual (defArgs st) (defBody st) (defScope st) .none kV doc pm an cdv ct ∧ K.lookup f = some ⟨oc, od, .func fd, osl⟩ ∧ PySem.W.codeIn K cdv qual = true
 kp : PySem.W.keepIn K (.ref f) = true
section
variable {P : Program} {w : World} {K : PySem.W.Frag} {mg : Str → Option Value} {base : Heap}
theorem Fun.ok {x qual : Str} {st : Stmt} {f : Addr} {fd : FuncData} {N ps : List Str} {k : Nat} {sp : Sp} (F : Fun K x qual st f fd) (S : FnScope N ps (defScope st)) (len : ∀ vs H Q E, sp vs H Q E → vs.length = ps.length)
 (hbody : ∀ (cdv : Value) (A : Around) (outer : List Env) (s : Shared) (H : Hp) (vs : List V) (Q : VK) (E : XK), Room k (A.deeper (envOfC qual (defScope st) s.heap.objs.size f cdv)) → sp vs H Q E →
  ∃ t, PSs (cxOf CX0 P w K mg base N qual (defScope st) f cdv A outer s H E).nox (defBody st) t ∧ t { nx := fun _ H' => Q .non H', rt := Q } (start N vs) H) : FnOk P w K mg base CX0 (k + 1) f fd ps sp := by
 walk_at "z6"
 refine fn_of lk hcd S len fun A outer s H vs Q E hr hsp => ?_
 obtain ⟨t, h, q⟩ := hbody cdv A outer s H vs Q E hr hsp
 exact ⟨t, h.nox, q⟩
theorem Fun.binds {x qual : Str} {st : Stmt} {f : Addr} {fd : FuncData} {ps : List Str} (F : Fun K x qual st f fd)
 (h : ∀ (kV doc pm : Value) (an : Option Addr) (cdv ct : Value) (us : List Value), us.length = ps.length → bindArgs (PySem.W.fnOf x qual (defArgs st) (defBody st) (defScope st) .none kV doc pm an cdv ct) ⟨us, []⟩ = pure (ps.zip us)) : Binds K fd ps [] := by
 walk_at "z6"
 exact .all (h kV doc pm an cdv ct)
theorem fun_mk {x qual : Str} {st : Stmt} {f : Addr} {oc : Value} {od an : Option Addr} {osl : Array (Option Value)} {kV doc pm cdv ct : Value} (l : K.lookup f = some ⟨oc, od, .func (PySem.W.fnOf x qual (defArgs st) (defBody st) (defScope st) .none kV doc pm an cdv ct), osl⟩)
 (c : PySem.W.codeIn K cdv qual = true) (k : PySem.W.keepIn K (.ref f) = true) : Fun K x qual st f (PySem.W.fnOf x qual (defArgs st) (defBody st) (defScope st) .none kV doc pm an cdv ct) := ⟨⟨oc, od, kV, doc, pm, an, cdv, ct, osl, rfl, l, c⟩, k⟩
end
section
variable {X : Cx}
theorem pv (i : Nat) {x : Str} {pos : Pos} (hN : X.N[i]? = some x := by rfl) (hv : Vis X.env.scope x := by first | exact Or.inl rfl | exact Or.inr (Or.inl rfl) | exact Or.inr (Or.inr rfl)) (hd : (x == ("__debug__" : Str)) = false := by decide)
 (hcd : (x == ("__classdict__" : Str)) = false := by decide) : PE X (.Name x pos) (tVar i) := pe_var hN hv hd hcd
end
theorem iteF {A B : Prop} (h : B) : if false = true then A else B := by
 rw [if_neg Bool.false_ne_true]
 exact h
theorem iteT {A B : Prop} (h : A) : if true = true then A else B := by
 rw [if_pos rfl]
 exact h
def Same (H H' : Hp) : Prop := ∀ b o, H b = some o → H' b = some o
theorem Same.refl (H : Hp) : Same H H := fun _ _ h => h
theorem Same.trans {H H1 H2 : Hp} (a : Same H H1) (b : Same H1 H2) : Same H H2 := fun c o h => b c o (a c o h)
theorem Same.free {H H' : Hp} (e : Same H H') {l : Addr} (h : H' l = Option.none) : H l = Option.none := by
 cases q : H l with
 | none => rfl
 | some o =>
   rw [e l o q] at h
   cases h
theorem Same.seq {K : PySem.W.Frag} {H H' : Hp} {a : Addr} {xs : List V} (e : Same H H') (h : SqL K H a xs) : SqL K H' a xs := by
 rcases h with (h | ⟨o, h⟩) | h
 ·exact .inl (.inl (e _ _ h))
 ·exact .inl (.inr ⟨o, e _ _ h⟩)
 ·exact .inr h
end L2
namespace L2
open PySem PySem.Spec PyProof.Rows
def PdAt (K : PySem.W.Frag) (H : Hp) : Nat → PyData → V → Prop
 | 0, d, v => match d with
   | .none => v = .non
   | .bool b => v = .bl b
   | .int i => v = .int i
   | .str x => v = .str x ∧ PyData.strOk x = true
   | _ => False
 | n + 1, d, v => match d with
   | .none => v = .non
   | .bool b => v = .bl b
   | .int i => v = .int i
   | .str x => v = .str x ∧ PyData.strOk x = true
   | .list ds => ∃ a xs, v = .ref a ∧ SqL K H a xs ∧ Paired (PdAt K H n) ds xs
   | .tuple ds => ∃ a xs, v = .ref a ∧ SqT K H a xs ∧ Paired (PdAt K H n) ds xs
   | .dict _ => False
section
variable {X : Cx} {pins : List (Addr × Obj)} {σ : St} {H : Hp} {s : Shared}
theorem pd_reads (I : Inv X pins σ H s) : ∀ (n : Nat) (d : PyData) (v : V) (u : Value), PdAt X.K H n d v → RelV v u → ∃ as, Reads s.heap u d as := by
 intro n
 induction n with
 | zero =>
   intro d v u h r
   cases d with
   | none => cases (show v = .non from h); cases (show u = Value.none from r); exact ⟨_, Reads.none⟩
   | bool b => cases (show v = .bl b from h); cases (show u = Value.bool b from r); exact ⟨_, Reads.bool b⟩
   | int i => cases (show v = .int i from h); obtain ⟨t, rfl⟩ := (show ∃ t, u = Value.int i t from r); exact ⟨_, Reads.int i t⟩
   | str x => cases (show v = .str x ∧ _ from h).1; obtain ⟨t, rfl⟩ := (show ∃ t, u = Value.str x t from r); exact ⟨_, Reads.str x t⟩
   | list _ => exact (show False from h).elim
   | tuple _ => exact (show False from h).elim
   | dict _ => exact (show False from h).elim
 | succ n ih =>
   have all : ∀ (ds : List PyData) (xs : List V) (us : List Value), Paired (PdAt X.K H n) ds xs → Vals xs us → ∃ as, ReadsAll s.heap us ds as := by
    intro ds xs us p
    induction p generalizing us with
    | nil => intro r; cases r; exact ⟨_, ReadsAll.nil⟩
    | cons q _ hi =>
      intro r
      cases r with
      | cons r1 rr =>
        obtain ⟨as, h1⟩ := ih _ _ _ q r1
        obtain ⟨bs, h2⟩ := hi _ rr
        exact ⟨_, ReadsAll.cons h1 h2⟩
   intro d v u h r
   cases d with
   | none => cases (show v = .non from h); cases (show u = Value.none from r); exact ⟨_, Reads.none⟩
   | bool b => cases (show v = .bl b from h); cases (show u = Value.bool b from r); exact ⟨_, Reads.bool b⟩
   | int i => cases (show v = .int i from h); obtain ⟨t, rfl⟩ := (show ∃ t, u = Value.int i t from r); exact ⟨_, Reads.int i t⟩
   | str x => cases (show v = .str x ∧ _ from h).1; obtain ⟨t, rfl⟩ := (show ∃ t, u = Value.str x t from r); exact ⟨_, Reads.str x t⟩
   | list ds =>
     obtain ⟨a, xs, rfl, hq, hp⟩ := (show ∃ a xs, v = .ref a ∧ SqL X.K H a xs ∧ Paired (PdAt X.K H n) ds xs from h)
     cases (show u = Value.ref a from r)
     obtain ⟨its, rv, pl, hz⟩ := I.list hq
     obtain ⟨as, ra⟩ := all _ _ _ hp rv
     obtain ⟨o, ho, hc, k, hd⟩ := pl.isList
     exact ⟨_, reads_list_at ho hc hd (by simpa using ra)⟩
   | tuple ds =>
     obtain ⟨a, xs, rfl, hq, hp⟩ := (show ∃ a xs, v = .ref a ∧ SqT X.K H a xs ∧ Paired (PdAt X.K H n) ds xs from h)
     cases (show u = Value.ref a from r)
     obtain ⟨its, rv, pl, hz⟩ := I.tuple hq
     obtain ⟨as, ra⟩ := all _ _ _ hp rv
     obtain ⟨o, ho, hc, k, hd⟩ := (show s.heap.IsTuple a its.toArray from pl)
     exact ⟨_, reads_tuple_at ho hc hd (by simpa using ra)⟩
   | dict _ => exact (show False from h).elim
end
theorem pd_shape {K : PySem.W.Frag} {H : Hp} : ∀ (n : Nat) (d : PyData) (v : V), PdAt K H n d v → d.canLay0 = true ∧ d.depth ≤ n := by
 intro n
 induction n with
 | zero =>
   intro d v h
   cases d with
   | str x => simp [PyData.canLay0, PyData.depth, (show v = .str x ∧ PyData.strOk x = true from h).2]
   | list _ => exact (show False from h).elim
   | tuple _ => exact (show False from h).elim
   | dict _ => exact (show False from h).elim
   | _ => simp [PyData.canLay0, PyData.depth]
 | succ n ih =>
   have all : ∀ (ds : List PyData) (xs : List V), Paired (PdAt K H n) ds xs → PyData.canLayAll0 ds = true ∧ PyData.depthAll ds ≤ n := by
    intro ds xs p
    induction p with
    | nil => simp [PyData.canLayAll0, PyData.depthAll]
    | cons q _ hi =>
      have h1 := ih _ _ q
      simp only [PyData.canLayAll0, PyData.depthAll, h1.1, hi.1, Bool.and_self, true_and]
      have a1 := h1.2
      have a2 := hi.2
      lia
   intro d v h
   cases d with
   | str x => simp [PyData.canLay0, PyData.depth, (show v = .str x ∧ PyData.strOk x = true from h).2]
   | list ds =>
     obtain ⟨a, xs, rfl, hq, hp⟩ := (show ∃ a xs, v = .ref a ∧ SqL K H a xs ∧ Paired (PdAt K H n) ds xs from h)
     have q := all _ _ hp
     have q2 := q.2
     simp only [PyData.canLay0, PyData.depth, q.1, true_and]
     lia
   | tuple ds =>
     obtain ⟨a, xs, rfl, hq, hp⟩ := (show ∃ a xs, v = .ref a ∧ SqT K H a xs ∧ Paired (PdAt K H n) ds xs from h)
     have q := all _ _ hp
     have q2 := q.2
     simp only [PyData.canLay0, PyData.depth, q.1, true_and]
     lia
   | dict _ => exact (show False from h).elim
   | _ => simp [PyData.canLay0, PyData.depth]
def rEqP (K : PySem.W.Frag) : R2 := fun x y H Q => ∃ d e, PdAt K H 9 d x ∧ PdAt K H 9 e y ∧ Q (.bl (PyData.eqv d e)) H
def rNeP (K : PySem.W.Frag) : R2 := fun x y H Q => ∃ d e, PdAt K H 9 d x ∧ PdAt K H 9 e y ∧ Q (.bl (!PyData.eqv d e)) H
section
variable {X : Cx}
theorem pd_shaped {K : PySem.W.Frag} {H : Hp} {d : PyData} {v : V} (h : PdAt K H 9 d v) : SeqAt.shaped d = true := by
 have q := pd_shape 9 d v h
 unfold SeqAt.shaped
 rw [q.1, Bool.true_and]
 exact decide_eq_true (Nat.le_trans q.2 (by decide))
theorem op_eqP (hu : X.A.units + 64 < cLine) : OpR X (compareOp .Eq) (rEqP X.K) := by
 intro pins s σ H x y v u Q I rx ry h
 obtain ⟨d, e, hd, he, q⟩ := h
 obtain ⟨as, ra⟩ := pd_reads I 9 d x v hd rx
 obtain ⟨bs, rb⟩ := pd_reads I 9 e y u he ry
 exact eq_dataH ra rb (pd_shaped hd) (pd_shaped he) hu ⟨.bl _, H, I, rfl, q⟩
theorem op_neP (hu : X.A.units + 64 < cLine) : OpR X (compareOp .NotEq) (rNeP X.K) := by
 intro pins s σ H x y v u Q I rx ry h
 obtain ⟨d, e, hd, he, q⟩ := h
 obtain ⟨as, ra⟩ := pd_reads I 9 d x v hd rx
 obtain ⟨bs, rb⟩ := pd_reads I 9 e y u he ry
 exact ne_dataH ra rb (pd_shaped hd) (pd_shaped he) hu ⟨.bl _, H, I, rfl, q⟩
end
abbrev iL (ns : List Int) : List V := ns.map V.int
abbrev pL (ns : List Int) : PyData := .list (ns.map PyData.int)
theorem eqvAll_ints : ∀ (xs ys : List Int), PyData.eqvAll (xs.map PyData.int) (ys.map PyData.int) = decide (xs = ys)
 | [], [] => by simp [PyData.eqvAll]
 | [], y :: ys => by simp [PyData.eqvAll]
 | x :: xs, [] => by simp [PyData.eqvAll]
 | x :: xs, y :: ys => by
   simp only [List.map_cons, PyData.eqvAll, PyData.eqv, eqvAll_ints xs ys, List.cons.injEq]
   by_cases h1 : x = y <;> by_cases h2 : xs = ys <;> simp [h1, h2]
theorem eqv_pints (xs ys : List Int) : PyData.eqv (pL xs) (pL ys) = decide (xs = ys) := by
 show PyData.eqvAll _ _ = _
 exact eqvAll_ints xs ys
theorem paired_ints {K : PySem.W.Frag} {H : Hp} {n : Nat} : ∀ ns : List Int, Paired (PdAt K H n) (ns.map PyData.int) (iL ns)
 | [] => .nil
 | i :: ns => .cons (by cases n <;> exact (rfl : V.int i = V.int i)) (paired_ints ns)
theorem pd_ints {K : PySem.W.Frag} {H : Hp} {n : Nat} {a : Addr} {ns : List Int} (h : SqL K H a (iL ns)) : PdAt K H (n + 1) (pL ns) (.ref a) := ⟨a, iL ns, rfl, h, paired_ints ns⟩
theorem pd_int {K : PySem.W.Frag} {H : Hp} {n : Nat} {i : Int} : PdAt K H n (.int i) (.int i) := by cases n <;> exact (rfl : V.int i = V.int i)
theorem pd_bl {K : PySem.W.Frag} {H : Hp} {n : Nat} {b : Bool} : PdAt K H n (.bool b) (.bl b) := by cases n <;> exact (rfl : V.bl b = V.bl b)
section
variable {K : PySem.W.Frag} {σ : St} {H : Hp} {Q : VK}
theorem i_var {i : Nat} {v : V} (h : σ[i]? = some (some v)) (q : Q v H) : tVar i σ H Q := ⟨v, h, q⟩
theorem i_I0 {g : Int → Int → V} {i j : Int} (q : Q (g i j) H) : rI0 g (.int i) (.int j) H Q := ⟨i, j, rfl, rfl, q⟩
theorem i_U {g : Int → V} {i : Int} (q : Q (g i) H) : rU g (.int i) H Q := ⟨i, rfl, q⟩
theorem beq_dec (i j : Int) : (i == j) = decide (i = j) := by
 by_cases h : i = j <;> simp [h]
theorem i_eqI {i j : Int} (q : Q (.bl (decide (i = j))) H) : rEqP K (.int i) (.int j) H Q := ⟨_, _, pd_int, pd_int, by rw [← beq_dec] at q; simpa [PyData.eqv] using q⟩
theorem i_neI {i j : Int} (q : Q (.bl (!decide (i = j))) H) : rNeP K (.int i) (.int j) H Q := ⟨_, _, pd_int, pd_int, by rw [← beq_dec] at q; simpa [PyData.eqv] using q⟩
end
def rAddP : R2 := fun x y H Q => rI0 (fun i j => .int (i + j)) x y H Q ∨ rCat x y H Q
def rIxP (K : PySem.W.Frag) : R2 := fun x y H Q => rIxL K x y H Q ∨ rIxT K x y H Q
def rMulP : R2 := fun x y H Q => rI CMul (fun i j => .int (i * j)) x y H Q ∨ rRep x y H Q
section
variable {X : Cx}
theorem op_addP : OpR X (binaryOp .Add) rAddP := op_add.or op_cat
theorem op_mulP : OpR X (binaryOp .Mult) rMulP := op_mul.or op_rep
theorem ix_P : IxR X (rIxP X.K) := ix_list.or ix_tup
end
section
variable {K : PySem.W.Frag} {σ : St} {H : Hp} {Q : VK}
theorem i_addI {i j : Int} (q : Q (.int (i + j)) H) : rAddP (.int i) (.int j) H Q := .inl ⟨i, j, rfl, rfl, q⟩
theorem i_addL {a b : Addr} {xs ys : List V} (ha : H a = some (.lst xs)) (hb : H b = some (.lst ys)) (hl : xs.length + ys.length ≤ sizeLine) (q : ∀ p, H p = none → Q (.ref p) (upd H p (.lst (xs ++ ys)))) : rAddP (.ref a) (.ref b) H Q := .inr ⟨a, b, xs, ys, rfl, rfl, ha, hb, hl, q⟩
theorem i_mulI {i j : Int} (c : CMul i j) (q : Q (.int (i * j)) H) : rMulP (.int i) (.int j) H Q := .inl ⟨i, j, rfl, rfl, c, q⟩
theorem atI_ints {ns : List Int} {i : Int} (h0 : 0 ≤ i) (h1 : i < ns.length) : ∃ v, atI (iL ns) i = some (.int v) ∧ ns[i.toNat]? = some v ∧ v ∈ ns := by
 have hl : i.toNat < ns.length := by lia
 refine ⟨ns[i.toNat], ?_, by simp [hl], List.getElem_mem hl⟩
 have := atI_nat (xs := iL ns) (j := i.toNat) (v := .int ns[i.toNat]) (by simp [iL, hl])
 rwa [Int.toNat_of_nonneg h0] at this
theorem i_ixL {p : Addr} {ns : List Int} {i : Int} (h : SqL K H p (iL ns)) (h0 : 0 ≤ i) (h1 : i < ns.length) (q : ∀ v, ns[i.toNat]? = some v → v ∈ ns → Q (.int v) H) : rIxP K (.ref p) (.int i) H Q := by
 obtain ⟨v, e1, e2, e3⟩ := atI_ints h0 h1
 exact .inl ⟨p, _, i, _, rfl, rfl, h, e1, q v e2 e3⟩
theorem i_ixN {p : Addr} {xs : List V} {i : Int} {v : V} (h : SqL K H p xs) (h0 : 0 ≤ i) (e : xs[i.toNat]? = some v) (q : Q v H) : rIxP K (.ref p) (.int i) H Q := by
 have := atI_nat (xs := xs) (j := i.toNat) (v := v) e
 rw [Int.toNat_of_nonneg h0] at this
 exact .inl ⟨p, _, i, _, rfl, rfl, h, this, q⟩
theorem i_ixT {p : Addr} {xs : List V} {i : Int} {v : V} (h : SqT K H p xs) (h0 : 0 ≤ i) (e : xs[i.toNat]? = some v) (q : Q v H) : rIxP K (.ref p) (.int i) H Q := by
 have := atI_nat (xs := xs) (j := i.toNat) (v := v) e
 rw [Int.toNat_of_nonneg h0] at this
 exact .inr ⟨p, _, i, _, rfl, rfl, h, this, q⟩
theorem i_ixLast {p : Addr} {xs : List V} {v : V} (h : SqL K H p (xs ++ [v])) (q : Q v H) : rIxP K (.ref p) (.int (-1)) H Q := .inl ⟨p, _, _, _, rfl, rfl, h, atI_last xs v, q⟩
end
def Callee (P : Program) (w : World) (K : PySem.W.Frag) (mg : Str → Option Value) (base : Heap) (x : Str) (k : Nat) (sp : Sp) : Prop :=
 ∃ f fd ps, FnOk P w K mg base CX0 k f fd ps sp ∧ mg x = some (.ref f) ∧ PySem.W.keepIn K (.ref f) = true ∧ Binds K fd ps []
def Def (K : PySem.W.Frag) (mg : Str → Option Value) (x : Str) (st : Stmt) : Prop := ∃ f fd, Fun K x x st f fd ∧ mg x = some (.ref f)
section
variable {X : Cx} {x : Str} {k : Nat} {sp : Sp} {e : Expr} {es : List Expr} {t : TA} {p pos : Pos}
theorem pe_callN (C : Callee X.prog X.w X.K X.mg X.base x k sp) (hr : Room k X.A) (hg : Gl X x) (ha : PA X (e :: es) t)
 (he : starEach (e :: es) X.env = (false, eval e X.env) :: starEach es X.env := by rfl) (hpl : (backTo pos (starEach es X.env)).any (·.1) = false := by rfl)
 (hdb : (x == ("__debug__" : Str)) = false := by decide) : PE X (.Call (.Name x p) (e :: es) [] pos) (tCall sp [] E0 t) := by
 obtain ⟨f, fd, ps, F, hm, hk, hb⟩ := C
 exact pe_call F hr hg hm hk hb .nil pass0 ha (hdb := hdb) (he := he) (hpl := hpl)
def rTru (K : PySem.W.Frag) (x : V) (H : Hp) (Q : Bool → Hp → Prop) : Prop := ∃ k, TruV K x H k ∧ Q k H
def tTru (K : PySem.W.Frag) (ta : TE) : TT := fun σ H Q => ta σ H fun x H' => rTru K x H' Q
theorem pt_truthN {a : Expr} {ta : TE} (ha : PE X a ta) (he : ∀ whole, isTrue a X.env whole = (do let v ← whole; standAt a.pos; holding [v] (truthy v))) :
 PT X a (tTru X.K ta) := pt_truth ha he
end
theorem Def.ok {P : Program} {w : World} {K : PySem.W.Frag} {mg : Str → Option Value} {base : Heap} {x : Str} {st : Stmt} {N ps : List Str} {k : Nat} {sp : Sp} (D : Def K mg x st) (S : FnScope N ps (defScope st))
 (bd : ∀ (kV doc pm : Value) (an : Option Addr) (cdv ct : Value) (us : List Value), us.length = ps.length → bindArgs (PySem.W.fnOf x x (defArgs st) (defBody st) (defScope st) .none kV doc pm an cdv ct) ⟨us, []⟩ = pure (ps.zip us))
 (len : ∀ vs H Q E, sp vs H Q E → vs.length = ps.length)
 (hbody : ∀ (f : Addr) (cdv : Value) (A : Around) (outer : List Env) (s : Shared) (H : Hp) (vs : List V) (Q : VK) (E : XK), Room k (A.deeper (envOfC x (defScope st) s.heap.objs.size f cdv)) → sp vs H Q E →
  ∃ t, PSs (cxOf CX0 P w K mg base N x (defScope st) f cdv A outer s H E).nox (defBody st) t ∧ t { nx := fun _ H' => Q .non H', rt := Q } (start N vs) H) : Callee P w K mg base x (k + 1) sp := by
 obtain ⟨f, fd, F, hm⟩ := D
 exact ⟨f, fd, ps, F.ok S len fun cdv A outer s H vs Q E hr h => hbody f cdv A outer s H vs Q E hr h, hm, F.kp, F.binds bd⟩
def rLen (K : PySem.W.Frag) : List V → Hp → VK → Prop := fun xs H Q => ∃ x n, xs = [x] ∧ LenV K x H n ∧ Q (.int n) H
def rIsi (K : PySem.W.Frag) : List V → Hp → VK → Prop := fun xs H Q => ∃ x t n b, xs = [x, .ty n] ∧ TyOf K H x t ∧ PySem.W.kitOne K t (.type n) = some b ∧ Q (.bl b) H
def rIntOf : List V → Hp → VK → Prop := fun xs H Q => (∃ i, xs = [.int i] ∧ Q (.int i) H) ∨ ∃ k, xs = [.bl k] ∧ Q (.int (if k then 1 else 0)) H
def rAbs : List V → Hp → VK → Prop := fun xs H Q => ∃ i, xs = [.int i] ∧ Q (.int (if i < 0 then -i else i)) H
def rListOf (K : PySem.W.Frag) : List V → Hp → VK → Prop := fun xs H Q => ∃ p ys, xs = [.ref p] ∧ (SqL K H p ys ∨ SqT K H p ys) ∧ ∀ l, H l = none → Q (.ref l) (upd H l (.lst ys))
section
variable {X : Cx}
theorem call_lenN : CallR X (.builtin "len") (rLen X.K) := call_len
theorem call_intN : CallR X (.type "int") rIntOf := call_int1
theorem call_absN : CallR X (.builtin "abs") rAbs := call_abs
theorem call_listN : CallR X (.type "list") (rListOf X.K) := call_list_of
end
section
variable {K : PySem.W.Frag} {σ : St} {H : Hp} {Q : VK}
theorem i_len {p : Addr} {xs : List V} (h : SqL K H p xs) (q : Q (.int xs.length) H) : rLen K [.ref p] H Q := ⟨_, _, rfl, .inl ⟨xs, h, rfl⟩, q⟩
theorem i_lenI {p : Addr} {ns : List Int} (h : SqL K H p (iL ns)) (q : Q (.int ns.length) H) : rLen K [.ref p] H Q := ⟨_, _, rfl, .inl ⟨_, h, rfl⟩, by simpa [iL] using q⟩
theorem i_intB {k : Bool} (q : Q (.int (if k then 1 else 0)) H) : rIntOf [.bl k] H Q := .inr ⟨k, rfl, q⟩
theorem i_abs {i : Int} (q : Q (.int (if i < 0 then -i else i)) H) : rAbs [.int i] H Q := ⟨i, rfl, q⟩
theorem i_listL {p : Addr} {ys : List V} (h : SqL K H p ys) (q : ∀ l, H l = none → Q (.ref l) (upd H l (.lst ys))) : rListOf K [.ref p] H Q := ⟨p, ys, rfl, .inl h, q⟩
theorem isi_ii : PySem.W.kitOne K (.type "int") (.type "int") = some true := by kernel_rfl
theorem isi_ib : PySem.W.kitOne K (.type "int") (.type "bool") = some false := by kernel_rfl
theorem isi_ll : PySem.W.kitOne K (.type "list") (.type "list") = some true := by kernel_rfl
theorem isi_il : PySem.W.kitOne K (.type "int") (.type "list") = some false := by kernel_rfl
theorem isi_id : PySem.W.kitOne K (.type "int") (.type "dict") = some false := by kernel_rfl
theorem isi_it : PySem.W.kitOne K (.type "int") (.type "tuple") = some false := by kernel_rfl
theorem isi_bb : PySem.W.kitOne K (.type "bool") (.type "bool") = some true := by kernel_rfl
theorem i_isiII {i : Int} (q : Q (.bl true) H) : rIsi K [.int i, .ty "int"] H Q := ⟨_, _, _, true, rfl, .int i, isi_ii, q⟩
theorem i_isiIB {i : Int} (q : Q (.bl false) H) : rIsi K [.int i, .ty "bool"] H Q := ⟨_, _, _, false, rfl, .int i, isi_ib, q⟩
theorem i_isiIL {i : Int} (q : Q (.bl false) H) : rIsi K [.int i, .ty "list"] H Q := ⟨_, _, _, false, rfl, .int i, isi_il, q⟩
theorem i_isiID {i : Int} (q : Q (.bl false) H) : rIsi K [.int i, .ty "dict"] H Q := ⟨_, _, _, false, rfl, .int i, isi_id, q⟩
theorem i_isiIT {i : Int} (q : Q (.bl false) H) : rIsi K [.int i, .ty "tuple"] H Q := ⟨_, _, _, false, rfl, .int i, isi_it, q⟩
theorem i_isiBB {b : Bool} (q : Q (.bl true) H) : rIsi K [.bl b, .ty "bool"] H Q := ⟨_, _, _, true, rfl, .bl b, isi_bb, q⟩
end
theorem i_if {p : Prop} [Decidable p] {A B : Prop} (h1 : p → A) (h2 : ¬ p → B) : if decide p = true then A else B := by
 by_cases h : p
 ·rw [decide_eq_true h]; exact iteT (h1 h)
 ·rw [decide_eq_false h]; exact iteF (h2 h)
theorem i_ifn {p : Prop} [Decidable p] {A B : Prop} (h1 : ¬ p → A) (h2 : p → B) : if (!decide p) = true then A else B := by
 by_cases h : p
 ·rw [decide_eq_true h]; exact iteF (h2 h)
 ·rw [decide_eq_false h]; exact iteT (h1 h)
theorem i_ifb {b : Bool} {A B : Prop} (h1 : b = true → A) (h2 : b = false → B) : if b = true then A else B := by
 cases b
 ·exact iteF (h2 rfl)
 ·exact iteT (h1 rfl)
theorem iteNT {A B : Prop} (h : B) : if (!true) = true then A else B := iteF h
theorem iteNF {A B : Prop} (h : A) : if (!false) = true then A else B := iteT h
theorem szl {n : Nat} (h : n ≤ 100000) : n ≤ sizeLine := Nat.le_trans h (by rw [sizeLine_eq]; decide)
theorem szlt {n : Nat} (h : n ≤ 100000) : n < sizeLine := Nat.lt_of_le_of_lt h (by rw [sizeLine_eq]; decide)
theorem same_upd {H : Hp} {l : Addr} {o : HO} (h : H l = none) : Same H (upd H l o) := fun b u e => by rw [upd_ne (ne_of_none e h)]; exact e
def SameBut (l : Addr) (H H' : Hp) : Prop := ∀ b o, b ≠ l → H b = some o → H' b = some o
theorem cmul_l {i j : Int} (h1 : -(2 ^ 64) < i) (h2 : i < 2 ^ 64) : CMul i j := .inl ⟨h1, h2⟩
theorem cmul_r {i j : Int} (h1 : -(2 ^ 64) < j) (h2 : j < 2 ^ 64) : CMul i j := .inr ⟨h1, h2⟩
end L2
namespace L2
open PySem PySem.Spec PyProof.Rows
theorem bt_int : bootBuiltins "int" = some (.type "int") := by first | exact PySem.boot_int | exact PySem.Pv.boot_int | exact PyProof.Rows.boot_int
theorem bt_list : bootBuiltins "list" = some (.type "list") := by first | exact PySem.boot_list | exact PySem.Pv.boot_list | exact PyProof.Rows.boot_list
theorem bt_tuple : bootBuiltins "tuple" = some (.type "tuple") := by first | exact PySem.boot_tuple | exact PySem.Pv.boot_tuple | exact PyProof.Rows.boot_tuple
theorem bt_isinstance : bootBuiltins "isinstance" = some (.builtin "isinstance") := by first | exact PySem.boot_isinstance | exact PySem.Pv.boot_isinstance | exact PyProof.Rows.boot_isinstance
theorem bt_min : bootBuiltins "min" = some (.builtin "min") := by first | exact PySem.boot_min | exact PySem.Pv.boot_min | exact PyProof.Rows.boot_min
theorem bt_max : bootBuiltins "max" = some (.builtin "max") := by first | exact PySem.boot_max | exact PySem.Pv.boot_max | exact PyProof.Rows.boot_max
theorem bt_sum : bootBuiltins "sum" = some (.builtin "sum") := by first | exact PySem.boot_sum | exact PySem.Pv.boot_sum | exact PyProof.Rows.boot_sum
theorem bt_sorted : bootBuiltins "sorted" = some (.builtin "sorted") := by first | exact PySem.boot_sorted | exact PySem.Pv.boot_sorted | exact PyProof.Rows.boot_sorted
theorem bt_abs : bootBuiltins "abs" = some (.builtin "abs") := by first | exact PySem.boot_abs | exact PySem.Pv.boot_abs | exact PyProof.Rows.boot_abs
theorem bt_len : bootBuiltins "len" = some (.builtin "len") := by first | exact PySem.boot_len | exact PySem.Pv.boot_len | exact PyProof.Rows.boot_len
section
variable {X : Cx} {pos p1 p2 : Pos} {k1 k2 : Nat}
theorem pe_powK {i j r : Int} (h : 0 ≤ j ∧ j ≤ 1000000 ∧ i.natAbs < 2 ^ 64 ∧ i ^ j.toNat = r) : PE X (.BinOp (.Constant (.int i) k1 p1) .Pow (.Constant (.int j) k2 p2) pos) (tC (.int r)) := by
 intro pins s σ H Q I q
 refine pe_op op_pow pe_int pe_int pins s σ H Q I ?_
 exact ⟨i, j, rfl, rfl, ⟨h.1, h.2.1, h.2.2.1⟩, by have e := h.2.2.2; subst e; exact q⟩
theorem pe_negK {i r : Int} (h : -i = r) : PE X (.UnaryOp .USub (.Constant (.int i) k1 p1) pos) (tC (.int r)) := by
 intro pins s σ H Q I q
 refine pe_un un_neg pe_int pins s σ H Q I ?_
 exact ⟨i, rfl, by subst h; exact q⟩
end
section
variable {K : PySem.W.Frag} {σ : St} {H : Hp} {Q : VK} {i j : Int}
theorem i_div (h0 : 0 < j) (h1 : j < 1073741824) (q : Q (.int (i / j)) H) : rI CDiv (fun i j => .int (i / j)) (.int i) (.int j) H Q := ⟨i, j, rfl, rfl, ⟨h0, h1⟩, q⟩
theorem i_mod (h0 : 0 < j) (q : Q (.int (i % j)) H) : rI (fun _ j => 0 < j) (fun i j => .int (i % j)) (.int i) (.int j) H Q := ⟨i, j, rfl, rfl, h0, q⟩
theorem i_app {l : Addr} {xs : List V} {y : V} (h : H l = some (.lst xs)) (hl : xs.length < sizeLine) (q : Q .non (upd H l (.lst (xs ++ [y])))) : rAppend (.ref l) [y] H Q := ⟨l, xs, y, rfl, rfl, h, hl, q⟩
end
end L2
namespace L2
open PySem PySem.Spec PyProof.Rows
def LoopI (J : It) (g : TG) (tb : TS) (D : Ends) (σ : St) (H1 : Hp) : Prop := ∃ W : Nat → Nat → St → Hp → Prop, (∃ m, W 0 m σ H1) ∧ ∀ i m σ H, W i m σ H →
 (J.stop i H ∧ D.nx σ H) ∨ (J.go i H ∧ ∃ N : St → Hp → Prop, (∀ σ' H', N σ' H' → ∃ m', m' < m ∧ W (i + 1) m' σ' H') ∧ ∀ x H', J.yld i H x H' → g x σ H' fun σ2 H2 => tb { D with nx := N, ct := N, bk := D.nx } σ2 H2)
theorem tFor_eq (wi : TI) (g : TG) (tb : TS) : tFor wi g tb = fun D σ H => wi σ H fun J H1 => LoopI J g tb D σ H1 := rfl
theorem lp_list {K : PySem.W.Frag} {a : Addr} {xs : List V} {g : TG} {tb : TS} {D : Ends} {σ : St} {H : Hp} (Pv : Nat → St → Hp → Prop) (h0 : Pv 0 σ H) (hl : ∀ i σ H, i ≤ xs.length → Pv i σ H → SqL K H a xs)
 (hs : ∀ i x σ H, xs[i]? = some x → Pv i σ H → g x σ H fun σ2 H2 => tb { D with nx := Pv (i + 1), ct := Pv (i + 1), bk := D.nx } σ2 H2) (hd : ∀ σ H, Pv xs.length σ H → D.nx σ H) : LoopI (Itl K a) g tb D σ H := for_list Pv h0 hl hs hd
theorem lp_ints {K : PySem.W.Frag} {a : Addr} {ns : List Int} {g : TG} {tb : TS} {D : Ends} {σ : St} {H : Hp} (Pv : Nat → St → Hp → Prop) (h0 : Pv 0 σ H) (hl : ∀ i σ H, i ≤ ns.length → Pv i σ H → SqL K H a (iL ns))
 (hs : ∀ i x σ H, ns[i]? = some x → Pv i σ H → g (.int x) σ H fun σ2 H2 => tb { D with nx := Pv (i + 1), ct := Pv (i + 1), bk := D.nx } σ2 H2) (hd : ∀ σ H, Pv ns.length σ H → D.nx σ H) : LoopI (Itl K a) g tb D σ H := by
 have e : (iL ns).length = ns.length := by simp [iL]
 refine for_list (xs := iL ns) Pv h0 (fun i σ H h p => hl i σ H (by rw [e] at h; exact h) p) (fun i x σ H hx p => ?_) (fun σ H p => hd σ H (by rw [e] at p; exact p))
 rw [List.getElem?_map] at hx
 cases q : ns[i]? with
 | none => rw [q] at hx; cases hx
 | some z =>
   rw [q] at hx
   cases hx
   exact hs i z σ H q p
theorem lp_range {lo : Int} {n : Nat} {g : TG} {tb : TS} {D : Ends} {σ : St} {H : Hp} (Pv : Nat → St → Hp → Prop) (h0 : Pv 0 σ H)
 (hs : ∀ i σ H, i < n → Pv i σ H → g (.int (lo + i)) σ H fun σ2 H2 => tb { D with nx := Pv (i + 1), ct := Pv (i + 1), bk := D.nx } σ2 H2) (hd : ∀ σ H, Pv n σ H → D.nx σ H) : LoopI (Itr lo n) g tb D σ H := for_range Pv h0 hs hd
theorem i_truB {K : PySem.W.Frag} {b : Bool} {H : Hp} {Q : Bool → Hp → Prop} (q : Q b H) : rTru K (.bl b) H Q := ⟨b, rfl, q⟩
theorem i_truL {K : PySem.W.Frag} {p : Addr} {xs : List V} {H : Hp} {Q : Bool → Hp → Prop} (h : SqL K H p xs) (q : Q (!xs.isEmpty) H) : rTru K (.ref p) H Q := ⟨_, .inl ⟨xs, h, rfl⟩, q⟩
end L2
namespace L2
open PySem PySem.Spec PyProof.Rows
def rMenu (xs : List V) (y : V) (H : Hp) (Q : VK) : Prop := ∃ i v, y = .int i ∧ atI xs i = some v ∧ Q v H
def tMenu (t : TA) (ti : TE) : TE := fun σ H Q => t σ H fun xs H1 => xs.length ≤ sizeLine ∧ ti σ H1 fun y H2 => rMenu xs y H2 Q
section
variable {X : Cx} {es : List Expr} {b : Expr} {t : TA} {tb : TE} {p1 pos : Pos}
theorem item_raw {X : Cx} {value slice : Expr} {pins : List (Addr × Obj)} {s : Shared} {σ : St} {H : Hp} {p : Addr} {its : List Value} {xs : List V} {i : Int} {tk : Tok} {z : V} {Q : VK} (I : Inv X pins σ H s) (r : Vals xs its) (hz : xs.length ≤ sizeLine)
 (pl : s.heap.IsList p its.toArray) (he : atI xs i = some z) (q : Q z H) (hs : subscripted slice false (.ref p) (.int i tk) = operate [.ref p, .int i tk] (getItem (.ref p) (.int i tk))) :
 wpAny (model X.prog X.w) X.A (subscriptTail value slice (.ref p) (.int i tk)) (EP X pins σ Q) X.xe s := by
 obtain ⟨j, h1, h2, h3, h4, h5⟩ := atI_get he
 obtain ⟨w, ew, rw'⟩ := r.get h2
 have hl := r.length
 have hn := line63
 have fin : EP X pins σ Q w s := ⟨z, H, I, rw', q⟩
 by_cases h0 : 0 ≤ i
 ·have hj : i.toNat = j := by
   rw [seqIndex_of h0 h5] at h1
   exact Option.some.inj h1
  exact item_listR pl h0 (by lia) (by rw [hj]; simpa using ew) fin hs
 ·have hj : (i + (its.toArray.size : Int)).toNat = j := by
   rw [seqIndex_neg (by lia) h4] at h1
   rw [List.size_toArray, ← hl]
   exact Option.some.inj h1
  exact subscriptTail_builtinR (x := w) pl.typeIs slot_list_getitem.lookup
   (wpAny_getItem_list_neg (Q := fun r s' => r = w ∧ EP X pins σ Q r s') pl (by lia) (by rw [List.size_toArray] <;> lia) (by lia) (by rw [hj]; simpa using ew) ⟨rfl, fin⟩) hs
theorem pe_menu (h : PA X es t) (hb : PE X b tb) (hs : PlainIx b) : PE X (.Subscript (.List es p1) b pos) (tMenu t tb) := by
 intro pins s σ H Q I hq
 refine Subscript_ (wpAny_List_spliced (thn (h p1 pins s σ H _ I hq) fun us s1 ⟨xs, H1, I1, r, z, q⟩ => ⟨by rw [← r.length]; exact z, ?_⟩))
 have hf : H1 s1.heap.objs.size = none := I1.hok.fresh (Nat.le_refl _)
 have I2 := I1.kept (t' := s1.toks) (h' := s1.heap.push { cls := .type "list", data := .seq us.toArray 0 }) (fun b u e => Heap.get?_push_of_some _ e)
 have I3 := I2.pins_of (pins' := pins ++ [(s1.heap.objs.size, { cls := .type "list", data := .seq us.toArray 0 })]) (fun p hp => by
  rcases List.mem_append.mp hp with hp | hp
  ·exact I2.pin p (List.mem_append_right _ hp)
  ·have e : p = (s1.heap.objs.size, ({ cls := .type "list", data := .seq us.toArray 0 } : Obj)) := by simpa using hp
   subst e
   refine ⟨Heap.get?_push_size _ rfl, hf, Nat.ne_of_gt I1.lt, I1.nofs (Nat.le_refl _), fun v e => ?_⟩
   have e' : Data.seq us.toArray 0 = Data.cell v := e
   cases e')
 refine thn (hb _ _ σ H1 _ I3 q) fun u s2 ⟨y, H2, I4, r4, i, v, hy, hv, qq⟩ => ?_
 subst hy
 obtain ⟨tk, rfl⟩ := r4
 have pn := (I4.pin (s1.heap.objs.size, { cls := .type "list", data := .seq us.toArray 0 }) (by simp)).1
 exact item_raw I4.unpinned r z ⟨_, pn, rfl, _, rfl⟩ hv qq (hs _ _)
end
section
variable {H : Hp} {Q : VK} {i : Int}
theorem i_menu {xs : List V} (h0 : 0 ≤ i) (h1 : i < xs.length) (q : ∀ v, xs[i.toNat]? = some v → Q v H) : rMenu xs (.int i) H Q := by
 have hl : i.toNat < xs.length := by lia
 have := atI_nat (xs := xs) (j := i.toNat) (v := xs[i.toNat]) (by simp [hl])
 rw [Int.toNat_of_nonneg h0] at this
 exact ⟨i, _, rfl, this, q _ (by simp [hl])⟩
theorem i_menu2 {xa xb : Int} (h0 : 0 ≤ i) (h1 : i < 2) (q : ∀ z, (i = 0 ∧ z = xa) ∨ (i = 1 ∧ z = xb) → Q (.int z) H) : rMenu [.int xa, .int xb] (.int i) H Q := by
 have hi : i = 0 ∨ i = 1 := by lia
 rcases hi with h | h
 ·subst h; exact ⟨0, _, rfl, rfl, q _ (by simp)⟩
 ·subst h; exact ⟨1, _, rfl, rfl, q _ (by simp)⟩
theorem i_menu3 {xa xb xc : Int} (h0 : 0 ≤ i) (h1 : i < 3) (q : ∀ z, (i = 0 ∧ z = xa) ∨ (i = 1 ∧ z = xb) ∨ (i = 2 ∧ z = xc) → Q (.int z) H) : rMenu [.int xa, .int xb, .int xc] (.int i) H Q := by
 have hi : i = 0 ∨ i = 1 ∨ i = 2 := by lia
 rcases hi with h | h | h
 ·subst h; exact ⟨0, _, rfl, rfl, q _ (by simp)⟩
 ·subst h; exact ⟨1, _, rfl, rfl, q _ (by simp)⟩
 ·subst h; exact ⟨2, _, rfl, rfl, q _ (by simp)⟩
theorem i_menu4 {xa xb xc xd : Int} (h0 : 0 ≤ i) (h1 : i < 4) (q : ∀ z, (i = 0 ∧ z = xa) ∨ (i = 1 ∧ z = xb) ∨ (i = 2 ∧ z = xc) ∨ (i = 3 ∧ z = xd) → Q (.int z) H) : rMenu [.int xa, .int xb, .int xc, .int xd] (.int i) H Q := by
 have hi : i = 0 ∨ i = 1 ∨ i = 2 ∨ i = 3 := by lia
 rcases hi with h | h | h | h
 ·subst h; exact ⟨0, _, rfl, rfl, q _ (by simp)⟩
 ·subst h; exact ⟨1, _, rfl, rfl, q _ (by simp)⟩
 ·subst h; exact ⟨2, _, rfl, rfl, q _ (by simp)⟩
 ·subst h; exact ⟨3, _, rfl, rfl, q _ (by simp)⟩
end
theorem cxOf_K (CX : CXT) (P : Program) (w : World) (K : PySem.W.Frag) (mg : Str → Option Value) (base : Heap) (N : List Str) (qual : Str) (scope : Scope) (f : Addr) (cd : Value) (A : Around) (outer : List Env) (s : Shared) (H : Hp) (E : XK) : (cxOf CX P w K mg base N qual scope f cd A outer s H E).K = K := rfl
end L2
namespace L2
open PySem PySem.Spec PyProof.Rows
def tJoin (t u : TS) : TS := fun D σ H => ∃ Pj : St → Hp → Prop, t { D with nx := Pj } σ H ∧ ∀ σ' H', Pj σ' H' → u D σ' H'
theorem pss_join {X : Cx} {st : Stmt} {rest : List Stmt} {t u : TS} (h1 : PS X st t) (h2 : PSs X rest u) : PSs X (st :: rest) (tJoin t u) := by
 intro pins s σ H D I h
 obtain ⟨Pj, ht, hu⟩ := h
 refine wpAny_execs_cons (thn (h1 pins s σ H _ I ht) fun f s1 q => ?_)
 cases f with
 | next =>
   obtain ⟨σ1, H1, I1, q1⟩ := q
   exact h2 pins s1 σ1 H1 D I1 (hu _ _ q1)
 | brk => exact q
 | cont => exact q
 | ret u => exact q
end L2
namespace L2
open PySem PySem.Spec PyProof.Rows
theorem take_min {α : Type} (xs : List α) (k : Nat) : xs.take (min k xs.length) = xs.take k := by
 by_cases h : k ≤ xs.length
 ·rw [Nat.min_eq_left h]
 ·rw [Nat.min_eq_right (by lia), List.take_of_length_le (by lia), List.take_of_length_le (by lia)]
theorem drop_min {α : Type} (xs : List α) (k : Nat) : xs.drop (min k xs.length) = xs.drop k := by
 by_cases h : k ≤ xs.length
 ·rw [Nat.min_eq_left h]
 ·rw [Nat.min_eq_right (by lia), List.drop_of_length_le (by lia), List.drop_of_length_le (by lia)]
theorem sIx_pos (n d : Nat) {b : Int} (h : 0 ≤ b) : HT.sIx n d (some b) = min b.toNat n := by
 have := HT.sIx_nat n d b.toNat
 rwa [Int.toNat_of_nonneg h] at this
theorem cut_to {xs : List V} {b : Int} (h : 0 ≤ b) : cutV xs none (some b) = xs.take b.toNat := by
 unfold cutV
 rw [HT.sIx_none, sIx_pos _ _ h, Nat.sub_zero, List.drop_zero, take_min]
theorem cut_from {xs : List V} {a : Int} (h : 0 ≤ a) : cutV xs (some a) none = xs.drop a.toNat := by
 unfold cutV
 rw [HT.sIx_none, sIx_pos _ _ h, drop_min, List.take_of_length_le]
 rw [List.length_drop]; lia
theorem cut_mid {xs : List V} {a b : Int} (h : 0 ≤ a) (h2 : 0 ≤ b) : cutV xs (some a) (some b) = (xs.drop a.toNat).take (b.toNat - a.toNat) := by
 unfold cutV
 rw [sIx_pos _ _ h, sIx_pos _ _ h2, drop_min]
 by_cases e : b.toNat ≤ xs.length
 ·by_cases e2 : a.toNat ≤ xs.length
  ·rw [Nat.min_eq_left e, Nat.min_eq_left e2]
  ·rw [List.drop_of_length_le (by lia)]; simp
 ·rw [Nat.min_eq_right (by lia)]
  by_cases e2 : a.toNat ≤ xs.length
  ·rw [Nat.min_eq_left e2, List.take_of_length_le (by rw [List.length_drop]; lia), List.take_of_length_le (by rw [List.length_drop]; lia)]
  ·rw [List.drop_of_length_le (by lia)]; simp
section
variable {K : PySem.W.Frag} {H : Hp} {Q : VK} {a : Addr} {ns : List Int}
theorem i_slTo {b : Int} (h : SqL K H a (iL ns)) (hb : 0 ≤ b) (q : ∀ p, H p = none → Q (.ref p) (upd H p (.lst (iL (ns.take b.toNat))))) : rSlL K (.ref a) none (some b) H Q :=
 ⟨a, _, rfl, h, fun p hp => by rw [cut_to hb, ← List.map_take]; exact q p hp⟩
theorem i_slFrom {b : Int} (h : SqL K H a (iL ns)) (hb : 0 ≤ b) (q : ∀ p, H p = none → Q (.ref p) (upd H p (.lst (iL (ns.drop b.toNat))))) : rSlL K (.ref a) (some b) none H Q :=
 ⟨a, _, rfl, h, fun p hp => by rw [cut_from hb, ← List.map_drop]; exact q p hp⟩
theorem i_slMid {b c : Int} (h : SqL K H a (iL ns)) (hb : 0 ≤ b) (hc : 0 ≤ c) (q : ∀ p, H p = none → Q (.ref p) (upd H p (.lst (iL ((ns.drop b.toNat).take (c.toNat - b.toNat)))))) : rSlL K (.ref a) (some b) (some c) H Q :=
 ⟨a, _, rfl, h, fun p hp => by rw [cut_mid hb hc, ← List.map_drop, ← List.map_take]; exact q p hp⟩
end
end L2
namespace L2
open PySem PySem.Spec PyProof.Rows
theorem Inv.track {X : Cx} {pins : List (Addr × Obj)} {σ : St} {H : Hp} {s : Shared} {D : Addr} {o : HO} (I : Inv X pins σ H s) (hn : H D = none) (hL : D ≠ X.env.locals) (h1 : X.s₀.heap.objs.size ≤ D)
 (h2 : ∀ x c, X.env.cells.lookup x = some c → c ≠ D) (h3 : ∀ p ∈ X.pn ++ pins, p.1 ≠ D) (new : ObjOk X.prog X.w (upd H D o) s.heap D o) : Inv X pins σ (upd H D o) s := by
 have up : ∀ b u, H b = some u → upd H D o b = some u := fun b u e => by rw [upd_ne (ne_of_none e hn)]; exact e
 have un : ∀ b, b ≠ D → H b = none → upd H D o b = none := fun b hb e => by rw [upd_ne hb]; exact e
 refine ⟨I.ok, I.os, I.bare, ⟨I.base.keep, I.base.slot, fun b ob e n hx => un b (Nat.ne_of_lt (Nat.lt_of_lt_of_le (Heap.lt_size e) h1)) (I.base.free b ob e n hx), I.base.there, fun b xs e => up _ _ (I.base.tups b xs e), fun b ob u e => up _ _ (I.base.frzs b ob u e), fun b ps e => ?_⟩,
  I.loc, I.cell, un _ (Ne.symm hL) I.free, fun x c e => un _ (h2 x c e) (I.freeC x c e), fun p hp => ?_, fun b u e => ?_, I.len⟩
 ·obtain ⟨m, e'⟩ := I.base.tbls b ps e
  exact ⟨m, up _ _ e'⟩
 ·obtain ⟨e, n, r⟩ := I.pin p hp
  exact ⟨e, un _ (h3 p hp) n, r⟩
 ·by_cases hb : b = D
  ·subst hb
   rw [upd_same] at e
   cases e
   exact new
  ·rw [upd_ne hb] at e
   exact (I.hok b u e).stay (fun _ _ _ q => q) (fun c q => up _ _ q) fun c xs q => up _ _ q
def clOf (env : Env) : List (Str × NameKind) → List (Str × Addr) → List (Str × Addr)
 | [], acc => acc
 | (n, k) :: r, acc => clOf env r (if (k == .free) = true then (n, (env.cells.lookup n).getD 0) :: acc else acc)
theorem closure_go {env : Env} : ∀ (names : List (Str × NameKind)) (acc : List (Str × Addr)), (∀ y ∈ names, y.2 = .free → ∃ c, env.cells.lookup y.1 = some c) →
 (forIn names acc fun (x : Str × NameKind) (r : List (Str × Addr)) => match x with
  | (name, kind) => if (kind == .free) = true then do
   let a ← cellOf env name
   pure (ForInStep.yield ((name, a) :: r))
   else pure (ForInStep.yield r) : Sem (List (Str × Addr))) = pure (clOf env names acc)
 | [], acc, _ => rfl
 | (n, k) :: r, acc, h => by
   rw [List.forIn_cons, clOf]
   by_cases hk : (k == NameKind.free) = true
   ·obtain ⟨c, hc⟩ := h (n, k) (List.mem_cons_self) (by simpa using hk)
    have hc' : env.cells.lookup n = some c := hc
    simp only [hk, if_true, cellOf, hc', Option.getD_some]
    exact closure_go r _ fun y hy => h y (List.mem_cons_of_mem _ hy)
   ·simp only [hk, Bool.false_eq_true, if_false]
    exact closure_go r _ fun y hy => h y (List.mem_cons_of_mem _ hy)
theorem closure_eq {env : Env} {scope : Scope} (h : ∀ y ∈ scope.names, y.2 = .free → ∃ c, env.cells.lookup y.1 = some c) : closureFor scope env = pure (clOf env scope.names []) := by
 have q := closure_go scope.names [] h
 unfold closureFor
 exact (congrArg (fun z => z >>= fun r => pure r) q).trans rfl
theorem clOf_get {env : Env} {x : Str} {c : Addr} : ∀ (names : List (Str × NameKind)) (acc : List (Str × Addr)), (∀ y ∈ names, y.2 = .free → ∃ c, env.cells.lookup y.1 = some c) → (∀ x c, acc.lookup x = some c → env.cells.lookup x = some c) →
 (clOf env names acc).lookup x = some c → env.cells.lookup x = some c
 | [], acc, _, ha, e => ha x c e
 | (n, k) :: r, acc, h, ha, e => by
   rw [clOf] at e
   refine clOf_get r _ (fun y hy => h y (List.mem_cons_of_mem _ hy)) ?_ e
   intro y d hd
   by_cases hk : (k == NameKind.free) = true
   ·rw [if_pos hk] at hd
    obtain ⟨c', hc⟩ := h (n, k) List.mem_cons_self (by simpa using hk)
    have hc' : env.cells.lookup n = some c' := hc
    rw [List.lookup_cons] at hd
    cases hy : y == n with
    | true =>
      rw [hy] at hd
      have e1 : y = n := by simpa using hy
      subst e1
      rw [hc'] at hd ⊢
      exact hd
    | false =>
      rw [hy] at hd
      exact ha y d hd
   ·rw [if_neg hk] at hd
    exact ha y d hd
theorem clOf_has {env : Env} {x : Str} : ∀ (names : List (Str × NameKind)) (acc : List (Str × Addr)), ((x, NameKind.free) ∈ names ∨ ∃ c, acc.lookup x = some c) → ∃ c, (clOf env names acc).lookup x = some c
 | [], acc, h => by
   rcases h with h | h
   ·exact absurd h (by simp)
   ·exact h
 | (n, k) :: r, acc, h => by
   rw [clOf]
   refine clOf_has r _ ?_
   rcases h with h | ⟨c, h⟩
   ·rcases List.mem_cons.mp h with e | e
    ·cases e
     exact .inr ⟨_, by rw [if_pos (by rfl), List.lookup_cons, beq_self_eq_true]⟩
    ·exact .inl e
   ·refine .inr ?_
    by_cases hk : (k == NameKind.free) = true
    ·rw [if_pos hk, List.lookup_cons]
     cases x == n with
     | true => exact ⟨_, rfl⟩
     | false => exact ⟨c, h⟩
    ·rw [if_neg hk]; exact ⟨c, h⟩
theorem relabel_get {scope : Scope} {env : Env} {x : Str} {k : NameKind} (h : (relabel scope env).names.lookup x = some k) : (x, k) ∈ scope.names ∨ (k = .cell ∧ (x, NameKind.free) ∈ scope.names) := by
 have m := PySem.mem_of_lookup h
 unfold relabel at m
 obtain ⟨⟨n, k0⟩, hm, e⟩ := List.mem_map.mp m
 dsimp only at e
 split at e
 ·rename_i hc
  cases e
  have : k0 = .free := by
   have := (Bool.and_eq_true _ _ ▸ (Bool.and_eq_true _ _ ▸ hc).1 : _ ∧ _).1
   simpa using this
  subst this
  exact .inr ⟨rfl, hm⟩
 ·cases e
  exact .inl hm
theorem relabel_freeN {env : Env} : ∀ {names : List (Str × NameKind)} {x : Str}, names.lookup x = some .free →
 (names.map fun (n, k) => if (k == NameKind.free && env.scope.kind == .function && env.kindOf n == some .cell) then (n, NameKind.cell) else (n, k)).lookup x = some .cell ∨
 (names.map fun (n, k) => if (k == NameKind.free && env.scope.kind == .function && env.kindOf n == some .cell) then (n, NameKind.cell) else (n, k)).lookup x = some .free
 | [], _, h => by simp at h
 | (n, k) :: r, x, h => by
   have ih := @relabel_freeN env r x
   show List.lookup x ((if (k == NameKind.free && env.scope.kind == .function && env.kindOf n == some .cell) = true then (n, NameKind.cell) else (n, k)) :: _) = _ ∨ List.lookup x ((if (k == NameKind.free && env.scope.kind == .function && env.kindOf n == some .cell) = true then (n, NameKind.cell) else (n, k)) :: _) = _
   cases hx : x == n with
   | true =>
     simp only [List.lookup_cons, hx] at h
     cases h
     by_cases hc : (NameKind.free == NameKind.free && env.scope.kind == .function && env.kindOf n == some .cell) = true
     ·rw [if_pos hc]; left; simp [List.lookup_cons, hx]
     ·rw [if_neg hc]; right; simp [List.lookup_cons, hx]
   | false =>
     simp only [List.lookup_cons, hx] at h
     by_cases hc : (k == NameKind.free && env.scope.kind == .function && env.kindOf n == some .cell) = true
     ·rw [if_pos hc]; simp only [List.lookup_cons, hx]; exact ih h
     ·rw [if_neg hc]; simp only [List.lookup_cons, hx]; exact ih h
theorem relabel_free {scope : Scope} {env : Env} {x : Str} (h : scope.names.lookup x = some .free) : (relabel scope env).names.lookup x = some .cell ∨ (relabel scope env).names.lookup x = some .free := relabel_freeN h
def cxC (X : Cx) (scope : Scope) (C : Addr) (N : List Str) (s₂ : Shared) (H₂ : Hp) (ex : List Addr) : Cx :=
 { X with N := N, s₀ := s₂, H₀ := H₂, env := compEnvC scope (clOf X.env scope.names []) C X.env, outer := X.stack, stack := X.stack, ex := ex, fn := fun _ => false, pn := [], xe := fun _ _ => False }
def FrOk (X : Cx) (scope : Scope) : List Str → List (Option Nat) → Prop
 | [], [] => True
 | _ :: N, none :: fr => FrOk X scope N fr
 | x :: N, some j :: fr => (X.N[j]? = some x ∧ (X.env.kindOf x = some .cell ∨ X.env.kindOf x = some .free) ∧ scope.names.lookup x = some .free) ∧ FrOk X scope N fr
 | _, _ => False
def stC (fr : List (Option Nat)) (σ : St) : St := fr.map fun o => o.bind fun j => (σ[j]?).join
structure CompOk (X : Cx) (scope : Scope) (N : List Str) (fr : List (Option Nat)) : Prop where
 kind : scope.kind = .function
 ncell : ∀ y ∈ scope.names, y.2 ≠ .cell
 names : ∀ y ∈ scope.names, y.2 = .local → scope.names.lookup y.1 = some .local
 frees : ∀ y ∈ scope.names, y.2 = .free → X.env.kindOf y.1 = some .cell ∨ X.env.kindOf y.1 = some .free
 fr : FrOk X scope N fr
theorem FrOk.len {X : Cx} {scope : Scope} : ∀ {N : List Str} {fr : List (Option Nat)}, FrOk X scope N fr → fr.length = N.length
 | [], [], _ => rfl
 | _ :: N, none :: fr, h => by simp [FrOk.len (N := N) (fr := fr) h]
 | _ :: N, some j :: fr, h => by simp [FrOk.len (N := N) (fr := fr) h.2]
 | [], _ :: _, h => h.elim
 | _ :: _, [], h => h.elim
theorem FrOk.get {X : Cx} {scope : Scope} : ∀ {N : List Str} {fr : List (Option Nat)} {i j : Nat} {x : Str}, FrOk X scope N fr → N[i]? = some x → fr[i]? = some (some j) → X.N[j]? = some x ∧ (X.env.kindOf x = some .cell ∨ X.env.kindOf x = some .free) ∧ scope.names.lookup x = some .free
 | [], _, i, j, x, h, e, _ => by simp at e
 | y :: N, [], _, _, _, h, _, _ => h.elim
 | y :: N, none :: fr, 0, j, x, h, e, e2 => by simp at e2
 | y :: N, none :: fr, i + 1, j, x, h, e, e2 => FrOk.get (N := N) (fr := fr) (i := i) h (by simpa using e) (by simpa using e2)
 | y :: N, some k :: fr, 0, j, x, h, e, e2 => by
   simp at e e2
   subst e e2
   exact h.1
 | y :: N, some k :: fr, i + 1, j, x, h, e, e2 => FrOk.get (N := N) (fr := fr) (i := i) h.2 (by simpa using e) (by simpa using e2)
theorem stC_get {fr : List (Option Nat)} {σ : St} {i : Nat} {v : V} (h : (stC fr σ)[i]? = some (some v)) : ∃ j, fr[i]? = some (some j) ∧ σ[j]? = some (some v) := by
 unfold stC at h
 rw [List.getElem?_map] at h
 cases e : fr[i]? with
 | none => rw [e] at h; cases h
 | some o =>
   rw [e] at h
   cases o with
   | none => cases h
   | some j =>
     refine ⟨j, rfl, ?_⟩
     have h' : (σ[j]?).join = some v := by simpa using h
     cases e2 : σ[j]? with
     | none => rw [e2] at h'; cases h'
     | some w => rw [e2] at h'; cases w with
       | none => cases h'
       | some z => cases h'; rfl
section
variable {X : Cx} {scope : Scope} {N : List Str} {fr : List (Option Nat)}
theorem CompOk.cells (c : CompOk X scope N fr) (ok : X.Ok) : ∀ y ∈ scope.names, y.2 = .free → ∃ c, X.env.cells.lookup y.1 = some c := fun y hy e => ok.has y.1 (c.frees y hy e)
theorem CompOk.get (c : CompOk X scope N fr) (ok : X.Ok) {x : Str} {a : Addr} (h : (clOf X.env scope.names []).lookup x = some a) : X.env.cells.lookup x = some a :=
 clOf_get scope.names [] (c.cells ok) (fun _ _ z => by simp at z) h
theorem comp_ok {pins : List (Addr × Obj)} {σ : St} {H : Hp} {s₂ : Shared} {C : Addr} {fp : List Addr} (c : CompOk X scope N fr) (I : Inv X pins σ H s₂) (hC : s₂.heap.objs.size ≤ C) (hfp : ∀ b ∈ fp, FpOk X pins H b ∧ b < s₂.heap.objs.size) :
 (cxC X scope C N s₂ H fp).Ok where
 mod := I.ok.mod
 kind := c.kind
 glob := I.ok.glob
 blt := I.ok.blt
 above := hC
 inj := fun x y a h1 h2 => I.ok.inj x y a (c.get I.ok h1) (c.get I.ok h2)
 has := fun x h => by
  have hm : (x, NameKind.free) ∈ scope.names := by
   rcases h with h | h
   ·rcases relabel_get h with z | ⟨_, z⟩
    ·exact absurd rfl (c.ncell _ z)
    ·exact z
   ·rcases relabel_get h with z | ⟨z, _⟩
    ·exact z
    ·cases z
  exact clOf_has scope.names [] (.inl hm)
 cab := fun x a h => by cases h
 hd := I.ok.hd
 frames := I.ok.frames
 stk := .inl rfl
 exf := fun b hb => ⟨Nat.ne_of_lt (Nat.lt_of_lt_of_le (hfp b hb).2 hC), fun x a h => (hfp b hb).1.2.2.2.2.1 x a (c.get I.ok h)⟩
 bs := I.bs
 bsz := Nat.le_trans I.ok.bsz I.sz
 noex := fun b o e hb => by
  rcases (hfp b hb).1.2.2.2.1 with z | z
  ·exact I.ok.noex b o e z
  ·have h1 : b < X.base.objs.size := Heap.lt_size e
   have h2 := I.ok.bsz
   exact absurd (Nat.lt_of_lt_of_le h1 (Nat.le_trans h2 z)) (Nat.lt_irrefl _)
 exfs := fun b hb z => by
  rcases List.mem_cons.mp (I.stkSub b z) with e | e
  ·exact (hfp b hb).1.2.1 e
  ·exact (hfp b hb).1.2.2.1 e
 funs := I.stack
 frf := I.stkFree
theorem comp_inv {pins : List (Addr × Obj)} {σ : St} {H : Hp} {s₂ : Shared} {C : Addr} {fp : List Addr} {h₄ : Heap} {tk : Nat} (c : CompOk X scope N fr) (I : Inv X pins σ H s₂) (hC : s₂.heap.objs.size ≤ C) (hfp : ∀ b ∈ fp, FpOk X pins H b ∧ b < s₂.heap.objs.size)
 (hk : ∀ b o, s₂.heap.get? b = some o → h₄.get? b = some o) (hn : h₄.Ns C fun _ => none) : Inv (cxC X scope C N s₂ H fp) [] (stC fr σ) H { s₂ with heap := h₄, toks := tk } := by
 refine ⟨comp_ok c I hC hfp, rfl, I.bare, Un.kept hk, ⟨_, hn, fun i x v e1 e2 e3 => ?_⟩, fun x a e => ?_, I.hok.fresh hC, fun x a e => I.freeC x a (c.get I.ok e), fun p hp => absurd (show p ∈ ([] : List (Addr × Obj)) from hp) (by simp), I.hok.kept hk, ?_⟩
 ·obtain ⟨j, f1, f2⟩ := stC_get e2
  obtain ⟨g1, g2, g3⟩ := c.fr.get e1 f1
  obtain ⟨m, hm, hl⟩ := I.loc
  have vis : Vis X.env.scope x := by
   rcases g2 with g | g
   ·exact .inr (.inl g)
   ·exact .inr (.inr g)
  obtain ⟨u, ru, lk⟩ := hl j x v g1 f2 vis
  refine ⟨u, ru, ?_⟩
  rcases lk with ⟨k, _⟩ | ⟨_, a, ea, o, ho, hd⟩
  ·rcases g2 with g | g <;> (rw [k] at g; cases g)
  ·obtain ⟨a', ea'⟩ := clOf_has (env := X.env) scope.names [] (.inl (PySem.mem_of_lookup g3))
   have e5 := c.get I.ok ea'
   rw [ea] at e5
   cases e5
   have kd : (cxC X scope C N s₂ H fp).env.kindOf x = some .cell ∨ (cxC X scope C N s₂ H fp).env.kindOf x = some .free := relabel_free g3
   exact .inr ⟨kd, a, ea', o, hk _ _ ho, hd⟩
 ·obtain ⟨v, o, ho, hd⟩ := I.cell x a (c.get I.ok e)
  exact ⟨v, o, hk _ _ ho, hd⟩
 ·unfold stC
  rw [List.length_map]
  exact c.fr.len
end
section
variable {prog : Program} {w : World} {A : Around} {E : Value → Shared → Prop} {R : Result → Shared → Prop} {s : Shared}
theorem compLoop_any {elt target iter : Expr} {ifs : List Expr} {scope : Scope} {pos : Pos} {it acc : Value} {env : Env} (I : Nat → Shared → Prop)
 (turn : ∀ n s, I n s → wpAny (model prog w) A (pyNext it) (fun r s₁ => match r with
  | none => R (.ok .next) s₁
  | some v => wpAny (model prog w) A (letOwnedTupleGo target it v) (fun _ s₀ => wpAny (model prog w) A (assign target env v) (fun _ s₂ =>
   wpAny (model prog w) A (forIn ifs true fun c r => if r = true then do let ok ← isTrue c env (eval c env); pure (ForInStep.yield ok) else pure (ForInStep.yield r)) (fun ok s₃ =>
    if ok = true then wpAny (model prog w) A (eval elt env) (fun x s₄ =>
     wpAny (model prog w) A (call (.builtin "list.append") [acc, x]) (fun _ s₅ => ∃ m, m < n ∧ I m s₅) (fun _ _ => False) s₄) (fun _ _ => False) s₃
    else ∃ m, m < n ∧ I m s₃) (fun _ _ => False) s₂) (fun _ _ => False) s₀) (fun _ _ => False) s₁) (fun _ _ => False) s)
 (n : Nat) (h : I n s) :
 codeAny (model prog w) A (.compLoop (.ListComp elt [⟨target, iter, ifs, 0⟩] scope pos) 0 it acc env) R s := by
 refine codeAny_loop rfl I (fun n s hI => ?_) n h
 show wpAny _ A ((compTurn (.ListComp elt [⟨target, iter, ifs, 0⟩] scope pos) 0 it acc env).onRaise (fun x => do noteFrame x env; theTreesLotGoes x)) _ _ s
 refine wpAny_noted ?_
 rw [compTurn_list]
 have nf : ∀ {α : Type} {m : Sem α} {Q : α → Shared → Prop} {F : Value → Shared → Prop} {s : Shared}, wpAny (model prog w) A m Q (fun _ _ => False) s → wpAny (model prog w) A m Q F s := fun h => wpAny_mono h (fun _ _ x => x) fun _ _ x => x.elim
 refine wpAny_bind (wpAny_standAt (wpAny_bind (wpAny_mono (nf (turn n s hI)) (fun r s₁ h₁ => ?_) fun _ _ h' => h')))
 cases r with
 | none => exact wpAny_pure h₁
 | some v =>
   refine wpAny_bind (wpAny_mono (nf h₁) (fun _ s₀ h₀ => ?_) fun _ _ h' => h')
   refine wpAny_bind (wpAny_mono (nf h₀) (fun _ s₂ h₂ => wpAny_bind (wpAny_mono (nf h₂) (fun ok s₃ h₃ => ?_) fun _ _ h' => h')) fun _ _ h' => h')
   cases ok with
   | false => exact wpAny_pure ⟨rfl, h₃⟩
   | true =>
     exact wpAny_bind (wpAny_bind (wpAny_mono (nf h₃) (fun x s₄ h₄ => wpAny_bind (wpAny_mono (nf h₄) (fun _ s₅ h₅ => wpAny_pure (wpAny_pure ⟨rfl, h₅⟩)) fun _ _ h' => h')) fun _ _ h' => h'))
end
def Wk (fr : List (Option Nat)) (σ σ2 : St) : Prop := σ2.length = σ.length ∧ ∀ (i j : Nat), fr[i]? = some (some j) → σ2[i]? = σ[i]?
theorem Wk.trans {fr : List (Option Nat)} {a b c : St} (h1 : Wk fr a b) (h2 : Wk fr b c) : Wk fr a c := ⟨h2.1.trans h1.1, fun i j e => (h2.2 i j e).trans (h1.2 i j e)⟩
def GW (fr : List (Option Nat)) (g : TG) : Prop := ∀ x σ H (Q Q' : St → Hp → Prop), (∀ σ2 H2, Wk fr σ σ2 → Q σ2 H2 → Q' σ2 H2) → g x σ H Q → g x σ H Q'
def GWs (fr : List (Option Nat)) (g : TGs) : Prop := ∀ x σ H (Q Q' : St → Hp → Prop), (∀ σ2 H2, Wk fr σ σ2 → Q σ2 H2 → Q' σ2 H2) → g x σ H Q → g x σ H Q'
theorem gw_name {fr : List (Option Nat)} {i : Nat} (h : fr[i]? = some none) : GW fr (gName i) := fun x σ H Q Q' k q => by
 refine k _ _ ⟨by simp, fun a j e => ?_⟩ q
 have : i ≠ a := fun z => by subst z; rw [h] at e; cases e
 rw [List.getElem?_set_ne this]
theorem gws_nil {fr : List (Option Nat)} : GWs fr gNil := fun x σ H Q Q' k q => ⟨q.1, k _ _ ⟨rfl, fun _ _ _ => rfl⟩ q.2⟩
theorem gws_cons {fr : List (Option Nat)} {t : TG} {u : TGs} (h1 : GW fr t) (h2 : GWs fr u) : GWs fr (gCons t u) := fun x σ H Q Q' k q => by
 obtain ⟨v, r, e, q⟩ := q
 exact ⟨v, r, e, h1 v σ H _ _ (fun σ' H' w1 q1 => h2 r σ' H' _ _ (fun σ2 H2 w2 q2 => k _ _ (w1.trans w2) q2) q1) q⟩
theorem gw_tup {fr : List (Option Nat)} {K : PySem.W.Frag} {n : Nat} {t : TGs} (h : GWs fr t) : GW fr (gTup K n t) := fun x σ H Q Q' k q => by
 obtain ⟨a, xs, e1, e2, e3, q⟩ := q
 exact ⟨a, xs, e1, e2, e3, h xs σ H _ _ k q⟩
def PIfs (X : Cx) (ifs : List Expr) (t : TT) : Prop :=
 ∀ (pins : List (Addr × Obj)) (s : Shared) (σ : St) (H : Hp) (Q : Bool → Hp → Prop), Inv X pins σ H s → t σ H Q →
  wpAny (model X.prog X.w) X.A (forIn ifs true fun c r => if r = true then do let ok ← isTrue c X.env (eval c X.env); pure (ForInStep.yield ok) else pure (ForInStep.yield r)) (TP X pins σ Q) X.xe s
def tNoIf : TT := fun _ H Q => Q true H
theorem pifs_nil {X : Cx} : PIfs X [] tNoIf := fun _ _ _ H _ I h => wpAny_tests_nil ⟨H, I, h⟩
theorem pifs_one {X : Cx} {c : Expr} {t : TT} (h : PT X c t) : PIfs X [c] t := fun pins s σ H Q I q => wpAny_tests_one (h pins s σ H Q I q)
def CompI (J : It) (g : TG) (ti : TT) (te : TE) (σc : St) (H1 : Hp) (Q : VK) : Prop := ∃ W : Nat → Nat → List V → Hp → Prop, (∃ m, W 0 m [] H1) ∧ ∀ i m ys H, W i m ys H → ys.length < sizeLine ∧
 ((J.stop i H ∧ ∀ l, H l = none → Q (.ref l) (upd H l (.lst ys))) ∨ (J.go i H ∧ ∃ M : List V → Hp → Prop, (∀ ys' H', M ys' H' → ∃ m', m' < m ∧ W (i + 1) m' ys' H') ∧
   ∀ x H', J.yld i H x H' → g x σc H' fun σ2 H2 => ti σ2 H2 fun b H3 => if b = true then te σ2 H3 fun y H4 => M (ys ++ [y]) H4 else M ys H3))
def tComp (fr : List (Option Nat)) (wi : TI) (g : TG) (ti : TT) (te : TE) : TE := fun σ H Q => wi σ H fun J H1 => CompI J g ti te (stC fr σ) H1 Q
structure Aside (X : Cx) (pins : List (Addr × Obj)) (H : Hp) (C : Addr) : Prop where
 fr : H C = none
 ne : C ≠ X.env.locals
 ab : X.s₀.heap.objs.size ≤ C
 cl : ∀ x c, X.env.cells.lookup x = some c → c ≠ C
 pn : ∀ p ∈ X.pn ++ pins, p.1 ≠ C
theorem Inv.aside {X : Cx} {pins : List (Addr × Obj)} {σ : St} {H H' : Hp} {s : Shared} {C : Addr} (I : Inv X pins σ H s) (hC : s.heap.objs.size ≤ C) (hn : H' C = none) : Aside X pins H' C := by
 obtain ⟨a, b, c, d, e, f⟩ := I.fpOk hC hn
 exact ⟨hn, b, Nat.le_trans I.sz hC, e, f⟩
def lob (us : List Value) (n : Nat) : Obj := { cls := .type "list", dict := none, data := .seq us.toArray n }
section
variable {X : Cx} {scope : Scope} {N : List Str} {fr : List (Option Nat)} {tg iter elt : Expr} {ifs : List Expr} {pos : Pos} {J : It} {g : TG} {ti : TT} {te : TE}
theorem comp_core {pins : List (Addr × Obj)} {σ : St} {H : Hp} {s₂ : Shared} {it : Addr} {fp : List Addr} {tn : Nat → Heap → Prop} {Q : VK} {E : Value → Shared → Prop} (c : CompOk X scope N fr) (hc : X.calm = true) (I : Inv X pins σ H s₂)
 (T : Turn X.prog X.w X.K tg J fp it tn) (st : tn 0 s₂.heap) (hfp : ∀ b ∈ fp, FpOk X pins H b)
 (hg : ∀ C, PG (cxC X scope C N s₂ H fp) tg g) (hi : ∀ C, PIfs (cxC X scope C N s₂ H fp) ifs ti) (he : ∀ C, PE (cxC X scope C N s₂ H fp) elt te) (gw : GW fr g) (hq : CompI J g ti te (stC fr σ) H Q)
 {RR : Value → Addr → Result → Shared → Prop}
 (hRR : ∀ D C H' ys s', Inv X pins σ (upd H' D (.lst ys)) s' → Aside X pins (upd H' D (.lst ys)) C → (∃ m, s'.heap.Ns C m) → Q (.ref D) (upd H' D (.lst ys)) → RR (.ref D) C (.ok .next) s') :
 wpAny (model X.prog X.w) X.A (newList []) (fun acc s₃ => wpAny (model X.prog X.w) X.A (newFunctionEnv scope X.env.globals (clOf X.env scope.names []) [] X.env.qual none .none (some X.env)) (fun cenv s₄ =>
  codeAny (model X.prog X.w) X.A (.compStart (.ListComp elt [⟨tg, iter, ifs, 0⟩] scope pos) 0 (.ref it) acc { cenv with scope := relabel scope X.env }) (RR acc cenv.locals) s₄) E s₃) E s₂ := by
 refine wpAny_newObj_type (wpAny_newFunctionEnv c.ncell (by intro y hy; simp at hy) (fun h₁ hns₁ hsb₁ => ?_) c.kind)
 dsimp only at hns₁ hsb₁ ⊢
 generalize hH2 : s₂.heap.push { cls := .type "list", dict := none, data := .seq ([] : List Value).toArray } = H2 at hns₁ hsb₁ ⊢
 have hC : H2.objs.size = s₂.heap.objs.size + 1 := by rw [← hH2, Heap.size_push]
 have hCle : s₂.heap.objs.size ≤ H2.objs.size := by rw [hC]; exact Nat.le_succ _
 have hDC : s₂.heap.objs.size ≠ H2.objs.size := by rw [hC]; exact Nat.ne_of_lt (Nat.lt_succ_self _)
 have old : ∀ b o, s₂.heap.get? b = some o → h₁.get? b = some o := fun b o e => hsb₁.extBut b o (by rw [hC]; exact Nat.ne_of_lt (Nat.lt_succ_of_lt (Heap.lt_size e))) (Heap.get?_push_of_some _ (hH2 ▸ Heap.get?_push_of_some _ e))
 have hacc : h₁.get? s₂.heap.objs.size = some (lob [] 0) := hsb₁.extBut _ _ hDC (Heap.get?_push_of_some _ (hH2 ▸ Heap.get?_push_size _ rfl))
 generalize hD : s₂.heap.objs.size = D at *
 generalize hCC : H2.objs.size = C at *
 have hfp2 : ∀ b ∈ fp, FpOk X pins H b ∧ b < s₂.heap.objs.size := fun b hb => ⟨hfp b hb, by obtain ⟨o, e, _⟩ := T.obj _ _ st b hb; exact Heap.lt_size e⟩
 have hns₂ : h₁.Ns C fun _ => none := hns₁
 have I0 : Inv (cxC X scope C N s₂ H fp) [] (stC fr σ) H { s₂ with heap := h₁, toks := s₂.toks + ([] : List (Str × Value)).length } := comp_inv c I (by rw [hD]; exact hCle) hfp2 old hns₂
 have st₁ : tn 0 h₁ := T.keep _ _ _ st fun b hb o e => old b o e
 have hDn : ∀ b ∈ fp, b ≠ D := fun b hb => by rw [← hD]; exact Nat.ne_of_lt (hfp2 b hb).2
 have dAs : ∀ {H' : Hp}, H' D = none → (D ≠ (cxC X scope C N s₂ H fp).env.locals ∧ (cxC X scope C N s₂ H fp).s₀.heap.objs.size ≤ D ∧ ∀ x a, (cxC X scope C N s₂ H fp).env.cells.lookup x = some a → a ≠ D) := fun hn => ⟨hDC, Nat.le_of_eq hD, fun x a e z => by
  obtain ⟨v, o, ho, _⟩ := I.cell x a (c.get I.ok e)
  have := Heap.lt_size ho
  rw [z, ← hD] at this
  exact Nat.lt_irrefl _ this⟩
 obtain ⟨W, ⟨m0, w0⟩, turn⟩ := hq
 have loop : codeAny (model X.prog X.w) X.A (.compLoop (.ListComp elt [⟨tg, iter, ifs, 0⟩] scope pos) 0 (.ref it) (.ref D) (compEnvC scope (clOf X.env scope.names []) C X.env)) (RR (.ref D) C) { s₂ with heap := h₁, toks := s₂.toks + ([] : List (Str × Value)).length } := by
  refine compLoop_any (fun n s' => ∃ i ys us k H', Inv (cxC X scope C N s₂ H fp) [] (stC fr σ) H' s' ∧ tn i s'.heap ∧ (∀ b ∈ fp, H' b = none) ∧ s'.heap.get? D = some (lob us k) ∧ Vals ys us ∧ H' D = none ∧ W i n ys H') ?_ m0
   ⟨0, [], [], 0, H, I0, st₁, fun b hb => (hfp b hb).1, hacc, .nil, by rw [← hD]; exact I.hok.fresh (Nat.le_refl _), w0⟩
  rintro n s3 ⟨i, ys, us, k, H3, I3, st3, fr3, hD3, rv3, hDn3, w3⟩
  obtain ⟨hlen, alt⟩ := turn i n ys H3 w3
  obtain ⟨d1, d2, d3⟩ := dAs hDn3
  have I3p : Inv (cxC X scope C N s₂ H fp) [(D, lob us k)] (stC fr σ) H3 s3 := I3.pins_of fun p hp => by
   have e : p = (D, lob us k) := by simpa using hp
   subst e
   refine ⟨hD3, hDn3, d1, fun z => ?_, fun v e => by cases (show Data.seq us.toArray k = Data.cell v from e)⟩
   have z' : D ∈ frs X.stack := z
   rcases List.mem_cons.mp (I.stkSub D z') with e | e
   ·have := I.lt
    rw [← e, ← hD] at this
    exact Nat.lt_irrefl _ this
   ·exact I.nofs (Nat.le_of_eq hD) e
  have stat : ∀ {H' : Hp}, (∀ b ∈ fp, H' b = none) → ∀ b ∈ fp, FpOk (cxC X scope C N s₂ H fp) [(D, lob us k)] H' b := fun hn b hb => by
   obtain ⟨q1, q2⟩ := hfp2 b hb
   refine ⟨hn b hb, Nat.ne_of_lt (Nat.lt_of_lt_of_le q2 (by rw [hD]; exact hCle)), fun z => ?_, .inl hb, fun x a e => q1.2.2.2.2.1 x a (c.get I.ok e), fun p hp => ?_⟩
   ·exact (comp_ok c I (by rw [hD]; exact hCle) hfp2).exfs b hb z
   ·have e : p = (D, lob us k) := by simpa [cxC] using hp
    subst e
    exact (hDn b hb).symm
  rcases alt with ⟨stop, qn⟩ | ⟨go, M, hM, step⟩
  ·refine thn (T.done (cxC X scope C N s₂ H fp) rfl rfl rfl hc i _ s3 _ H3 _ I3p (stat fr3) st3 stop) fun r s4 ⟨hr, I4⟩ => ?_
   subst hr
   have pD := (I4.pin (D, lob us k) (by simp)).1
   have I4' : Inv (cxC X scope C N s₂ H fp) [] (stC fr σ) H3 s4 := I4.pins_of fun p hp => absurd hp (by simp)
   have IX : Inv X pins σ H3 s4 := I.call' I4'.os I4'.base I4'.hok I4'.bare fun b hb => by
    obtain ⟨q1, q2, q3, q4, q5, q6⟩ := hfp b hb
    exact ⟨q4, q2, q5, q6⟩
   have aD : Aside X pins H3 D := I.aside (Nat.le_of_eq hD) hDn3
   have IT : Inv X pins σ (upd H3 D (.lst ys)) s4 := IX.track hDn3 aD.ne aD.ab aD.cl aD.pn ⟨Nat.le_of_lt hlen, us, k, rv3, pD⟩
   refine hRR D C H3 ys s4 IT ?_ ?_ (qn D hDn3)
   ·refine I.aside (by rw [hD]; exact hCle) ?_
    rw [upd_ne (Ne.symm hDC)]
    exact I4'.free
   ·obtain ⟨m, hm, _⟩ := I4'.loc
    exact ⟨m, hm⟩
  ·refine thn (T.item (cxC X scope C N s₂ H fp) rfl rfl rfl hc i _ s3 _ H3 _ I3p (stat fr3) st3 go) fun r s4 ⟨u, hr, h4⟩ => ?_
   subst hr
   refine thn h4 fun _ s5 ⟨x, H5, I5, r5, y5, st5, fr5⟩ => ?_
   have I5' := I5.pinned (stat fr5) (T.obj _ _ st5)
   refine thn (hg C _ s5 _ H5 x u _ I5' r5 (gw x _ H5 _ _ (fun σ2 H2 wk q => And.intro wk q) (step x H5 y5))) fun _ s6 ⟨σ6, H6, I6, wk6, q6⟩ => ?_
   refine thn (hi C _ s6 σ6 H6 _ I6 q6) fun ok s7 ⟨H7, I7, q7⟩ => ?_
   have back : ∀ {σ8 : St} {H8 : Hp} {s8 : Shared}, σ8 = σ6 → Inv (cxC X scope C N s₂ H fp) ([(D, lob us k)] ++ pinsAt fp s5.heap) σ8 H8 s8 → Inv (cxC X scope C N s₂ H fp) [] (stC fr σ) H8 s8 ∧ tn (i + 1) s8.heap ∧ (∀ b ∈ fp, H8 b = none) ∧ s8.heap.get? D = some (lob us k) ∧ H8 D = none := fun {σ8 H8 s8} e8 I8 => by
    subst e8
    have pf : ∀ b o, b ∈ fp → s5.heap.get? b = some o → s8.heap.get? b = some o ∧ H8 b = none := fun b o hb e => by
     have := I8.pin (b, o) (List.mem_append_right _ (List.mem_append_right _ (mem_pinsAt hb e)))
     exact ⟨this.1, this.2.1⟩
    refine ⟨(I8.pins_of (pins' := []) fun p hp => absurd hp (by simp)).weak wk6.1.symm fun a v e => ?_, T.keep _ _ _ st5 fun b hb o e => (pf b o hb e).1, fun b hb => ?_, (I8.pin (D, lob us k) (by simp)).1, (I8.pin (D, lob us k) (by simp)).2.1⟩
    ·obtain ⟨j, f1, _⟩ := stC_get e
     rw [wk6.2 a j f1]
     exact e
    ·obtain ⟨o, e, _⟩ := T.obj _ _ st5 b hb
     exact (pf b o hb e).2
   cases ok with
   | false =>
     obtain ⟨m', hm, w7⟩ := hM _ _ (by simpa using q7)
     obtain ⟨a1, a2, a3, a4, a5⟩ := back rfl I7
     exact ⟨m', hm, i + 1, ys, us, k, H7, a1, a2, a3, a4, rv3, a5, w7⟩
   | true =>
     have q7' : te σ6 H7 fun y H4 => M (ys ++ [y]) H4 := by simpa using q7
     refine thn (he C _ s7 σ6 H7 _ I7 q7') fun v s8 ⟨y, H8, I8, ry, q8⟩ => ?_
     obtain ⟨m', hm, w8⟩ := hM _ _ q8
     obtain ⟨a1, a2, a3, a4, a5⟩ := back rfl I8
     have hus : us.toArray.size ≤ sizeLine := by
      rw [List.size_toArray, ← rv3.length]
      exact Nat.le_of_lt hlen
     refine wpAny_list_append_plain (hsz := hus) (l := D) (items := us.toArray) ⟨_, a4⟩ fun h₅ hl₅ hs₅ => ?_
     obtain ⟨k', hl₅'⟩ := hl₅
     obtain ⟨e1, e2, e3⟩ := dAs a5
     refine ⟨m', hm, i + 1, ys ++ [y], us ++ [v], k', H8, a1.turned (t' := s8.toks) (fun b o hb e => (hs₅.2 b hb).trans e) a5 e1 (.inr e2) e3 (fun p hp => absurd (show p ∈ ([] : List (Addr × Obj)) from hp) (by simp)), T.keep _ _ _ a2 fun b hb o e => (hs₅.2 b (hDn b hb)).trans e, a3, ?_, rv3.append (.cons ry .nil), a5, w8⟩
     show h₅.get? D = _
     rw [hl₅']
     simp [lob]
 exact codeAny_compStart_list loop (T.self _ _ _ _ _ st₁ loop)
theorem pe_comp {wi : TI} (c : CompOk X scope N fr) (hc : X.calm = true) (hi : PI X tg iter wi) (hg : ∀ C s₂ H fp, PG (cxC X scope C N s₂ H fp) tg g) (hf : ∀ C s₂ H fp, PIfs (cxC X scope C N s₂ H fp) ifs ti) (he : ∀ C s₂ H fp, PE (cxC X scope C N s₂ H fp) elt te) (gw : GW fr g)
 (hs : ∀ x, foldedSetIterable iter X.env x = pure x := by intro _; rfl) : PE X (.ListComp elt [⟨tg, iter, ifs, 0⟩] scope pos) (tComp fr wi g ti te) := by
 walk_at "z0"
 rw [eval_ListComp]
 refine wpAny_comprehension_free (use := none) rfl hs (closure_eq (c.cells I.ok)) c.kind c.names (thn (hi pins s σ H _ I h) fun v s1 h1 => thn h1 fun itv s2 h2 => ?_)
 obtain ⟨it, fp, tn, J, H2, e, I2, T, st2, f2, q⟩ := h2
 subst e
 refine comp_core (RR := fun acc C => compPost (model X.prog X.w) X.A X.xe none (EP X pins σ Q) acc C) c hc I2 T st2 f2 (fun C => hg C _ _ _) (fun C => hf C _ _ _) (fun C => he C _ _ _) gw q ?_
 intro D C H' ys s' IT as hm q
 obtain ⟨m, hm⟩ := hm
 exact ⟨m, hm, fun h' sb => ⟨.ref D, _, IT.turned (t' := s'.toks) (fun b o hb e => (sb.2 b hb).trans e) as.fr as.ne (.inr as.ab) as.cl as.pn, rfl, q⟩⟩
end
end L2
namespace L2
open PySem PySem.Spec PyProof.Rows
theorem Inv.turnedL {X : Cx} {pins : List (Addr × Obj)} {σ : St} {H : Hp} {s : Shared} {h' : Heap} {t' : Nat} {fp : List Addr} (I : Inv X pins σ H s) (hf : ∀ b ∈ fp, FpOk X pins H b) (k : ∀ b o, b ∉ fp → s.heap.get? b = some o → h'.get? b = some o) :
 Inv X pins σ H { s with heap := h', toks := t' } := by
 have nit : ∀ b u, H b = some u → b ∉ fp := fun b u e z => by rw [(hf b z).1] at e; cases e
 refine I.step (g' := s.gens) (d' := s.drawn) (ch := fp) (fun b hb => ?_) (fun b o _ _ hc e _ => k b o hc e) (fun b o _ _ hc e _ => ⟨o.slots, k b o hc e⟩) (fun _ _ _ _ n => n)
  (fun b o hc e => ⟨o, k b o hc e⟩) (fun _ _ e => e) (fun _ _ _ e => e) (fun b ps e => ⟨#[], by rw [e]; simp⟩) (fun m hm => ?_) (fun b u e => ?_) I.bare
 ·obtain ⟨q1, q2, q3, q4, q5, q6⟩ := hf b hb
  exact ⟨q4, q2, q5, q6⟩
 ·obtain ⟨o, es, ep, ho, r⟩ := hm
  exact ⟨o, es, ep, k _ o (fun z => (hf _ z).2.1 rfl) ho, r⟩
 ·refine (I.hok b u e).stay (fun c v hc q => k c v ?_ q) (fun _ q => q) fun _ _ q => q
  rcases hc with z | z
  ·rw [z]; exact nit b u e
  ·exact nit c _ z
theorem Inv.turnT {X : Cx} {pins : List (Addr × Obj)} {σ : St} {H : Hp} {s : Shared} {h' : Heap} {t' : Nat} {fp : List Addr} {T : Addr} {xs : List V} {its : List Value} (I : Inv X pins σ H s) (hf : ∀ b ∈ fp, FpOk X pins H b) (k : ∀ b o, b ∉ fp → s.heap.get? b = some o → h'.get? b = some o)
 (hT : s.heap.objs.size ≤ T) (hz : xs.length ≤ sizeLine) (r : Vals xs its) (it : IsTup h' T its.toArray) : Inv X pins σ (upd H T (.tup xs)) { s with heap := h', toks := t' } := by
 have hn : H T = none := I.hok.fresh hT
 have a := I.aside hT hn
 exact (I.turnedL (t' := t') hf k).track hn a.ne a.ab a.cl a.pn ⟨hz, its, r, it⟩
def Itz (K : PySem.W.Frag) (a b : Addr) : It :=
 ⟨fun i H => ∃ xs ys x y, SqL K H a xs ∧ SqL K H b ys ∧ xs[i]? = some x ∧ ys[i]? = some y,
  fun i H v H' => ∃ T x y, v = .ref T ∧ H T = none ∧ H' = upd H T (.tup [x, y]) ∧ (∀ xs, SqL K H a xs → xs[i]? = some x) ∧ ∀ ys, SqL K H b ys → ys[i]? = some y,
  fun i H => ∃ xs ys, SqL K H a xs ∧ SqL K H b ys ∧ (xs.length ≤ i ∨ ys.length ≤ i)⟩
def ZipSt (z TI TO i1 i2 a b : Addr) (i : Nat) (h : Heap) : Prop := IsZip h z TI TO .none ∧ IsPair h TI (.ref i1) (.ref i2) ∧ (∃ u v, IsPair h TO u v) ∧ h.IsListIter i1 a i ∧ h.IsListIter i2 b i
theorem turn_zip {P : Program} {w : World} {K : PySem.W.Frag} {elts : List Expr} {kk : Nat} {tp : Pos} {z TI TO i1 i2 a b : Addr} (D : ZipApart z TI TO i1 i2 a b) :
 Turn P w K (.Tuple elts kk tp) (Itz K a b) [z, TI, TO, i1, i2] z (ZipSt z TI TO i1 i2 a b) where
 mem := by simp
 obj := fun i h st c hc => by
  obtain ⟨h1, h2, ⟨u, v, h3⟩, ⟨o1, e1, _, d1⟩, ⟨o2, e2, _, d2⟩⟩ := st
  simp only [List.mem_cons, List.not_mem_nil, or_false] at hc
  rcases hc with rfl | rfl | rfl | rfl | rfl
  ·exact ⟨_, h1, fun v z => by cases (show Data.fields _ = Data.cell v from z)⟩
  ·exact ⟨_, h2, fun v z => by cases (show Data.seq _ _ = Data.cell v from z)⟩
  ·exact ⟨_, h3, fun v z => by cases (show Data.seq _ _ = Data.cell v from z)⟩
  ·exact ⟨_, e1, fun v z => by rw [d1] at z; cases z⟩
  ·exact ⟨_, e2, fun v z => by rw [d2] at z; cases z⟩
 keep := fun i h h' st k => by
  obtain ⟨h1, h2, ⟨u, v, h3⟩, h4, h5⟩ := st
  exact ⟨k _ (by simp) _ h1, k _ (by simp) _ h2, ⟨u, v, k _ (by simp) _ h3⟩, h4.at fun o e => k _ (by simp) o e, h5.at fun o e => k _ (by simp) o e⟩
 item := by
  walk_at "z1"
  subst hP hw hK
  obtain ⟨xs, ys, x, y, hx, hy, ex, ey⟩ := hg
  obtain ⟨h1, h2, ⟨u, v, h3⟩, h4, h5⟩ := st
  obtain ⟨its, rv, p, hz⟩ := I.list hx
  obtain ⟨jts, rw', q, hz'⟩ := I.list hy
  obtain ⟨ux, hux, rux⟩ := rv.get ex
  obtain ⟨uy, huy, ruy⟩ := rw'.get ey
  refine wpAny_pyNext_zip_item D h1 h2 h3 h4 h5 p.isList q.isList (x := ux) (y := uy) (by simpa using hux) (by simpa using huy) fun h' a1 a2 a3 a4 a5 a6 a7 => ?_
  have lt : ∀ c ∈ [z, TI, TO, i1, i2], c < s.heap.objs.size := fun c hc => by
   obtain ⟨o1, e1, _⟩ := h4
   obtain ⟨o2, e2, _⟩ := h5
   simp only [List.mem_cons, List.not_mem_nil, or_false] at hc
   rcases hc with rfl | rfl | rfl | rfl | rfl
   ·exact Heap.lt_size h1
   ·exact Heap.lt_size h2
   ·exact Heap.lt_size h3
   ·exact Heap.lt_size e1
   ·exact Heap.lt_size e2
  have zT : z ≠ s.heap.objs.size := Nat.ne_of_lt (lt z (by simp))
  refine ⟨_, rfl, wpAny_letOwnedTupleGo_zip a1 fun h2' b1 b2 => ?_⟩
  have hk : ∀ c o, c ∉ [z, TI, TO, i1, i2] → s.heap.get? c = some o → h2'.get? c = some o := fun c o hc e => by
   simp only [List.mem_cons, List.not_mem_nil, or_false, not_or] at hc
   exact (b2.2 c hc.1).trans (a7 c o hc.1 hc.2.2.1 hc.2.2.2.1 hc.2.2.2.2 e)
  have I1 := I.turnT (h' := h2') (t' := s.toks) (T := s.heap.objs.size) (xs := [x, y]) (its := [ux, uy]) hf hk (Nat.le_refl _) (szl (Nat.le_of_ble_eq_true rfl)) (.cons rux (.cons ruy .nil)) ⟨_, (b2.2 _ zT.symm).trans a5, rfl, _, rfl⟩
  refine ⟨.ref s.heap.objs.size, _, I1, rfl, ⟨_, x, y, rfl, I.hok.fresh (Nat.le_refl _), rfl, fun xs' h => by rw [I.list_inj h hx]; exact ex, fun ys' h => by rw [I.list_inj h hy]; exact ey⟩, ?_, fun c hc => ?_⟩
  ·exact ⟨b1, (b2.2 _ D.TIz).trans (a7 _ _ D.TIz D.TITO D.TIi1 D.TIi2 h2), ⟨_, _, (b2.2 _ D.TOz).trans a2⟩, a3.at fun o e => (b2.2 _ D.i1z).trans e, a4.at fun o e => (b2.2 _ D.i2z).trans e⟩
  ·rw [upd_ne (Nat.ne_of_lt (lt c hc))]
   exact (hf c hc).1
 done := by
  walk_at "z1"
  subst hP hw hK
  obtain ⟨xs, ys, hx, hy, hl⟩ := hg
  obtain ⟨h1, h2, ⟨u, v, h3⟩, h4, h5⟩ := st
  obtain ⟨its, rv, p, hz⟩ := I.list hx
  obtain ⟨jts, rw', q, hz'⟩ := I.list hy
  have l1 := rv.length
  have l2 := rw'.length
  refine wpAny_pyNext_zip_end (I.ok.hd hc) D h1 h2 h3 h4 h5 p.isList q.isList ?_ fun h' hk => ⟨rfl, ?_⟩
  ·rcases hl with hl | hl
   ·left; simp; lia
   ·right; simp; lia
  ·exact I.turnedL (t' := s.toks) hf fun c o hc e => by
    simp only [List.mem_cons, List.not_mem_nil, or_false, not_or] at hc
    exact hk c o hc.1 hc.2.2.1 hc.2.2.2.1 hc.2.2.2.2 e
 self := fun A i s Q E st h => wpAny_pyIter_zip st.1 h
def iZip2 (K : PySem.W.Frag) (ta : TA) : TI := fun σ H R => ta σ H fun vs H1 => ∃ a b, vs = [.ref a, .ref b] ∧ (∃ xs, SqL K H1 a xs) ∧ (∃ ys, SqL K H1 b ys) ∧ R (Itz K a b) H1
theorem bt_zip : bootBuiltins "zip" = some (.type "zip") := by first | exact PySem.boot_zip | exact PyProof.Rows.boot_zip
section
variable {X : Cx} {elts : List Expr} {kk : Nat} {tp : Pos}
theorem pi_zip2 {a b : Expr} {ta : TA} {p pos : Pos} (hg : Gl X "zip") (hm : X.mg "zip" = none) (ha : PA X [a, b] ta) (hs : starEach [a, b] X.env = [(false, eval a X.env), (false, eval b X.env)] := by rfl) (hs2 : starEach [b] X.env = [(false, eval b X.env)] := by rfl) :
 PI X (.Tuple elts kk tp) (.Call (.Name "zip" p) [a, b] [] pos) (iZip2 X.K ta) := by
 intro pins s σ H R I h
 refine Call_ (ld_blt I hg hm bt_zip (PyProof.Rows.callWith_type1 (thn (ha pos pins s σ H _ I h) fun us s1 ⟨vs, H1, I1, r1, q1⟩ => ?_) (by rw [hs, hs2]) (by rw [hs2]; rfl)))
 obtain ⟨x, y, e, ⟨xs, hx⟩, ⟨ys, hy⟩, q⟩ := q1
 subst e
 cases r1 with
 | cons r rr =>
   cases rr with
   | cons r' rr =>
     cases rr
     obtain ⟨its, rv, pl, hz⟩ := I1.list hx
     obtain ⟨jts, rw', ql, hz'⟩ := I1.list hy
     cases r
     cases r'
     have a1 : x < s1.heap.objs.size := by obtain ⟨_, e, _⟩ := pl.isList; exact Heap.lt_size e
     have a2 : y < s1.heap.objs.size := by obtain ⟨_, e, _⟩ := ql.isList; exact Heap.lt_size e
     refine call_zip_2 pl.isList ql.isList fun h' b1 b2 b3 b4 b5 b6 b7 => ?_
     have I2 : Inv X pins σ H1 { s1 with heap := h' } := I1.kept (t' := s1.toks) b7
     refine wpAny_pyIter_zip (s := { s1 with heap := h' }) b1 ⟨_, _, _, _, H1, rfl, I2, turn_zip (zipApart_new a1 a2), ⟨b1, b2, ⟨_, _, b3⟩, b4, b5⟩, fun c hc => ?_, q⟩
     have hc' : s1.heap.objs.size ≤ c := by
      simp only [List.mem_cons, List.not_mem_nil, or_false] at hc
      rcases hc with rfl | rfl | rfl | rfl | rfl
      ·exact Nat.le_add_right _ _
      ·exact Nat.le_add_right _ _
      ·exact Nat.le_add_right _ _
      ·exact Nat.le_refl _
      ·exact Nat.le_add_right _ _
     exact I1.fpOk hc' (I1.hok.fresh hc')
end
def Ite (K : PySem.W.Frag) (a : Addr) : It :=
 ⟨fun i H => ∃ xs x, SqL K H a xs ∧ xs[i]? = some x,
  fun i H v H' => ∃ T x, v = .ref T ∧ H T = none ∧ H' = upd H T (.tup [.int i, x]) ∧ (∀ xs, SqL K H a xs → xs[i]? = some x),
  fun i H => ∃ xs, SqL K H a xs ∧ xs.length ≤ i⟩
def iEnum (K : PySem.W.Frag) (ta : TA) : TI := fun σ H R => ta σ H fun vs H1 => ∃ a, vs = [.ref a] ∧ (∃ xs, H1 a = some (.lst xs)) ∧ R (Ite K a) H1
section
variable {X : Cx} {elts : List Expr} {kk : Nat} {tp : Pos}
end
end L2
namespace L2
open PySem PySem.Spec PyProof.Rows
section
variable {prog : Program} {w : World} {A : Around} {E : Value → Shared → Prop} {s : Shared}
theorem min_raw {l : Addr} {vs : List Value} {ns : List Int} {Q : Value → Shared → Prop} (hh : A.handled = none) (hl : s.heap.IsList l vs.toArray) (hi : IntsAre vs ns) (hne : 0 < ns.length)
 (h : ∀ h' M (t : Tok) tk, (∀ b o, s.heap.get? b = some o → h'.get? b = some o) → M ∈ ns → (∀ a, a ∈ ns → M ≤ a) → Q (.int M t) { s with heap := h', toks := tk }) : wpAny (model prog w) A (call (.builtin "min") [.ref l]) Q E s := by
 obtain ⟨xs, e⟩ := hi.allInts.items
 have hns : ns = xs.toList.map (·.1) := by
  rw [← hi.numsOf, ← nums_intItems, ← e]
 have hsz : 0 < xs.size := by
  have h3 := hne; rw [hns, List.length_map, Array.length_toList] at h3; exact h3
 rw [e] at hl
 refine min_intList hh hl hsz fun v h' tk hv hk => ?_
 obtain ⟨t, rfl⟩ := intItems_at hv
 obtain ⟨h1, h2⟩ := argBest_lt (numAt xs) (xs.size - 1)
 refine h _ _ t tk hk ?_ fun a ha => ?_
 ·rw [hns, numAt_eq]; exact PySem.getD_mem (by rw [List.length_map, Array.length_toList]; lia)
 ·rw [hns] at ha
  obtain ⟨j, hj, rfl⟩ := mem_getD ha
  rw [List.length_map, Array.length_toList] at hj
  rw [← numAt_eq]; exact h2 j (by lia)
theorem max_raw {l : Addr} {vs : List Value} {ns : List Int} {Q : Value → Shared → Prop} (hh : A.handled = none) (hl : s.heap.IsList l vs.toArray) (hi : IntsAre vs ns) (hne : 0 < ns.length)
 (h : ∀ h' M (t : Tok) tk, (∀ b o, s.heap.get? b = some o → h'.get? b = some o) → M ∈ ns → (∀ a, a ∈ ns → a ≤ M) → Q (.int M t) { s with heap := h', toks := tk }) : wpAny (model prog w) A (call (.builtin "max") [.ref l]) Q E s := by
 obtain ⟨xs, e⟩ := hi.allInts.items
 have hns : ns = xs.toList.map (·.1) := by
  rw [← hi.numsOf, ← nums_intItems, ← e]
 have hsz : 0 < xs.size := by
  have h3 := hne; rw [hns, List.length_map, Array.length_toList] at h3; exact h3
 rw [e] at hl
 refine max_intList hh hl hsz fun v h' tk hv hk => ?_
 obtain ⟨t, rfl⟩ := intItems_at hv
 obtain ⟨h1, h2⟩ := argBest_gt (numAt xs) (xs.size - 1)
 refine h _ _ t tk hk ?_ fun a ha => ?_
 ·rw [hns, numAt_eq]; exact PySem.getD_mem (by rw [List.length_map, Array.length_toList]; lia)
 ·rw [hns] at ha
  obtain ⟨j, hj, rfl⟩ := mem_getD ha
  rw [List.length_map, Array.length_toList] at hj
  rw [← numAt_eq]; exact h2 j (by lia)
theorem sum_raw {l : Addr} {vs : List Value} {ns : List Int} {Q : Value → Shared → Prop} (hh : A.handled = none) (hl : s.heap.IsList l vs.toArray) (hi : IntsAre vs ns)
 (h : ∀ h' tk t', (∀ b o, s.heap.get? b = some o → h'.get? b = some o) → Q (.int ns.sum t') { s with heap := h', toks := tk }) : wpAny (model prog w) A (call (.builtin "sum") [.ref l]) Q E s := by
 obtain ⟨xs, hx⟩ := hi.allInts.items
 have hl' : s.heap.IsList l (intItems xs) := hx ▸ hl
 refine sum_intListG hh hl' fun h' tk t' hk => ?_
 have e1 : ns = xs.toList.map (·.1) := by
  rw [← nums_intItems, ← hx]
  exact (show numsOf vs.toArray.toList = ns from hi.numsOf).symm
 have e2 : preSum (numAt xs) xs.size = ns.sum := by
  rw [preSum_eq, List.take_of_length_le (by simp), e1]
 rw [e2]
 exact h h' tk t' hk
end
def rSum (K : PySem.W.Frag) : List V → Hp → VK → Prop := fun xs H Q => ∃ p ns, xs = [.ref p] ∧ SqL K H p (iL ns) ∧ Q (.int ns.sum) H
def rMin (K : PySem.W.Frag) : List V → Hp → VK → Prop := fun xs H Q => (∃ i j, xs = [.int i, .int j] ∧ Q (.int (if j < i then j else i)) H) ∨ ∃ p ns, xs = [.ref p] ∧ SqL K H p (iL ns) ∧ 0 < ns.length ∧ ∀ m, m ∈ ns → (∀ a ∈ ns, m ≤ a) → Q (.int m) H
def rMax (K : PySem.W.Frag) : List V → Hp → VK → Prop := fun xs H Q => (∃ i j, xs = [.int i, .int j] ∧ Q (.int (if j > i then j else i)) H) ∨ ∃ p ns, xs = [.ref p] ∧ SqL K H p (iL ns) ∧ 0 < ns.length ∧ ∀ m, m ∈ ns → (∀ a ∈ ns, a ≤ m) → Q (.int m) H
section
variable {X : Cx}
theorem call_sumN (hc : X.calm = true) : CallR X (.builtin "sum") (rSum X.K) := by
 walk_at "z5"
 obtain ⟨p, ns, rfl, hq, q⟩ := h
 obtain ⟨u, rfl, ru⟩ := vals1 r
 cases ru
 obtain ⟨its, rv, pl, hz⟩ := I.list hq
 exact sum_raw (I.ok.hd hc) pl.isList (intsAre_of rv) fun h' tk t' hk => ⟨.int _, H, I.kept (t' := tk) hk, ⟨_, rfl⟩, q⟩
theorem call_minN (hc : X.calm = true) : CallR X (.builtin "min") (rMin X.K) := by
 walk_at "z5"
 rcases h with h | ⟨p, ns, rfl, hq, hne, q⟩
 ·exact call_min2 hc pins s σ H xs us Q I r h
 ·obtain ⟨u, rfl, ru⟩ := vals1 r
  cases ru
  obtain ⟨its, rv, pl, hz⟩ := I.list hq
  exact min_raw (I.ok.hd hc) pl.isList (intsAre_of rv) hne fun h' M t tk hk h1 h2 => ⟨.int M, H, I.kept (t' := tk) hk, ⟨_, rfl⟩, q M h1 h2⟩
theorem call_maxN (hc : X.calm = true) : CallR X (.builtin "max") (rMax X.K) := by
 walk_at "z5"
 rcases h with h | ⟨p, ns, rfl, hq, hne, q⟩
 ·exact call_max2 hc pins s σ H xs us Q I r h
 ·obtain ⟨u, rfl, ru⟩ := vals1 r
  cases ru
  obtain ⟨its, rv, pl, hz⟩ := I.list hq
  exact max_raw (I.ok.hd hc) pl.isList (intsAre_of rv) hne fun h' M t tk hk h1 h2 => ⟨.int M, H, I.kept (t' := tk) hk, ⟨_, rfl⟩, q M h1 h2⟩
end
section
variable {K : PySem.W.Frag} {H : Hp} {Q : VK} {p : Addr} {ns : List Int} {i j : Int}
theorem i_sum (h : SqL K H p (iL ns)) (q : Q (.int ns.sum) H) : rSum K [.ref p] H Q := ⟨p, ns, rfl, h, q⟩
theorem i_min2 (q : ∀ m, m = min i j → Q (.int m) H) : rMin K [.int i, .int j] H Q := .inl ⟨i, j, rfl, q _ (by split <;> lia)⟩
theorem i_max2 (q : ∀ m, m = max i j → Q (.int m) H) : rMax K [.int i, .int j] H Q := .inl ⟨i, j, rfl, q _ (by split <;> lia)⟩
theorem i_minL (h : SqL K H p (iL ns)) (hn : 0 < ns.length) (q : ∀ m, m ∈ ns → (∀ a ∈ ns, m ≤ a) → Q (.int m) H) : rMin K [.ref p] H Q := .inr ⟨p, ns, rfl, h, hn, q⟩
end
section
variable {K : PySem.W.Frag} {g : TG} {tb : TS} {D : Ends} {σ : St} {H : Hp}
theorem lp_zip {a b : Addr} {xs ys : List V} (Pv : Nat → St → Hp → Prop) (h0 : Pv 0 σ H) (hl : ∀ i σ H, Pv i σ H → SqL K H a xs ∧ SqL K H b ys)
 (hs : ∀ i x y T σ H, xs[i]? = some x → ys[i]? = some y → Pv i σ H → H T = none → g (.ref T) σ (upd H T (.tup [x, y])) fun σ2 H2 => tb { D with nx := Pv (i + 1), ct := Pv (i + 1), bk := D.nx } σ2 H2)
 (hd : ∀ σ H, Pv (min xs.length ys.length) σ H → D.nx σ H) : LoopI (Itz K a b) g tb D σ H := by
 refine ⟨fun i m σ H => m = min xs.length ys.length - i ∧ i ≤ min xs.length ys.length ∧ Pv i σ H, ⟨_, rfl, Nat.zero_le _, h0⟩, ?_⟩
 rintro i m σ H ⟨rfl, hi, p⟩
 obtain ⟨q1, q2⟩ := hl i σ H p
 by_cases hlt : i < min xs.length ys.length
 ·have l1 : i < xs.length := by lia
  have l2 : i < ys.length := by lia
  refine .inr ⟨⟨xs, ys, xs[i], ys[i], q1, q2, by simp [l1], by simp [l2]⟩, Pv (i + 1), fun σ' H' p' => ⟨_, by lia, rfl, hlt, p'⟩, fun x H' y => ?_⟩
  obtain ⟨T, x1, y1, rfl, hT, rfl, ex, ey⟩ := y
  exact hs i x1 y1 T σ H (ex xs q1) (ey ys q2) p hT
 ·have e : i = min xs.length ys.length := by lia
  refine .inl ⟨⟨xs, ys, q1, q2, by lia⟩, hd σ H (by rw [← e]; exact p)⟩
end
section
variable {K : PySem.W.Frag} {g : TG} {ti : TT} {te : TE} {σc : St} {H : Hp} {Q : VK}
theorem cp_list {a : Addr} {xs : List V} (Pv : Nat → List V → Hp → Prop) (h0 : Pv 0 [] H) (hl : ∀ i ys H, Pv i ys H → SqL K H a xs ∧ ys.length ≤ i) (hx : xs.length < sizeLine)
 (hs : ∀ i x ys H, xs[i]? = some x → Pv i ys H → g x σc H fun σ2 H2 => ti σ2 H2 fun b H3 => if b = true then te σ2 H3 fun y H4 => Pv (i + 1) (ys ++ [y]) H4 else Pv (i + 1) ys H3)
 (hd : ∀ l ys H, Pv xs.length ys H → H l = none → Q (.ref l) (upd H l (.lst ys))) : CompI (Itl K a) g ti te σc H Q := by
 refine ⟨fun i m ys H => m = xs.length - i ∧ i ≤ xs.length ∧ Pv i ys H, ⟨_, rfl, Nat.zero_le _, h0⟩, ?_⟩
 rintro i m ys H ⟨rfl, hi, p⟩
 obtain ⟨q, hy⟩ := hl i ys H p
 refine ⟨by lia, ?_⟩
 by_cases hlt : i < xs.length
 ·refine .inr ⟨⟨xs, xs[i], q, by simp [hlt]⟩, Pv (i + 1), fun σ' H' p' => ⟨_, by lia, rfl, hlt, p'⟩, fun x H' y => ?_⟩
  obtain ⟨e, y⟩ := y
  subst e
  exact hs i x ys _ (y xs q) p
 ·have e : i = xs.length := by lia
  subst e
  exact .inl ⟨⟨xs, q, Nat.le_refl _⟩, fun l hl => hd l ys H p hl⟩
theorem cp_zip {a b : Addr} {xs ys : List V} (Pv : Nat → List V → Hp → Prop) (h0 : Pv 0 [] H) (hl : ∀ i zs H, Pv i zs H → SqL K H a xs ∧ SqL K H b ys ∧ zs.length ≤ i) (hx : min xs.length ys.length < sizeLine)
 (hs : ∀ i x y T zs H, xs[i]? = some x → ys[i]? = some y → Pv i zs H → H T = none → g (.ref T) σc (upd H T (.tup [x, y])) fun σ2 H2 => ti σ2 H2 fun b H3 => if b = true then te σ2 H3 fun y H4 => Pv (i + 1) (zs ++ [y]) H4 else Pv (i + 1) zs H3)
 (hd : ∀ l zs H, Pv (min xs.length ys.length) zs H → H l = none → Q (.ref l) (upd H l (.lst zs))) : CompI (Itz K a b) g ti te σc H Q := by
 refine ⟨fun i m zs H => m = min xs.length ys.length - i ∧ i ≤ min xs.length ys.length ∧ Pv i zs H, ⟨_, rfl, Nat.zero_le _, h0⟩, ?_⟩
 rintro i m zs H ⟨rfl, hi, p⟩
 obtain ⟨q1, q2, hy⟩ := hl i zs H p
 refine ⟨by lia, ?_⟩
 by_cases hlt : i < min xs.length ys.length
 ·have l1 : i < xs.length := by lia
  have l2 : i < ys.length := by lia
  refine .inr ⟨⟨xs, ys, xs[i], ys[i], q1, q2, by simp [l1], by simp [l2]⟩, Pv (i + 1), fun σ' H' p' => ⟨_, by lia, rfl, hlt, p'⟩, fun x H' y => ?_⟩
  obtain ⟨T, x1, y1, rfl, hT, rfl, ex, ey⟩ := y
  exact hs i x1 y1 T zs H (ex xs q1) (ey ys q2) p hT
 ·have e : i = min xs.length ys.length := by lia
  exact .inl ⟨⟨xs, ys, q1, q2, by lia⟩, fun l hl => hd l zs H (by rw [← e]; exact p) hl⟩
end
end L2
namespace L2
open PySem PySem.Spec PyProof.Rows
theorem fr_nil {X : Cx} {sc : Scope} : FrOk X sc [] [] := trivial
theorem fr_none {X : Cx} {sc : Scope} {x : Str} {N : List Str} {fr : List (Option Nat)} (h : FrOk X sc N fr) : FrOk X sc (x :: N) (none :: fr) := h
theorem fr_some {X : Cx} {sc : Scope} {x : Str} {N : List Str} {fr : List (Option Nat)} {j : Nat} (h1 : X.N[j]? = some x) (h2 : X.env.kindOf x = some .cell ∨ X.env.kindOf x = some .free) (h3 : sc.names.lookup x = some .free) (h : FrOk X sc N fr) : FrOk X sc (x :: N) (some j :: fr) := ⟨⟨h1, h2, h3⟩, h⟩
theorem pe_globI {X : Cx} {x : Str} {n : Int} {pos : Pos} (h : ∃ t, X.mg x = some (.int n t)) (hg : Gl X x) (hd : (x == ("__debug__" : Str)) = false := by decide) : PE X (.Name x pos) (tC (.int n)) := by
 obtain ⟨t, h⟩ := h
 exact pe_glob hg h ⟨t, rfl⟩ hd
end L2
namespace L2
open PySem PySem.Spec PyProof.Rows
section
variable {X : Cx} (K : PySem.W.Frag) {tg l : Expr} {tl : TE} {pos p : Pos}
theorem op_eqK (hu : X.A.units + 64 < cLine) (hK : X.K = K := by rfl) : OpR X (compareOp .Eq) (rEqP K) := by subst hK; exact op_eqP hu
theorem op_neK (hu : X.A.units + 64 < cLine) (hK : X.K = K := by rfl) : OpR X (compareOp .NotEq) (rNeP K) := by subst hK; exact op_neP hu
theorem ix_K (hK : X.K = K := by rfl) : IxR X (rIxP K) := by subst hK; exact ix_P
theorem sl_listK (hK : X.K = K := by rfl) : SlR X (rSlL K) := by subst hK; exact sl_list
theorem call_lenK (hK : X.K = K := by rfl) : CallR X (.builtin "len") (rLen K) := by subst hK; exact call_lenN
theorem call_listK (hK : X.K = K := by rfl) : CallR X (.type "list") (rListOf K) := by subst hK; exact call_listN
theorem call_sumK (hc : X.calm = true := by rfl) (hK : X.K = K := by rfl) : CallR X (.builtin "sum") (rSum K) := by subst hK; exact call_sumN hc
theorem call_minK (hc : X.calm = true := by rfl) (hK : X.K = K := by rfl) : CallR X (.builtin "min") (rMin K) := by subst hK; exact call_minN hc
theorem call_maxK (hc : X.calm = true := by rfl) (hK : X.K = K := by rfl) : CallR X (.builtin "max") (rMax K) := by subst hK; exact call_maxN hc
theorem call_intK : CallR X (.type "int") rIntOf := call_intN
theorem call_absK : CallR X (.builtin "abs") rAbs := call_absN
theorem pi_listK (hl : PE X l tl) (hK : X.K = K := by rfl) : PI X tg l (iList K tl) := by subst hK; exact pi_list hl
theorem pi_zip2K {elts : List Expr} {kk : Nat} {tp : Pos} {a b : Expr} {ta : TA} (hg : Gl X "zip") (hm : X.mg "zip" = none) (ha : PA X [a, b] ta) (hs : starEach [a, b] X.env = [(false, eval a X.env), (false, eval b X.env)] := by rfl) (hs2 : starEach [b] X.env = [(false, eval b X.env)] := by rfl) (hK : X.K = K := by rfl) :
 PI X (.Tuple elts kk tp) (.Call (.Name "zip" p) [a, b] [] pos) (iZip2 K ta) := by subst hK; exact pi_zip2 hg hm ha hs hs2
theorem pg_tupK {es : List Expr} {k : Nat} {t : TGs} (n : Nat) (h : PGs X es t) (hc : X.calm = true := by rfl) (hn : (assignEach es X.env).length = n := by rfl) (hst : (assignEach es X.env).findIdx? (·.1) = none := by rfl) (hK : X.K = K := by rfl) : PG X (.Tuple es k pos) (gTup K n t) := by
 subst hK; exact pg_tup hc h hn hst
theorem pt_truthK {a : Expr} {ta : TE} (ha : PE X a ta) (he : ∀ whole, isTrue a X.env whole = (do let v ← whole; standAt a.pos; holding [v] (truthy v)) := by intro _; rfl) (hK : X.K = K := by rfl) : PT X a (tTru K ta) := by
 subst hK; exact pt_truthN ha he
theorem pe_bmK {o e : Expr} {es : List Expr} {to : TE} {t : TA} {name : Str} {apos cpos : Pos} {T id : String} {r : V → List V → Hp → VK → Prop} (pa : PlainAttrs T) (slot : Slot T name id) (hty : typeOf (.builtin id) = pure (.type "method_descriptor")) (hm : MtR X id r) (ho : PE X o to) (ha : PA X (e :: es) t)
 (hbase : attributeBase o name X.env (eval o X.env) = eval o X.env := by rfl)
 (hfew : ((backTo cpos (starEach (e :: es) X.env)).all (fun x => !x.1) && (backToKw cpos (keywordEach [] X.env)).all (fun x => x.1.isSome)
  && decide ((e :: es).length + ([] : List Keyword).length + (if ([] : List Keyword).isEmpty then 0 else 1) < 30)) = true := by rfl)
 (hline : (apos.endLine == cpos.line) = true := by rfl) (hs : starEach (e :: es) X.env = (false, eval e X.env) :: starEach es X.env := by rfl) (hplain : (backTo cpos (starEach es X.env)).any (·.1) = false := by rfl) (hK : X.K = K := by rfl) :
 PE X (.Call (.Attribute o name apos) (e :: es) [] cpos) (tBM K T r to t) := by
 subst hK; exact pe_bm pa slot hty hm ho ha hbase hfew hline hs hplain
theorem pe_bm0K {o : Expr} {to : TE} {name : Str} {apos cpos : Pos} {T id : String} {r : V → List V → Hp → VK → Prop} (pa : PlainAttrs T) (slot : Slot T name id) (hty : typeOf (.builtin id) = pure (.type "method_descriptor")) (hm : MtR X id r) (ho : PE X o to)
 (hbase : attributeBase o name X.env (eval o X.env) = eval o X.env := by rfl) (hline : (apos.endLine == cpos.line) = true := by rfl) (hK : X.K = K := by rfl) : PE X (.Call (.Attribute o name apos) [] [] cpos) (tBM0 K T r to) := by
 subst hK; exact pe_bm0 pa slot hty hm ho hbase hline
end
end L2
namespace L2
open PySem PySem.Spec PyProof.Rows
section
variable {K : PySem.W.Frag} {H : Hp} {Q : VK} {n : Nat}
theorem pd_tup {t : Addr} {ds : List PyData} {xs : List V} (h : SqT K H t xs) (p : Paired (PdAt K H n) ds xs) : PdAt K H (n + 1) (.tuple ds) (.ref t) := ⟨t, xs, rfl, h, p⟩
theorem pd_lst {t : Addr} {ds : List PyData} {xs : List V} (h : SqL K H t xs) (p : Paired (PdAt K H n) ds xs) : PdAt K H (n + 1) (.list ds) (.ref t) := ⟨t, xs, rfl, h, p⟩
theorem i_neSame {x y : V} (d : PyData) (hx : PdAt K H 9 d x) (hy : PdAt K H 9 d y) (q : Q (.bl false) H) : rNeP K x y H Q := ⟨d, d, hx, hy, by
 rw [PySem.SeqAt.eqv_refl d (pd_shape 9 d x hx).1]; exact q⟩
end
end L2
namespace L2
open PySem PySem.Spec PyProof.Rows
theorem i_popS {H : Hp} {Q : VK} {l : Addr} {xs : List V} {y : V} (h : H l = some (.lst (xs ++ [y]))) (q : Q y (upd H l (.lst xs))) : rPop (.ref l) [] H Q := ⟨l, _, y, rfl, rfl, h, by simp, by simpa using q⟩
end L2
namespace L2
open PySem PySem.Spec PyProof.Rows
def Itd (lo : Int) (n : Nat) : It := ⟨fun i _ => i < n, fun i H x H' => H' = H ∧ x = .int (lo - i), fun i _ => n ≤ i⟩
theorem turn_down {P : Program} {w : World} {K : PySem.W.Frag} {tg : Expr} (it : Addr) (lo : Int) (n : Nat) : Turn P w K tg (Itd lo n) [it] it (fun i h => IsRangeIter h it (lo + (i : Nat) * (-1)) ((n : Int) - (i : Nat)) (-1)) where
 mem := by simp
 obj := fun i h st b hb => by
  have e : b = it := by simpa using hb
  subst e
  exact ⟨_, st, fun v z => by
   have z' : Data.fields _ = Data.cell v := z
   cases z'⟩
 keep := fun i h h' st k => k it (by simp) _ st
 item := by
  walk_at "z1"
  subst hP hw hK
  walk_at "z4"
  have W := Walks.range (prog := X.prog) (w := X.w) (I.ok.hd hc) it lo (-1) n
  refine W.item i s _ _ hg st fun v h' tk hv st' kk => ?_
  obtain ⟨t, rfl⟩ := hv
  have I1 : Inv X pins σ H { s with heap := h', toks := tk } := I.turned (fun b o hb e => kk b o (by simpa using hb) e) f0 f1 f3 f4 f5
  refine ⟨_, rfl, go_of (s := { s with heap := h', toks := tk }) (n := "range_iterator") st' rfl rfl (by decide) ⟨.int (lo - i), H, I1, ⟨t, ?_⟩, ⟨rfl, rfl⟩, st', fun b hb => (hf b hb).1⟩⟩
  congr 1
  lia
 done := by
  walk_at "z1"
  subst hP hw hK
  walk_at "z4"
  exact wpAny_pyNext_range_end (I.ok.hd hc) st (by have : n ≤ i := hg; lia) fun h' eb => ⟨rfl, I.turned (t' := s.toks) (fun b o hb e => eb b o hb e) f0 f1 f3 f4 f5⟩
 self := fun _ _ _ _ _ st h => wpAny_pyIter_rangeiter st h
theorem rangeSize_down (a b : Int) : Builtin.Range.rangeSize a b (-1) = if a > b then a - b else 0 := by
 unfold Builtin.Range.rangeSize
 simp only [show ¬ ((-1 : Int) > 0) by decide, if_false, Int.neg_neg, Int.ediv_one]
 split <;> lia
theorem small_down {a b : Int} (ha : -(2 ^ 62) ≤ a) (ha' : a < 2 ^ 62) (hb : -(2 ^ 62) ≤ b) (hb' : b < 2 ^ 62) : Builtin.Range.small a b (-1) = true := by
 unfold Builtin.Range.small
 rw [rangeSize_down]
 simp only [Builtin.Range.rangeFitsLong, Bool.and_eq_true, Bool.or_eq_true, decide_eq_true_eq, beq_iff_eq, show ¬ ((-1 : Int) > 0) by decide, if_false]
 split <;> lia
section
variable {X : Cx} {tg : Expr}
theorem range_itd {pins : List (Addr × Obj)} {σ : St} {H : Hp} {s : Shared} {R : It → Hp → Prop} {E : Value → Shared → Prop} {lo hi : Int} {t u v : Tok} {tk : Nat} (I : Inv X pins σ H s) (h1 : -(2 ^ 62) ≤ lo) (h2 : lo < 2 ^ 62) (h3 : -(2 ^ 62) ≤ hi) (h4 : hi < 2 ^ 62)
 (q : R (Itd lo (lo - hi).toNat) H) : wpAny (model X.prog X.w) X.A (pyIter (.ref s.heap.objs.size)) (PIE X pins σ tg R) E { s with heap := s.heap.push { cls := .type "range", data := .fields #[.int lo t, .int hi u, .int (-1) v] }, toks := tk } := by
 refine wpAny_pyIter_range (IsRange.new ..) (small_down h1 h2 h3 h4) ?_
 have I1 : Inv X pins σ H { s with heap := s.heap.push { cls := .type "range", data := .fields #[.int lo t, .int hi u, .int (-1) v] }, toks := tk } := I.kept fun b o e => Heap.get?_push_of_some _ e
 refine ⟨(s.heap.push { cls := .type "range", data := .fields #[.int lo t, .int hi u, .int (-1) v] }).objs.size, [(s.heap.push { cls := .type "range", data := .fields #[.int lo t, .int hi u, .int (-1) v] }).objs.size], _, _, H, rfl,
  I1.kept (t' := tk) fun b o e => Heap.get?_push_of_some _ e, turn_down _ lo (lo - hi).toNat, ?_, fun b hb => ?_, q⟩
 ·have e1 : lo + ((0 : Nat) : Int) * (-1) = lo := by simp
  have e2 : (((lo - hi).toNat : Nat) : Int) - ((0 : Nat) : Int) = Builtin.Range.rangeSize lo hi (-1) := by rw [rangeSize_down]; split <;> lia
  show IsRangeIter _ _ (lo + ((0 : Nat) : Int) * (-1)) ((((lo - hi).toNat : Nat) : Int) - ((0 : Nat) : Int)) (-1)
  rw [e1, e2]
  exact Heap.get?_push_size _ rfl
 ·have e : b = (s.heap.push { cls := .type "range", data := .fields #[.int lo t, .int hi u, .int (-1) v] }).objs.size := by simpa using hb
  subst e
  exact I1.fpOk (Nat.le_refl _) (I1.hok.fresh (Nat.le_refl _))
def iRng3 (ta : TA) : TI := fun σ H R => ta σ H fun vs H1 => ∃ i j : Int, vs = [.int i, .int j, .int (-1)] ∧ (-(2 ^ 62) ≤ i ∧ i < 2 ^ 62 ∧ -(2 ^ 62) ≤ j ∧ j < 2 ^ 62) ∧ R (Itd i (i - j).toNat) H1
theorem pi_range3 {a b c : Expr} {ta : TA} {p pos : Pos} (hg : Gl X "range") (hm : X.mg "range" = none) (ha : PA X [a, b, c] ta) (hs : starEach [a, b, c] X.env = [(false, eval a X.env), (false, eval b X.env), (false, eval c X.env)] := by rfl) (hs2 : starEach [b, c] X.env = [(false, eval b X.env), (false, eval c X.env)] := by rfl) :
 PI X tg (.Call (.Name "range" p) [a, b, c] [] pos) (iRng3 ta) := by
 intro pins s σ H R I h
 refine Call_ (ld_blt I hg hm boot_range (PyProof.Rows.callWith_type1 (thn (ha pos pins s σ H _ I h) fun us s1 ⟨vs, H1, I1, r1, q1⟩ => ?_) (by rw [hs, hs2]) (by rw [hs2]; rfl)))
 obtain ⟨i, j, e, ⟨q1, q2, q3, q4⟩, q⟩ := q1
 subst e
 cases r1 with
 | cons r rr =>
   cases rr with
   | cons r' rr =>
     cases rr with
     | cons r'' rr =>
       cases rr
       obtain ⟨t, rfl⟩ := r
       obtain ⟨t', rfl⟩ := r'
       obtain ⟨t'', rfl⟩ := r''
       exact call_range_3 (by decide) (range_itd I1 q1 q2 q3 q4 q) (.inl (PyProof.noPylong_small (by lia)))
end
section
variable {K : PySem.W.Frag} {g : TG} {tb : TS} {D : Ends} {σ : St} {H : Hp}
theorem lp_down {lo : Int} {n : Nat} (Pv : Nat → St → Hp → Prop) (h0 : Pv 0 σ H)
 (hs : ∀ i σ H, i < n → Pv i σ H → g (.int (lo - i)) σ H fun σ2 H2 => tb { D with nx := Pv (i + 1), ct := Pv (i + 1), bk := D.nx } σ2 H2) (hd : ∀ σ H, Pv n σ H → D.nx σ H) : LoopI (Itd lo n) g tb D σ H := by
 refine ⟨fun i m σ H => m = n - i ∧ i ≤ n ∧ Pv i σ H, ⟨n, by simp, Nat.zero_le _, h0⟩, ?_⟩
 rintro i m σ H ⟨rfl, hi, p⟩
 by_cases hlt : i < n
 ·refine .inr ⟨hlt, Pv (i + 1), fun σ' H' p' => ⟨n - (i + 1), by lia, rfl, hlt, p'⟩, fun x H' y => ?_⟩
  obtain ⟨e, y⟩ := y
  subst e y
  exact hs i σ _ hlt p
 ·have e : i = n := by lia
  subst e
  exact .inl ⟨Nat.le_refl _, hd σ H p⟩
end
section
variable {X : Cx} (K : PySem.W.Frag)
theorem pi_tupK {tg l : Expr} {tl : TE} (hl : PE X l tl) (hK : X.K = K := by rfl) : PI X tg l (iTup K tl) := by subst hK; exact pi_tup hl
def rIsB (neg : Bool) : R2 := fun x y H Q => ∃ a b : Bool, x = .bl a ∧ y = .bl b ∧ Q (.bl (if neg then !decide (a = b) else decide (a = b))) H
theorem i_isB {a b : Bool} {H : Hp} {Q : VK} (q : Q (.bl (decide (a = b))) H) : rIsB false (.bl a) (.bl b) H Q := ⟨a, b, rfl, rfl, q⟩
theorem i_isNotB {a b : Bool} {H : Hp} {Q : VK} (q : Q (.bl (!decide (a = b))) H) : rIsB true (.bl a) (.bl b) H Q := ⟨a, b, rfl, rfl, q⟩
end
end L2
namespace L2
open PySem PySem.Spec PyProof.Rows
theorem dict_mapFields (o : Obj) (g : Array Value → Array Value) : (o.mapFields g).dict = o.dict := by
 rcases o with ⟨c, d, dt, sl⟩
 cases dt <;> rfl
def TrD (h B : Heap) (e : Addr) (cls fl : Value) : Prop :=
 ∃ oe vs T oT ts, h.get? e = some oe ∧ (oe.cls = cls ∧ oe.dict = none) ∧ oe.data = .fields vs ∧ vs[1]? = some (.ref T) ∧ B.get? T = none ∧ T ≠ e ∧ h.get? T = some oT ∧ oT.data = .fields ts ∧ ts[3]? = some fl
structure FlyAt (B : Heap) (l : List Env) (e : Addr) (cls fl : Value) (h : Heap) : Prop where
 st : B.StaysIn h
 ne : B.get? e = none
 fr : h.FunFrames B l
 tr : TrD h B e cls fl
abbrev Fly (B : Heap) (l : List Env) (e : Addr) (cls : Value) (h : Heap) : Prop := FlyAt B l e cls .none h
theorem FlyAt.there {B : Heap} {l : List Env} {e : Addr} {cls fl : Value} {h : Heap} (x : FlyAt B l e cls fl h) : ∃ o vs, h.get? e = some o ∧ o.cls = cls ∧ o.dict = none ∧ o.data = .fields vs := by
 obtain ⟨oe, vs, T, oT, ts, h1, ⟨h2, h3⟩, h4, _⟩ := x.tr
 exact ⟨oe, vs, h1, h2, h3, h4⟩
section
variable {M : Model} {A : Around} {E : Value → Shared → Prop} {s : Shared} {B : Heap} {env : Env} {outer : List Env} {L e : Addr}
theorem fly_entry {oe : Obj} {vs : Array Value} {head : Value} {had : Bool} {Q : Unit → Shared → Prop} (hfr : A.frames = some (env :: outer)) (hl : s.heap.FunFrames B (env :: outer)) (hf : env.frame = some L) (he : s.heap.get? e = some oe) (hB : B.StaysIn s.heap) (hn : B.get? e = none) (hd : oe.data = .fields vs) (hz : 1 < vs.size) (hdn : oe.dict = none)
 (k : ∀ h', FlyAt B (env :: outer) e oe.cls (rawInt L) h' → s.heap.UpToSlots h' → Q () { s with heap := h' }) :
 wpAny M A (do let fr ← frameOf env; let pl ← entryPlaceOf L had; let tb ← EntryCells.newEntry head fr .none (rawInt L) .none pl; setField (.ref e) 1 tb) Q E s := by
 have noFr : e ∉ (env :: outer).filterMap (·.frame) := fun hm => by
  obtain ⟨_, ob, hob, hno⟩ := hl.mem hm
  rw [he] at hob
  cases hob
  exact hno vs hd
 refine wpAny_bind (wpAny_frameOf_fun hfr hl hf fun ha sa => ?_)
 refine wpAny_bind (wpAny_entryPlaceOf fun pl hpl => ?_)
 unfold EntryCells.newEntry newFields
 refine wpAny_bind (wpAny_newObj_type ?_ (hpl.sizeOk5 _ _ _ _ _))
 have ea : ha.get? e = some oe := by rw [sa.2.1 e noFr]; exact he
 have Ba : B.StaysIn ha := fun b o z => by
  rw [sa.2.1 b fun hm => by rw [(hl.mem hm).1] at z; cases z]
  exact hB b o z
 generalize hO : ({ cls := .type "traceback", dict := none, data := .fields ([head, .ref L, .none, rawInt L, .none] ++ (if pl.isEmpty then List.replicate 6 Value.none else pl)).toArray } : Obj) = oT
 have hOd : oT.data = .fields ([head, .ref L, .none, rawInt L, .none] ++ (if pl.isEmpty then List.replicate 6 Value.none else pl)).toArray := by rw [← hO]
 have hOf : oT.isFreed = false := Obj.isFreed_of_fields hOd
 have eb : (ha.push oT).get? e = some oe := Heap.get?_push_of_some _ ea
 have Tb : (ha.push oT).get? ha.objs.size = some oT := Heap.get?_push_size _ hOf
 have Te : ha.objs.size ≠ e := fun z => by rw [← z] at ea; exact absurd (Heap.lt_size ea) (Nat.lt_irrefl _)
 refine wpAny_setField eb hd hz (k _ ?_ ?_)
 ·have md := Obj.data_mapFields hd (·.setIfInBounds 1 (Value.ref ha.objs.size))
  have ec := Heap.get?_update_self (Obj.mapFields (·.setIfInBounds 1 (Value.ref ha.objs.size))) eb (Obj.isFreed_of_fields md)
  have Tc : ((ha.push oT).update e (Obj.mapFields (·.setIfInBounds 1 (Value.ref ha.objs.size)))).get? ha.objs.size = some oT := by rw [Heap.get?_update_other _ _ (Ne.symm Te)]; exact Tb
  have kc : ∀ b o, b ≠ e → ha.get? b = some o → ((ha.push oT).update e (Obj.mapFields (·.setIfInBounds 1 (Value.ref ha.objs.size)))).get? b = some o := fun b o nb z => by
   rw [Heap.get?_update_other _ _ (Ne.symm nb)]
   exact Heap.get?_push_of_some _ z
  refine ⟨fun b o z => kc b o (fun q => by rw [q, hn] at z; cases z) (Ba b o z), hn, hl.of_keeps fun b o z hno => ?_, ⟨_, _, ha.objs.size, oT, _, ec, ⟨Obj.cls_mapFields _ _, (dict_mapFields _ _).trans hdn⟩, md, by simp [hz], ?_, Te, Tc, hOd, ?_⟩⟩
  ·obtain ⟨sl, z2⟩ := sa.2.2 b o z
   exact ⟨_, kc b _ (fun q => by rw [q, he] at z; cases z; exact hno vs hd) z2, rfl⟩
  ·cases q : B.get? ha.objs.size with
   | none => rfl
   | some o => exact absurd (Heap.lt_size (Ba _ _ q)) (Nat.lt_irrefl _)
  ·rcases hpl with rfl | ⟨_, _, _, _, _, _, _, rfl⟩ <;> simp
 ·intro b o z hno
  obtain ⟨sl, z2⟩ := sa.2.2 b o z
  refine ⟨sl, ?_⟩
  have nb : b ≠ e := fun q => by rw [q, he] at z; cases z; exact hno vs hd
  show ((ha.push oT).update e _).get? b = _
  rw [Heap.get?_update_other _ _ (Ne.symm nb)]
  exact Heap.get?_push_of_some _ z2
theorem fly_lands {l : List Env} {cls fl : Value} {Q : Unit → Shared → Prop} (x : FlyAt B l e cls fl s.heap) (k : ∀ h', Fly B l e cls h' → s.heap.UpToSlots h' → Q () { s with heap := h' }) : wpAny M A (setFlight (.ref e) none) Q E s := by
 obtain ⟨x1, x2, x3, oe, vs, T, oT, ts, t1, t2, t3, t4, t5, t6, t7, t8, t9⟩ := x
 have sz : 3 < ts.size := (Array.getElem?_eq_some_iff.mp t9).1
 unfold setFlight
 refine wpAny_bind (wpAny_field t1 t3 t4 ?_)
 rw [if_pos (by simp)]
 have oth : ∀ b, b ≠ T → (s.heap.update T (Obj.mapFields (·.setIfInBounds 3 Value.none))).get? b = s.heap.get? b := fun b nb => Heap.get?_update_other _ _ (Ne.symm nb)
 have rec0 : ∀ b o, s.heap.get? b = some o → (∀ us, o.data ≠ .fields us) → b ≠ T := fun b o z hno q => by rw [q, t7] at z; cases z; exact hno ts t8
 refine wpAny_setField t7 t8 sz (k _ ⟨fun b o z => ?_, x2, x3.of_keeps fun b o z hno => ⟨o, (oth b (rec0 b o z hno)).trans z, rfl⟩, oe, vs, T, _, _, (oth e (Ne.symm t6)).trans t1, t2, t3, t4, t5, t6, Heap.get?_update_self _ t7 (Obj.isFreed_of_fields (Obj.data_mapFields t8 _)), Obj.data_mapFields t8 _, by simp [sz]⟩ fun b o z hno => ⟨o.slots, (oth b (rec0 b o z hno)).trans z⟩)
 exact (oth b fun q => by rw [q, t5] at z; cases z).trans (x1 b o z)
theorem fly_looks {cls : Value} {Q : Unit → Shared → Prop} (hfr : A.frames = some (env :: outer)) (hf : env.frame = some L) (x : Fly B (env :: outer) e cls s.heap) (k : ∀ h', FlyAt B (env :: outer) e cls (rawInt L) h' → s.heap.UpToSlots h' → Q () { s with heap := h' }) : wpAny M A (noteFrame (.ref e) env) Q E s := by
 obtain ⟨x1, x2, x3, oe, vs, T, oT, ts, t1, ⟨rfl, tdn⟩, t3, t4, t5, t6, t7, t8, t9⟩ := x
 unfold noteFrame
 simp only [hf]
 refine wpAny_bind (wpAny_field t1 t3 t4 ?_)
 rw [if_pos (by simp)]
 refine wpAny_bind (wpAny_field t7 t8 t9 ?_)
 rw [if_neg (by simp [rawInt])]
 refine wpAny_bind (wpAny_setField t7 t8 (Array.getElem?_eq_some_iff.mp t9).1 ?_)
 have oth : ∀ b, b ≠ T → (s.heap.update T (Obj.mapFields (·.setIfInBounds 3 Value.none))).get? b = s.heap.get? b := fun b nb => Heap.get?_update_other _ _ (Ne.symm nb)
 have rec0 : ∀ b o, s.heap.get? b = some o → (∀ us, o.data ≠ .fields us) → b ≠ T := fun b o z hno q => by rw [q, t7] at z; cases z; exact hno ts t8
 refine fly_entry (s := { s with heap := s.heap.update T (Obj.mapFields (·.setIfInBounds 3 Value.none)) }) hfr (x3.of_keeps fun b o z hno => ⟨o, (oth b (rec0 b o z hno)).trans z, rfl⟩) hf ((oth e (Ne.symm t6)).trans t1)
  (fun b o z => (oth b fun q => by rw [q, t5] at z; cases z).trans (x1 b o z)) x2 t3 (Array.getElem?_eq_some_iff.mp t4).1 tdn fun h' f u => k h' f fun b o z hno => u b o ((oth b (rec0 b o z hno)).trans z) hno
theorem fly_out {l : List Env} {cls fl : Value} {h : Heap} (x : FlyAt B (env :: l) e cls fl h) : FlyAt B l e cls fl h := ⟨x.st, x.ne, x.fr.2.2, x.tr⟩
theorem fly_on {cls : Value} {Q : Unit → Shared → Prop} (hfr : A.frames = some (env :: outer)) (hf : env.frame = some L) (x : Fly B (env :: outer) e cls s.heap) (k : ∀ h', Fly B outer e cls h' → s.heap.UpToSlots h' → Q () { s with heap := h' }) : wpAny M A (leaving env (.ref e)) Q E s := by
 unfold leaving
 refine wpAny_bind (fly_looks hfr hf x fun h1 f1 u1 => ?_)
 exact fly_lands (s := { s with heap := h1 }) f1 fun h2 f2 u2 => k h2 (fly_out f2) (u1.trans u2)
theorem fly_made {h : Heap} {cls : Value} {args : List Value} {Q : Unit → Shared → Prop} (hfr : A.frames = some (env :: outer)) (hf : env.frame = some L) (hB : B.StaysIn h) (hl : h.FunFrames B (env :: outer)) (hx : Heap.MadeExcOf h s.heap e cls args)
 (k : ∀ h', Fly B outer e cls h' → s.heap.UpToSlots h' → Q () { s with heap := h' }) : wpAny M A (leaving env (.ref e)) Q E s := by
 obtain ⟨t, he, _, _⟩ := hx.there
 have hn : B.get? e = none := by
  cases q : B.get? e with
  | none => rfl
  | some o =>
    have := hB e o q
    rw [hx.new] at this
    cases this
 unfold leaving noteFrame
 simp only [hf]
 refine wpAny_bind (wpAny_bind (wpAny_field he rfl (x := .none) rfl ?_))
 rw [if_neg (by decide)]
 refine fly_entry hfr (hl.of_keeps fun b o z _ => ⟨o, hx.keeps b o z, rfl⟩) hf he (fun b o z => hx.keeps b o (hB b o z)) hn rfl (by simp) rfl fun h1 f1 u1 => ?_
 exact fly_lands (s := { s with heap := h1 }) f1 fun h2 f2 u2 => k h2 (fly_out f2) (u1.trans u2)
end
end L2
namespace L2
open PySem PySem.Spec PyProof.Rows
section
variable {P : Program} {w : World} {H : Hp} {h h' : Heap} {a : Addr} {o : HO}
theorem ObjOk.there (x : ObjOk P w H h a o) : ∃ ob, h.get? a = some ob := by
 cases o with
 | lst xs => obtain ⟨_, _, _, _, e⟩ := x; exact ⟨_, e⟩
 | tup xs => obtain ⟨_, _, _, ob, e, _⟩ := x; exact ⟨_, e⟩
 | dK kvs => obtain ⟨_, _, _, _, o, _, _, e, _⟩ := x; exact ⟨_, e⟩
 | dT kvs => obtain ⟨_, _, _, _, o, _, _, e, _⟩ := x; exact ⟨_, e⟩
 | set S n => obtain ⟨o, _, _, _, e, _⟩ := x; exact ⟨_, e⟩
 | ins C dx fs => obtain ⟨_, _, _, e, _⟩ := x; exact ⟨_, e⟩
 | own y => obtain ⟨_, e⟩ := x; exact ⟨_, e⟩
 | xd fs => obtain ⟨_, ⟨_, _, _, e, _⟩, _⟩ := x; exact ⟨_, e⟩
 | rng lo hi => obtain ⟨_, _, _, e⟩ := x; exact ⟨_, e⟩
 | frz ob u => obtain ⟨e, _⟩ := x; exact ⟨_, e⟩
 | tbl ps => exact ⟨_, (show h.get? a = some _ from x)⟩
 | met f y => exact ⟨_, (show h.get? a = some _ from x)⟩
 | ext φ => obtain ⟨_, e, _⟩ := x; exact e
theorem HOk.tracked (x : HOk P w H h) (k : ∀ b u, H b ≠ none → h.get? b = some u → h'.get? b = some u) : HOk P w H h' := fun b u e =>
 (x b u e).stay (fun c v hc q => k c v (by rcases hc with z | z <;> rw [z] <;> simp_all) q) (fun _ z => z) (fun _ _ z => z)
end
def CXE (P : Program) (w : World) : CXT := fun outer H s E v s' => ∃ (e : Addr) (cls : Value) (B : Heap) (H' : Hp), v = .ref e ∧ s'.os = s.os ∧ AllBare s'.gens ∧ Un (frs outer) [] H H' s.heap s'.heap ∧ HOk P w H' s'.heap ∧
 Fly B outer e cls s'.heap ∧ (∀ b o, s.heap.get? b = some o → b ∉ frs outer → ∃ o', B.get? b = some o') ∧ (∀ b, H' b ≠ none → ∃ o, B.get? b = some o) ∧ E cls none H'
section
variable {P : Program} {w : World} {K : PySem.W.Frag} {mg : Str → Option Value} {base : Heap} {N : List Str} {qual : Str} {scope : Scope} {f : Addr} {cd : Value} {A : Around} {outer : List Env} {s : Shared} {H : Hp} {E : XK}
theorem xe_made {pins : List (Addr × Obj)} {σ : St} {H1 : Hp} {s1 : Shared} {h1 : Heap} {e : Addr} {cls : Value} {vs : List Value}
 (I : Inv ((cxOf (CXE P w) P w K mg base N qual scope f cd A outer s H E)) pins σ H1 s1) (hx : Heap.MadeExcOf s1.heap h1 e cls vs) (q : E cls none H1) :
 (cxOf (CXE P w) P w K mg base N qual scope f cd A outer s H E).xe (.ref e) { s1 with heap := h1 } := by
 have hst : s1.heap.FunFrames base (envOfC qual scope s.heap.objs.size f cd :: outer) := I.stack
 have hfr : (A.deeper (envOfC qual scope s.heap.objs.size f cd)).frames = some (envOfC qual scope s.heap.objs.size f cd :: outer) := I.ok.frames
 have hin : ∀ env ∈ (envOfC qual scope s.heap.objs.size f cd :: outer), ∀ b, env.frame = some b → b ∈ frs (envOfC qual scope s.heap.objs.size f cd :: outer) := fun env he b hb => List.mem_filterMap.mpr ⟨env, he, hb⟩
 have hB := PySem.W.funFrames_hide hst hin
 have hloc : (envOfC qual scope s.heap.objs.size f cd).frame = some s.heap.objs.size := rfl
 have hfree : ∀ b ∈ frs (envOfC qual scope s.heap.objs.size f cd :: outer), H1 b = none := I.stkFree
 have hcons : frs (envOfC qual scope s.heap.objs.size f cd :: outer) = s.heap.objs.size :: frs outer := by unfold frs; rw [List.filterMap_cons, hloc]
 refine fly_made (B := PySem.W.hideAll s1.heap (frs (envOfC qual scope s.heap.objs.size f cd :: outer))) hfr hloc (fun b o z => PySem.W.of_hideAll _ z) hB hx fun h2 k1 k4 => ?_
 generalize hBB : PySem.W.hideAll s1.heap (frs (envOfC qual scope s.heap.objs.size f cd :: outer)) = B at *
 have toB : ∀ b o, s1.heap.get? b = some o → b ∉ frs (envOfC qual scope s.heap.objs.size f cd :: outer) → B.get? b = some o := fun b o z n => by rw [← hBB]; exact PySem.W.hideAll_get _ z n
 have keepAll : ∀ b o, s1.heap.get? b = some o → b ∉ frs (envOfC qual scope s.heap.objs.size f cd :: outer) → h2.get? b = some o := fun b o z n => k1.st b o (toB b o z n)
 have base0 : Un (frs outer) [] H H1 s.heap s1.heap := I.base
 have notLoc : ∀ b o, s.heap.get? b = some o → b ∉ frs outer → b ∉ frs (envOfC qual scope s.heap.objs.size f cd :: outer) := fun b o z n hm => by
  rw [hcons] at hm
  rcases List.mem_cons.mp hm with e | e
  ·exact absurd (Heap.lt_size z) (by rw [e]; exact Nat.lt_irrefl _)
  ·exact n e
 have trackedB : ∀ b u, H1 b = some u → ∃ o, B.get? b = some o := fun b u z => by
  obtain ⟨o, ho⟩ := (I.hok b u z).there
  exact ⟨o, toB b o ho fun hm => by rw [hfree b hm] at z; cases z⟩
 refine ⟨e, cls, B, H1, rfl, I.os, I.bare, ?_, ?_, k1, ?_, ?_, q⟩
 ·refine ⟨fun b o z n hb hx' => keepAll b o (base0.keep b o z n hb hx') (notLoc b o z hb), fun b o z n hb hx' => ?_, base0.free, fun b o z hx' => ?_, base0.tups, base0.frzs, base0.tbls⟩
  ·obtain ⟨sl, z1⟩ := base0.slot b o z n hb hx'
   have hm : b ∈ frs (envOfC qual scope s.heap.objs.size f cd :: outer) := by rw [hcons]; exact List.mem_cons_of_mem _ hb
   obtain ⟨_, o', ho', hd⟩ := hst.mem hm
   rw [z1] at ho'
   cases ho'
   obtain ⟨sl2, z2⟩ := k4 b _ (hx.keeps b _ z1) hd
   exact ⟨sl2, z2⟩
  ·obtain ⟨o1, z1⟩ := base0.there b o z hx'
   by_cases hm : b ∈ frs (envOfC qual scope s.heap.objs.size f cd :: outer)
   ·obtain ⟨_, o', ho', hd⟩ := hst.mem hm
    rw [z1] at ho'
    cases ho'
    obtain ⟨sl2, z2⟩ := k4 b _ (hx.keeps b _ z1) hd
    exact ⟨_, z2⟩
   ·exact ⟨o1, keepAll b o1 z1 hm⟩
 ·exact HOk.tracked I.hok fun b u n z => keepAll b u z fun hm => n (hfree b hm)
 ·intro b o z n
  obtain ⟨o1, z1⟩ := base0.there b o z (by simp)
  exact ⟨o1, toB b o1 z1 (notLoc b o z n)⟩
 ·intro b n
  cases z : H1 b with
  | none => exact absurd z n
  | some u => exact trackedB b u z
theorem pass_exc {E' : XK} (hE : ∀ c d H', E' c d H' → E c d H') : Passes (CXE P w) (cxOf (CXE P w) P w K mg base N qual scope f cd A outer s H E) E' := by
 rintro pins σ H1 s1 v s2 I ⟨e, cls, B, H2, rfl, os, bare, un, hok, hfl, hfresh, htr, q⟩
 have hst : s1.heap.FunFrames base (envOfC qual scope s.heap.objs.size f cd :: outer) := I.stack
 have hfr : (A.deeper (envOfC qual scope s.heap.objs.size f cd)).frames = some (envOfC qual scope s.heap.objs.size f cd :: outer) := I.ok.frames
 have hloc : (envOfC qual scope s.heap.objs.size f cd).frame = some s.heap.objs.size := rfl
 have hcons : frs (envOfC qual scope s.heap.objs.size f cd :: outer) = s.heap.objs.size :: frs outer := by unfold frs; rw [List.filterMap_cons, hloc]
 have base0 : Un (frs outer) [] H H1 s.heap s1.heap := I.base
 have un' : Un (frs (envOfC qual scope s.heap.objs.size f cd :: outer)) [] H1 H2 s1.heap s2.heap := un
 have hfl' : Fly B (envOfC qual scope s.heap.objs.size f cd :: outer) e cls s2.heap := hfl
 have hfresh' : ∀ b o, s1.heap.get? b = some o → b ∉ frs (envOfC qual scope s.heap.objs.size f cd :: outer) → ∃ o', B.get? b = some o' := hfresh
 have hfree : ∀ b ∈ frs (envOfC qual scope s.heap.objs.size f cd :: outer), H1 b = none := I.stkFree
 refine fly_on (s := s2) hfr hloc hfl' fun h3 k1 k2 => ?_
 have notLoc : ∀ b o, s.heap.get? b = some o → b ∉ frs outer → b ∉ frs (envOfC qual scope s.heap.objs.size f cd :: outer) := fun b o z n hm => by
  rw [hcons] at hm
  rcases List.mem_cons.mp hm with e | e
  ·exact absurd (Heap.lt_size z) (by rw [e]; exact Nat.lt_irrefl _)
  ·exact n e
 have inB : ∀ b o, s2.heap.get? b = some o → (∃ o', B.get? b = some o') → h3.get? b = some o := fun b o z ⟨o', z'⟩ => by
  have := hfl'.st b o' z'
  rw [z] at this
  cases this
  exact k1.st b o z'
 refine ⟨e, cls, B, H2, rfl, os.trans I.os, bare, ?_, ?_, k1, ?_, htr, hE _ _ _ q⟩
 ·refine ⟨fun b o z n hb hx' => ?_, fun b o z n hb hx' => ?_, fun b o z n hx' => ?_, fun b o z hx' => ?_, fun b xs z => un'.tups b xs (base0.tups b xs z), fun b o u z => un'.frzs b o u (base0.frzs b o u z), fun b ps z => ?_⟩
  ·have z1 := base0.keep b o z n hb hx'
   have n1 := base0.free b o z n hx'
   have nb := notLoc b o z hb
   exact inB b o (un'.keep b o z1 n1 nb hx') (hfresh' b o z1 nb)
  ·obtain ⟨sl, z1⟩ := base0.slot b o z n hb hx'
   have n1 := base0.free b o z n hx'
   have hm : b ∈ frs (envOfC qual scope s.heap.objs.size f cd :: outer) := by rw [hcons]; exact List.mem_cons_of_mem _ hb
   obtain ⟨sl2, z2⟩ := un'.slot b _ z1 n1 hm hx'
   obtain ⟨_, o', ho', hd⟩ := hst.mem hm
   rw [z1] at ho'
   cases ho'
   obtain ⟨sl3, z3⟩ := k2 b _ z2 hd
   exact ⟨sl3, z3⟩
  ·obtain ⟨sl, z1⟩ := base0.any z n hx'
   exact un'.free b _ z1 (base0.free b o z n hx') hx'
  ·obtain ⟨o1, z1⟩ := base0.there b o z hx'
   obtain ⟨o2, z2⟩ := un'.there b o1 z1 hx'
   by_cases hm : b ∈ frs (envOfC qual scope s.heap.objs.size f cd :: outer)
   ·obtain ⟨_, o', ho', hd⟩ := hfl'.fr.mem hm
    rw [z2] at ho'
    cases ho'
    obtain ⟨sl3, z3⟩ := k2 b _ z2 hd
    exact ⟨_, z3⟩
   ·exact ⟨o2, inB b o2 z2 (hfresh' b o1 z1 hm)⟩
  ·obtain ⟨m1, z1⟩ := base0.tbls b ps z
   obtain ⟨m2, z2⟩ := un'.tbls b _ z1
   exact ⟨m1 ++ m2, by rw [z2, Array.append_assoc]⟩
 ·exact HOk.tracked hok fun b u n z => inB b u z (htr b n)
 ·intro b o z n
  obtain ⟨o1, z1⟩ := base0.there b o z (by simp)
  exact hfresh' b o1 z1 (notLoc b o z n)
end
end L2
namespace L2
open PySem PySem.Spec PyProof.Rows
theorem exc_obj {K : PySem.W.Frag} {h : Heap} {C : Addr} {bmB : List Value} {newId : String} (kin : K.In h) (hq : PySem.W.excIn K C bmB newId = true) :
 ∃ bm nsp nm qn bs hd sn sub ab col dd k0 k1 k2 k3 k5 mN, h.get? C = some (excClassObj nm qn C nsp bs bm hd sn sub ab col dd k0 k1 k2 k3 k5 newId) ∧ h.Ns nsp mN ∧ mN "__init__" = none ∧ OwnTail h bmB bm := by
 unfold PySem.W.excIn at hq
 split at hq
 case h_2 => cases hq
 case h_1 dd cd sl look =>
  split at hq
  case h_2 => cases hq
  case h_1 C' bm k0 k1 k2 k3 n k5 mroE slE =>
   simp only [Bool.and_eq_true, beq_iff_eq, Bool.not_eq_true'] at hq
   obtain ⟨⟨⟨⟨⟨c1, c2⟩, c3⟩, c4⟩, c5⟩, c6⟩ := hq
   subst c1 c2
   rcases cd with ⟨nm, bs, mro, nsp, qn, hd, sn, sub, ab, col, del⟩
   dsimp only at mroE c3 c5 c6
   subst mroE c3
   have slA : sl = #[k0, k1, k2, k3, some (.builtin n), k5] := by
    rcases sl with ⟨lst⟩
    exact congrArg Array.mk slE
   subst slA
   exact ⟨bm, nsp, nm, qn, bs, hd, sn, sub, ab, col, dd, k0, k1, k2, k3, k5, _, kin _ _ look, .of_isNs (PySem.W.isNs_of_in kin c5), PySem.W.nsMap_none_of_in kin c5 c6, PySem.W.tail_of_in kin c4⟩
structure ExcCls (K : PySem.W.Frag) (mg : Str → Option Value) (x : Str) (C : Addr) (bmB : List Value) (newId : String) : Prop where
 at_ : mg x = some (.ref C)
 obj : PySem.W.excIn K C bmB newId = true
def tRaise (C : Addr) (E : XK) (t : TA) : TS := fun _ σ H => t σ H fun vs H1 => vs.length ≤ 3 ∧ E (.ref C) none H1
section
variable {P : Program} {w : World} {K : PySem.W.Frag} {mg : Str → Option Value} {base : Heap} {N : List Str} {qual : Str} {scope : Scope} {f : Addr} {cd : Value} {A : Around} {outer : List Env} {s : Shared} {H : Hp} {E : XK}
theorem ps_raise {x : Str} {C : Addr} {bmB : List Value} {B newId initId : String} {np cpos pos : Pos} {e0 : Expr} {es : List Expr} {t : TA} (hc : ExcCls K mg x C bmB newId) (F : ExcBaseFacts B newId initId bmB)
 (hg : Gl (cxOf (CXE P w) P w K mg base N qual scope f cd A outer s H E) x) (ha : PA (cxOf (CXE P w) P w K mg base N qual scope f cd A outer s H E) (e0 :: es) t)
 (he : starEach (e0 :: es) (envOfC qual scope s.heap.objs.size f cd) = (false, eval e0 (envOfC qual scope s.heap.objs.size f cd)) :: starEach es (envOfC qual scope s.heap.objs.size f cd) := by rfl)
 (hpl : (backTo cpos (starEach es (envOfC qual scope s.heap.objs.size f cd))).any (·.1) = false := by rfl) (hdb : (x == ("__debug__" : Str)) = false := by decide) :
 PS (cxOf (CXE P w) P w K mg base N qual scope f cd A outer s H E) (.Raise (some (.Call (.Name x np) (e0 :: es) [] cpos)) none pos) (tRaise C E t) := by
 intro pins s1 σ H1 D I q
 obtain ⟨bm, nsp, nm, qn, bs, hd, sn, sub, ab, col, dd, k0, k1, k2, k3, k5, mN, o1, o2, o3, o4⟩ := exc_obj I.ok.mod.kin hc.obj
 refine wpAny_Raise_call_subT F (o4.hasType F.hasBase) (I.ok.hd rfl) (by
  show (backTo cpos (starEach (e0 :: es) (envOfC qual scope s.heap.objs.size f cd))).any (·.1) = false
  rw [he]; show (false || (backTo cpos (starEach es (envOfC qual scope s.heap.objs.size f cd))).any (·.1)) = false; rw [hpl]; rfl) o3 ?_ (nm := nm) (q := qn) (C := C) (N := nsp) (bs := bs) (bm := bm) (hdct := hd) (sn := sn) (sub := sub) (ab := ab) (col := col) (dd := dd) (k0 := k0) (k1 := k1) (k2 := k2) (k3 := k3) (k5 := k5)
 refine ld_glob I hg hc.at_ ⟨rfl, ?_⟩ hdb
 have hs := ha cpos pins s1 σ H1 _ I q
 show wpAny _ _ (evalArgs (.ref C) true (backTo cpos (starEach (e0 :: es) (envOfC qual scope s.heap.objs.size f cd))) []) _ _ _
 change wpAny _ _ (spliced (backTo cpos (starEach (e0 :: es) (envOfC qual scope s.heap.objs.size f cd)))) _ _ _ at hs
 rw [he] at hs ⊢
 refine Calls.evalArgs_plain (wpAny_mono hs (fun us s2 h2 => ?_) fun _ _ z => z)
 obtain ⟨vs, H2, I2, r2, hl, q2⟩ := h2
 have hul : us.length ≤ 3 := by rw [← r2.length]; exact hl
 exact ⟨rfl, Nat.le_trans hul (by rw [sizeLine_eq]; decide), I2.bk _ _ o1, o2.keeps I2.bk, o4.keeps I2.bk, fun h' e hm => xe_made I2 hm q2⟩
def CalleeE (P : Program) (w : World) (K : PySem.W.Frag) (mg : Str → Option Value) (base : Heap) (x : Str) (k : Nat) (sp : Sp) : Prop :=
 ∃ f fd ps, FnOk P w K mg base (CXE P w) k f fd ps sp ∧ mg x = some (.ref f) ∧ PySem.W.keepIn K (.ref f) = true ∧ Binds K fd ps []
theorem Def.okE {x : Str} {st : Stmt} {N ps : List Str} {k : Nat} {sp : Sp} (D : Def K mg x st) (S : FnScope N ps (defScope st))
 (bd : ∀ (kV doc pm : Value) (an : Option Addr) (cdv ct : Value) (us : List Value), us.length = ps.length → bindArgs (PySem.W.fnOf x x (defArgs st) (defBody st) (defScope st) .none kV doc pm an cdv ct) ⟨us, []⟩ = pure (ps.zip us))
 (len : ∀ vs H Q E, sp vs H Q E → vs.length = ps.length)
 (hbody : ∀ (f : Addr) (cdv : Value) (A : Around) (outer : List Env) (s : Shared) (H : Hp) (vs : List V) (Q : VK) (E : XK), Room k (A.deeper (envOfC x (defScope st) s.heap.objs.size f cdv)) → sp vs H Q E →
  ∃ t, PSs (cxOf (CXE P w) P w K mg base N x (defScope st) f cdv A outer s H E) (defBody st) t ∧ t { nx := fun _ H' => Q .non H', rt := Q } (start N vs) H) : CalleeE P w K mg base x (k + 1) sp := by
 obtain ⟨f, fd, F, hm⟩ := D
 have Fk := F.kp
 have Fb := F.binds bd
 walk_at "z6"
 exact ⟨f, _, ps, fn_of lk hcd S len fun A outer s H vs Q E hr hsp => hbody f cdv A outer s H vs Q E hr hsp, hm, Fk, Fb⟩
theorem pe_callE {x : Str} {k : Nat} {sp : Sp} {e0 : Expr} {es : List Expr} {t : TA} {p pos : Pos} {E' : XK} (C : CalleeE P w K mg base x k sp) (hr : Room k (A.deeper (envOfC qual scope s.heap.objs.size f cd))) (hg : Gl (cxOf (CXE P w) P w K mg base N qual scope f cd A outer s H E) x)
 (ha : PA (cxOf (CXE P w) P w K mg base N qual scope f cd A outer s H E) (e0 :: es) t) (hE : ∀ c d H', E' c d H' → E c d H' := by exact fun _ _ _ z => z)
 (he : starEach (e0 :: es) (envOfC qual scope s.heap.objs.size f cd) = (false, eval e0 (envOfC qual scope s.heap.objs.size f cd)) :: starEach es (envOfC qual scope s.heap.objs.size f cd) := by rfl)
 (hpl : (backTo pos (starEach es (envOfC qual scope s.heap.objs.size f cd))).any (·.1) = false := by rfl) (hdb : (x == ("__debug__" : Str)) = false := by decide) :
 PE (cxOf (CXE P w) P w K mg base N qual scope f cd A outer s H E) (.Call (.Name x p) (e0 :: es) [] pos) (tCall sp [] E' t) := by
 obtain ⟨f', fd, ps, F, hm, hk, hb⟩ := C
 exact pe_call F hr hg hm hk hb .nil (pass_exc hE) ha (hdb := hdb) (he := he) (hpl := hpl)
end
end L2
namespace L2
open PySem PySem.Spec PyProof.Rows
section
theorem un_fly {l : List Env} {H1 H2 : Hp} {h1 h2 h3 B : Heap} (u : Un (frs l) [] H1 H2 h1 h2) (hs : B.StaysIn h2) (hf : h2.FunFrames B l) (hfresh : ∀ b o, h1.get? b = some o → b ∉ frs l → ∃ o', B.get? b = some o') (k1 : B.StaysIn h3) (k2 : h2.UpToSlots h3) : Un (frs l) [] H1 H2 h1 h3 := by
 have inB : ∀ b o, h2.get? b = some o → (∃ o', B.get? b = some o') → h3.get? b = some o := fun b o z ⟨o', z'⟩ => by
  have := hs b o' z'
  rw [z] at this
  cases this
  exact k1 b o z'
 refine ⟨fun b o z n hb hx => inB b o (u.keep b o z n hb hx) (hfresh b o z hb), fun b o z n hb hx => ?_, u.free, fun b o z hx => ?_, u.tups, u.frzs, u.tbls⟩
 ·obtain ⟨sl, z1⟩ := u.slot b o z n hb hx
  obtain ⟨_, o', ho', hd⟩ := hf.mem hb
  rw [z1] at ho'
  cases ho'
  obtain ⟨sl2, z2⟩ := k2 b _ z1 hd
  exact ⟨sl2, z2⟩
 ·obtain ⟨o2, z2⟩ := u.there b o z hx
  by_cases hm : b ∈ frs l
  ·obtain ⟨_, o', ho', hd⟩ := hf.mem hm
   rw [z2] at ho'
   cases ho'
   obtain ⟨sl3, z3⟩ := k2 b _ z2 hd
   exact ⟨_, z3⟩
  ·exact ⟨o2, inB b o2 z2 (hfresh b o z hm)⟩
theorem hok_fly {P : Program} {w : World} {H2 : Hp} {h2 h3 B : Heap} (x : HOk P w H2 h2) (hs : B.StaysIn h2) (htr : ∀ b, H2 b ≠ none → ∃ o, B.get? b = some o) (k1 : B.StaysIn h3) : HOk P w H2 h3 :=
 HOk.tracked x fun b u n z => by
  obtain ⟨o', z'⟩ := htr b n
  have := hs b o' z'
  rw [z] at this
  cases this
  exact k1 b _ z'
variable {X : Cx}
abbrev Cx.inTry (X : Cx) (pins : List (Addr × Obj)) (ξ : Value → Shared → Prop) : Cx := { X with pn := X.pn ++ pins, xe := ξ }
theorem Cx.Ok.inTry (ok : X.Ok) (pins : List (Addr × Obj)) (ξ : Value → Shared → Prop) : (X.inTry pins ξ).Ok :=
 ⟨ok.mod, ok.kind, ok.glob, ok.blt, ok.above, ok.inj, ok.has, ok.cab, ok.hd, ok.frames, ok.stk, ok.exf, ok.bs, ok.bsz, ok.noex, ok.exfs, ok.funs, ok.frf⟩
theorem Cx.Ok.outTry {pins : List (Addr × Obj)} {ξ : Value → Shared → Prop} (ok : (X.inTry pins ξ).Ok) : X.Ok :=
 ⟨ok.mod, ok.kind, ok.glob, ok.blt, ok.above, ok.inj, ok.has, ok.cab, ok.hd, ok.frames, ok.stk, ok.exf, ok.bs, ok.bsz, ok.noex, ok.exfs, ok.funs, ok.frf⟩
theorem Inv.inTry {pins : List (Addr × Obj)} {σ : St} {H : Hp} {s : Shared} (I : Inv X pins σ H s) (ξ : Value → Shared → Prop) : Inv (X.inTry pins ξ) [] σ H s :=
 ⟨I.ok.inTry pins ξ, I.os, I.bare, I.base, I.loc, I.cell, I.free, I.freeC, fun p hp => I.pin p (by simpa using hp), I.hok, I.len⟩
theorem Inv.outTry {pins pins' : List (Addr × Obj)} {σ : St} {H : Hp} {s : Shared} {ξ : Value → Shared → Prop} (I : Inv (X.inTry pins ξ) pins' σ H s) : Inv X pins σ H s :=
 ⟨I.ok.outTry, I.os, I.bare, I.base, I.loc, I.cell, I.free, I.freeC, fun p hp => I.pin p (List.mem_append_left _ hp), I.hok, I.len⟩
def tCallS (sp : Sp) (Ex : St → XK) (t : TA) : TE := fun σ H Q => t σ H fun vs H1 => sp (vs ++ []) H1 Q (Ex σ)
def PassS (X : Cx) (Ex : St → XK) : Prop := ∀ (pins : List (Addr × Obj)) (σ : St) (H : Hp) (s : Shared) (e : Value) (s' : Shared), Inv X pins σ H s → CXE X.prog X.w X.stack H s (Ex σ) e s' → X.xe e s'
theorem pe_callS {x : Str} {k : Nat} {sp : Sp} {e : Expr} {es : List Expr} {t : TA} {p pos : Pos} {Ex : St → XK} (C : CalleeE X.prog X.w X.K X.mg X.base x k sp) (hr : Room k X.A) (hg : Gl X x) (hx : PassS X Ex) (ha : PA X (e :: es) t)
 (he : starEach (e :: es) X.env = (false, eval e X.env) :: starEach es X.env := by rfl) (hpl : (backTo pos (starEach es X.env)).any (·.1) = false := by rfl) (hdb : (x == ("__debug__" : Str)) = false := by decide) :
 PE X (.Call (.Name x p) (e :: es) [] pos) (tCallS sp Ex t) := by
 obtain ⟨f, fd, ps, F, hm, hk, hb⟩ := C
 walk_at "z0"
 refine wpAny_Call_Name_kw (ld_glob I hg hm ?_ hdb)
 walk_at "z3"
 have r2 : Vals (vs ++ []) (us ++ []) := r.append .nil
 have hl : (us ++ []).length = ps.length := by rw [← r2.length]; exact F.len _ _ _ _ q
 refine wpAny_call (codeAny_mono (F.run X.A X.stack s1 H1 ⟨us, []⟩ (us ++ []) (vs ++ []) Q (Ex σ) hr I1.env0 (hb s1 us I1.kIn hl) r2 q) fun r3 s' hq => ?_)
 cases r3 with
 | error v => exact hx pins σ H1 s1 v s' I1 hq
 | ok fl =>
   cases fl with
   | ret u => exact I1.after hq
   | next => exact False.elim hq
   | brk => exact False.elim hq
   | cont => exact False.elim hq
theorem Inv.trackN {pins : List (Addr × Obj)} {σ : St} {H : Hp} {s : Shared} {D : Addr} {o : HO} (I : Inv X pins σ H s) (hn : H D = none) (hL : D ≠ X.env.locals) (h1 : X.s₀.heap.get? D = none)
 (h2 : ∀ x c, X.env.cells.lookup x = some c → c ≠ D) (h3 : ∀ p ∈ X.pn ++ pins, p.1 ≠ D) (new : ObjOk X.prog X.w (upd H D o) s.heap D o) : Inv X pins σ (upd H D o) s := by
 have up : ∀ b u, H b = some u → upd H D o b = some u := fun b u e => by rw [upd_ne (ne_of_none e hn)]; exact e
 have un : ∀ b, b ≠ D → H b = none → upd H D o b = none := fun b hb e => by rw [upd_ne hb]; exact e
 refine ⟨I.ok, I.os, I.bare, ⟨I.base.keep, I.base.slot, fun b ob e n hx => un b (fun z => by rw [z, h1] at e; cases e) (I.base.free b ob e n hx), I.base.there, fun b xs e => up _ _ (I.base.tups b xs e), fun b ob u e => up _ _ (I.base.frzs b ob u e), fun b ps e => ?_⟩,
  I.loc, I.cell, un _ (Ne.symm hL) I.free, fun x c e => un _ (h2 x c e) (I.freeC x c e), fun p hp => ?_, fun b u e => ?_, I.len⟩
 ·obtain ⟨m, e'⟩ := I.base.tbls b ps e
  exact ⟨m, up _ _ e'⟩
 ·obtain ⟨e, n, r⟩ := I.pin p hp
  exact ⟨e, un _ (h3 p hp) n, r⟩
 ·by_cases hb : b = D
  ·subst hb
   rw [upd_same] at e
   cases e
   exact new
  ·rw [upd_ne hb] at e
   exact (I.hok b u e).stay (fun _ _ _ z => z) (fun c z => up _ _ z) fun c xs z => up _ _ z
def ExcAt (e : Addr) (cls : Value) : Heap → Prop := fun h => ∃ o vs, h.get? e = some o ∧ o.cls = cls ∧ o.dict = none ∧ o.data = .fields vs
theorem excAt_ok {P : Program} {w : World} {H : Hp} {h : Heap} {e : Addr} {cls : Value} (x : ExcAt e cls h) : ObjOk P w H h e (.ext (ExcAt e cls)) := by
 obtain ⟨o, vs, z, c⟩ := x
 exact ⟨⟨o, vs, z, c⟩, ⟨o, z⟩, fun h1 h2 ⟨o1, vs1, z1, c1⟩ k => ⟨o1, vs1, k o1 z1, c1⟩⟩
theorem comes {pins : List (Addr × Obj)} {σ : St} {H1 : Hp} {s1 s2 : Shared} {Ex : XK} {v : Value} {Q : Flow → Shared → Prop} {E : Value → Shared → Prop} {hs : List ExceptHandler} (hstk : X.stack = X.env :: X.outer) (hf : X.env.frame = some X.env.locals) (hex : X.ex = []) (I : Inv X pins σ H1 s1)
 (hq : CXE X.prog X.w X.stack H1 s1 Ex v s2)
 (k : ∀ (e : Addr) (cls : Value) (B : Heap) (H2 : Hp), v = .ref e → Ex cls none H2 → H2 e = none →
  (∀ h6, Fly B X.stack e cls h6 → s2.heap.UpToSlots h6 → Inv X pins σ (upd H2 e (.ext (ExcAt e cls))) { s2 with heap := h6 }) →
  ∀ h3, Fly B X.stack e cls h3 → s2.heap.UpToSlots h3 → wpAny (model X.prog X.w) X.A (handleBy (.ref e) X.env hs) Q E { s2 with heap := h3 }) :
 wpAny (model X.prog X.w) X.A (noteFrame v X.env) (fun _ s3 => wpAny (model X.prog X.w) X.A (setFlight v none) (fun _ s4 => wpAny (model X.prog X.w) X.A (handleBy v X.env hs) Q E s4) E s3) E s2 := by
 obtain ⟨e, cls, B, H2, rfl, os, bare, un, hok, hfl, hfresh, htr, q⟩ := hq
 have hfr : X.A.frames = some (X.env :: X.outer) := by rw [← hstk]; exact I.ok.frames
 have hfl' := hfl
 rw [hstk] at hfl'
 have hnew : s1.heap.get? e = none := by
  cases z : s1.heap.get? e with
  | none => rfl
  | some o =>
    exfalso
    by_cases hm : e ∈ frs X.stack
    ·obtain ⟨oe, vs, T, oT, ts, he, _, hd, _⟩ := hfl.tr
     obtain ⟨_, o', ho', hd'⟩ := hfl.fr.mem hm
     rw [he] at ho'
     cases ho'
     exact hd' vs hd
    ·obtain ⟨o', z'⟩ := hfresh e o z hm
     rw [hfl.ne] at z'
     cases z'
 have hHe : H2 e = none := by
  cases z : H2 e with
  | none => rfl
  | some u =>
    obtain ⟨o, z'⟩ := htr e (by rw [z]; exact fun y => by cases y)
    rw [hfl.ne] at z'
    cases z'
 have inv6 : ∀ h6, Fly B X.stack e cls h6 → s2.heap.UpToSlots h6 → Inv X pins σ (upd H2 e (.ext (ExcAt e cls))) { s2 with heap := h6 } := fun h6 fl up => by
  have u6 : Un (frs X.stack) [] H1 H2 s1.heap h6 := un_fly un hfl.st hfl.fr hfresh fl.st up
  have I6 : Inv X pins σ H2 { s2 with heap := h6 } := I.call' (s' := { s2 with heap := h6 }) os u6 (hok_fly hok hfl.st htr fl.st) bare (fun b z => absurd z (by simp))
  have hs0 : X.s₀.heap.get? e = none := by
   cases z : X.s₀.heap.get? e with
   | none => rfl
   | some o =>
     obtain ⟨o', z'⟩ := I.base.there e o z (by rw [hex]; simp)
     rw [hnew] at z'
     cases z'
  refine I6.trackN hHe (fun z => ?_) hs0 (fun x c hc z => ?_) (fun p hp z => ?_) (excAt_ok fl.there)
  ·obtain ⟨m, hn, _⟩ := I.loc
   obtain ⟨o, _, _, ho, _⟩ := hn
   rw [← z, hnew] at ho
   cases ho
  ·obtain ⟨v', o, ho, _⟩ := I.cell x c hc
   rw [z, hnew] at ho
   cases ho
  ·have := (I.pin p hp).1
   rw [z, hnew] at this
   cases this
 refine fly_looks (s := s2) hfr hf hfl' fun h4 held4 up4 => ?_
 refine fly_lands held4 fun h5 fl5 up5 => ?_
 exact k e cls B H2 rfl q hHe inv6 h5 (by rw [hstk]; exact fl5) (up4.trans up5)
abbrev Cx.inClause (X : Cx) (pins : List (Addr × Obj)) (e : Addr) : Cx := { X with A := X.A.mark (some (.ref e)), calm := false, pn := X.pn ++ pins, xe := fun _ _ => False }
theorem Inv.inClause {pins : List (Addr × Obj)} {σ : St} {H : Hp} {s : Shared} (I : Inv X pins σ H s) (e : Addr) : Inv (X.inClause pins e) [] σ H s :=
 ⟨⟨I.ok.mod, I.ok.kind, I.ok.glob, I.ok.blt, I.ok.above, I.ok.inj, I.ok.has, I.ok.cab, fun h => (by cases h), I.ok.frames, I.ok.stk, I.ok.exf, I.ok.bs, I.ok.bsz, I.ok.noex, I.ok.exfs, I.ok.funs, I.ok.frf⟩, I.os, I.bare, I.base, I.loc, I.cell, I.free, I.freeC, fun p hp => I.pin p (by simpa using hp), I.hok, I.len⟩
theorem Inv.outClause {pins pins' : List (Addr × Obj)} {σ : St} {H : Hp} {s : Shared} {e : Addr} (ok : X.Ok) (I : Inv (X.inClause pins e) pins' σ H s) : Inv X pins σ H s :=
 ⟨ok, I.os, I.bare, I.base, I.loc, I.cell, I.free, I.freeC, fun p hp => I.pin p (List.mem_append_left _ hp), I.hok, I.len⟩
theorem Inv.unset {pins : List (Addr × Obj)} {σ : St} {H : Hp} {s : Shared} {M : Model} {A : Around} {E : Value → Shared → Prop} {n : Str} {j : Nat} {pos : Pos} {Q : Unit → Shared → Prop} (I : Inv X pins σ H s) (hN : X.N.Nodup) (hj : X.N[j]? = some n) (hl : X.env.kindOf n = some .local)
 (h : ∀ s', Inv X pins (σ.set j none) H s' → Q () s') : wpAny M A (do bindName X.env n .none; unbindBehindTheSuite X.env n pos) Q E s := by
 obtain ⟨m, hn, hm⟩ := id I.loc
 have hcls : (X.env.scope.kind == .class || (X.env.scope.kind == .module && X.env.locals != X.env.globals)) = false := by rw [I.ok.kind]; rfl
 refine wpAny_nameGoes_keeps hl hn hcls fun h' v hn' hs => h _ ?_
 have far : ∀ b o, X.s₀.heap.get? b = some o → b ≠ X.env.locals := fun b o e => Nat.ne_of_lt (Nat.lt_of_lt_of_le (Heap.lt_size e) I.ok.above)
 refine ⟨I.ok, I.os, I.bare, ⟨fun b o e nn hb hx => (hs.2 b (far b o e)).trans (I.base.keep b o e nn hb hx), fun b o e nn hb hx => ?_, I.base.free, fun b o e hx => ?_, I.base.tups, I.base.frzs, I.base.tbls⟩, ⟨_, hn', fun i y v' e1 e2 e3 => ?_⟩, fun y c e => ?_, I.free, I.freeC, fun p hp => ?_, ?_, by simpa using I.len⟩
 ·obtain ⟨sl, e1⟩ := I.base.slot b o e nn hb hx
  exact ⟨sl, (hs.2 b (far b o e)).trans e1⟩
 ·obtain ⟨o', e1⟩ := I.base.there b o e hx
  exact ⟨o', (hs.2 b (far b o e)).trans e1⟩
 ·by_cases hij : i = j
  ·subst hij
   rw [List.getElem?_set] at e2
   split at e2
   ·split at e2 <;> cases e2
   ·exact absurd rfl (by assumption)
  ·rw [List.getElem?_set_ne (Ne.symm hij)] at e2
   obtain ⟨u', r', q⟩ := hm i y v' e1 e2 e3
   refine ⟨u', r', ?_⟩
   have hyn : y ≠ n := fun e => hij (nodup_ix hN e1 (e ▸ hj))
   rcases q with ⟨k, e⟩ | ⟨k, c, e, z⟩
   ·exact .inl ⟨k, by simp [hyn, e]⟩
   ·exact .inr ⟨k, c, e, z.sameBut hs (I.cne y c e)⟩
 ·obtain ⟨w', z⟩ := I.cell y c e
  exact ⟨w', z.sameBut hs (I.cne y c e)⟩
 ·obtain ⟨e, nn, ne, nf, d⟩ := I.pin p hp
  exact ⟨(hs.2 p.1 ne).trans e, nn, ne, nf, d⟩
 ·exact HOk.tracked I.hok fun b u nn z => (hs.2 b fun e => nn (by rw [e]; exact I.free)).trans z
def tTry (K : PySem.W.Frag) (TC : Addr) (j : Nat) (tb : (St → XK) → TS) (ts : TS) : TS := fun D σ H =>
 tb (fun σ' cls _ H' => PySem.W.exmOne K cls (.ref TC) = some true ∧ ∀ e, H' e = none → ts { nx := fun σ2 H2 => D.nx (σ2.set j none) H2, rt := fun _ _ => False } (σ'.set j (some (.ref e))) (upd H' e (.ext (ExcAt e cls)))) D σ H
theorem ps_try {T n : Str} {TC : Addr} {j : Nat} {body : List Stmt} {b0 : Stmt} {suite : List Stmt} {tb : (St → XK) → TS} {ts : TS} {np hpos pos : Pos} (hstk : X.stack = X.env :: X.outer) (hf : X.env.frame = some X.env.locals) (hex : X.ex = [])
 (hT : X.mg T = some (.ref TC)) (hgT : Gl X T) (hN : X.N.Nodup) (hj : X.N[j]? = some n) (hl : X.env.kindOf n = some .local) (hl2 : X.env.scope.names.lookup n = some .local)
 (hb : ∀ (pins : List (Addr × Obj)) (ξ : Value → Shared → Prop) (Ex : St → XK), PassS (X.inTry pins ξ) Ex → PSs (X.inTry pins ξ) body (tb Ex))
 (hs : ∀ (pins : List (Addr × Obj)) (e : Addr), PSs (X.inClause pins e) (b0 :: suite) ts) (hdb : (T == ("__debug__" : Str)) = false := by decide) :
 PS X (.Try body [.ExceptHandler (some (.Name T np)) (some n) (b0 :: suite) hpos] [] [] pos) (tTry X.K TC j tb ts) := by
 intro pins s σ H D I q
 refine wpAny_Try_except ?_
 have hp : PassS (X.inTry pins (fun v s1 => wpAny (model X.prog X.w) X.A (noteFrame v X.env) (fun _ s2 => wpAny (model X.prog X.w) X.A (setFlight v none) (fun _ s3 => wpAny (model X.prog X.w) X.A (handleBy v X.env [.ExceptHandler (some (.Name T np)) (some n) (b0 :: suite) hpos]) (SP X pins D) X.xe s3) X.xe s2) X.xe s1))
  (fun σ' cls _ H' => PySem.W.exmOne X.K cls (.ref TC) = some true ∧ ∀ e, H' e = none → ts { nx := fun σ2 H2 => D.nx (σ2.set j none) H2, rt := fun _ _ => False } (σ'.set j (some (.ref e))) (upd H' e (.ext (ExcAt e cls)))) := by
  intro pins' σ' H' s' v s2 I' hq
  refine comes hstk hf hex I'.outTry hq fun e cls B H2 hv hE hHe inv6 h3 fl3 up3 => ?_
  obtain ⟨hx, hk⟩ := hE
  have I3 := inv6 h3 fl3 up3
  have I3c := I3.inClause e
  refine wpAny_handleBy_cons (codeAny_handlers_test ?_) (by intro z; cases z)
  refine ld_glob (X := X.inClause pins e) I3c hgT hT ?_ hdb
  obtain ⟨oe, _, hoe, hoc, _⟩ := fl3.there
  have LT : PySem.W.Looks (model X.prog X.w) h3 (typeOf (.ref e)) cls := by
   rw [← hoc]
   exact (PySem.W.Looks.ld hoe).andThen .now
  refine PySem.W.exm_one I3.kIn LT hx _ _ _ _ (fun _ _ z => z) ?_
  refine codeAny_handlers_suite_as ?_
  refine fly_lands (s := { s2 with heap := h3 }) fl3 fun h6 fl6 up6 => ?_
  have I6 := inv6 h6 fl6 (up3.trans up6)
  have I6c := I6.inClause e
  refine store_ok (X := X.inClause pins e) (v := .ref e) I6c hN hj (.inl hl2) rfl (fun s7 I7 => ?_) (.inr hl2)
  refine wpAny_mono (hs pins e [] s7 _ _ _ I7 (hk e hHe)) (fun f s8 h8 => ?_) (fun _ _ z => False.elim z)
  cases f with
  | next =>
    obtain ⟨σ8, H8, I8, q8⟩ := h8
    exact Inv.unset (I8.outClause I6.ok) hN hj hl fun s9 I9 => ⟨_, _, I9, q8⟩
  | ret u => obtain ⟨_, _, _, _, _, z⟩ := h8; exact False.elim z
  | brk => obtain ⟨_, _, _, z⟩ := h8; exact False.elim z
  | cont => obtain ⟨_, _, _, z⟩ := h8; exact False.elim z
 have hbody := hb pins _ _ hp [] s σ H D (I.inTry _) q
 refine wpAny_mono hbody (fun f s1 h1 => ?_) (fun _ _ z => z)
 cases f with
 | next =>
   obtain ⟨σ1, H1, I1, q1⟩ := h1
   exact wpAny_execs_nil ⟨σ1, H1, I1.outTry, q1⟩
 | ret u => obtain ⟨v, σ1, H1, I1, r1, q1⟩ := h1; exact ⟨v, σ1, H1, I1.outTry, r1, q1⟩
 | brk => obtain ⟨σ1, H1, I1, q1⟩ := h1; exact ⟨σ1, H1, I1.outTry, q1⟩
 | cont => obtain ⟨σ1, H1, I1, q1⟩ := h1; exact ⟨σ1, H1, I1.outTry, q1⟩
end
end L2
namespace L2
open PySem PySem.Spec PyProof.Rows
structure RoomN (k : Nat) (A : Around) : Prop where
 dp : A.depth + 3 * k + 5 < recursionLimit
 un : A.units + 16 * k + 200 < cLine
theorem RoomN.deeper {k : Nat} {A : Around} (r : RoomN (k + 1) A) (env : Env) : RoomN k (A.deeper env) :=
 ⟨by have := r.dp; show A.depth + 1 + 3 * k + 5 < _; lia, by have := r.un; show A.units + 3 + 16 * k + 200 < _; lia⟩
theorem Room.noted {k : Nat} {A : Around} (r : Room k A) (v : Option Value) : RoomN k (A.mark v) := ⟨r.dp, r.un⟩
structure FnOkN (P : Program) (w : World) (K : PySem.W.Frag) (mg : Str → Option Value) (base : Heap) (k : Nat) (f : Addr) (fd : FuncData) (ps : List Str) (sp : Sp) : Prop where
 len : ∀ vs H Q E, sp vs H Q E → vs.length = ps.length
 run : ∀ (A : Around) (outer : List Env) (s : Shared) (H : Hp) (args : Args) (us : List Value) (vs : List V) (Q : VK) (E : XK), RoomN k A → Env0 P w K mg base A outer s H → BindsTo s fd args (ps.zip us) → Vals vs us → sp vs H Q E →
  codeAny (model P w) A (.call (.ref f) args) (CR CX0 outer P w H s Q E) s
def CalleeN (P : Program) (w : World) (K : PySem.W.Frag) (mg : Str → Option Value) (base : Heap) (x : Str) (k : Nat) (sp : Sp) : Prop :=
 ∃ f fd ps, FnOkN P w K mg base k f fd ps sp ∧ mg x = some (.ref f) ∧ PySem.W.keepIn K (.ref f) = true ∧ Binds K fd ps []
abbrev cxN (P : Program) (w : World) (K : PySem.W.Frag) (mg : Str → Option Value) (base : Heap) (N : List Str) (qual : Str) (scope : Scope) (f : Addr) (cd : Value) (A : Around) (outer : List Env) (s : Shared) (H : Hp) (E : XK) : Cx :=
 { cxOf CX0 P w K mg base N qual scope f cd A outer s H E with calm := false, xe := fun _ _ => False }
section
variable {P : Program} {w : World} {K : PySem.W.Frag} {mg : Str → Option Value} {base : Heap}
theorem inv_startN {N ps : List Str} {qual : Str} {scope : Scope} {f : Addr} {cd : Value} {A : Around} {outer : List Env} {s s1 : Shared} {H : Hp} {E : XK} {us : List Value} {vs : List V} (S : FnScope N ps scope) (e0 : Env0 P w K mg base A outer s H) (hl : vs.length = ps.length) (r : Vals vs us)
 (x : InCallC s s.heap.objs.size (bindL (envOfC qual scope s.heap.objs.size f cd).kindOf (ps.zip us) fun _ => none) (cellsFrom (s.heap.objs.size + 1) scope.names []) (bindC (envOfC qual scope s.heap.objs.size f cd).kindOf (ps.zip us) fun _ => none) s1) :
 Inv (cxN P w K mg base N qual scope f cd A outer s H E) [] (start N vs) H s1 := by
 have I := inv_start (CX := CX0) (E := E) (A := { A with handled := none }) (qual := qual) (f := f) (cd := cd) S rfl ⟨e0.frames, e0.mod, e0.bs, e0.bsz, e0.funs, e0.frf, e0.hok, e0.bare⟩ hl r x
 exact ⟨⟨I.ok.mod, I.ok.kind, I.ok.glob, I.ok.blt, I.ok.above, I.ok.inj, I.ok.has, I.ok.cab, fun h => (by cases h), Around.frames_deeper e0.frames, I.ok.stk, I.ok.exf, I.ok.bs, I.ok.bsz, I.ok.noex, I.ok.exfs, I.ok.funs, I.ok.frf⟩,
  I.os, I.bare, I.base, I.loc, I.cell, I.free, I.freeC, I.pin, I.hok, I.len⟩
theorem Def.okN {x : Str} {st : Stmt} {N ps : List Str} {k : Nat} {sp : Sp} (D : Def K mg x st) (S : FnScope N ps (defScope st))
 (bd : ∀ (kV doc pm : Value) (an : Option Addr) (cdv ct : Value) (us : List Value), us.length = ps.length → bindArgs (PySem.W.fnOf x x (defArgs st) (defBody st) (defScope st) .none kV doc pm an cdv ct) ⟨us, []⟩ = pure (ps.zip us))
 (len : ∀ vs H Q E, sp vs H Q E → vs.length = ps.length)
 (hbody : ∀ (f : Addr) (cdv : Value) (A : Around) (outer : List Env) (s : Shared) (H : Hp) (vs : List V) (Q : VK) (E : XK), RoomN k (A.deeper (envOfC x (defScope st) s.heap.objs.size f cdv)) → sp vs H Q E →
  ∃ t, PSs (cxN P w K mg base N x (defScope st) f cdv A outer s H E) (defBody st) t ∧ t { nx := fun _ H' => Q .non H', rt := Q } (start N vs) H) : CalleeN P w K mg base x (k + 1) sp := by
 obtain ⟨f, fd, F, hm⟩ := D
 have Fk := F.kp
 have Fb := F.binds bd
 walk_at "z6"
 refine ⟨f, _, ps, ⟨len, fun A outer s H args us vs Q E hr e0 hb r hsp => ?_⟩, hm, Fk, Fb⟩
 have KX : K.In s.heap := e0.mod.kin.keeps fun b o e => (e0.bs b o e).1
 have lim : s.heap.NoLimit := e0.mod.nolimit.keeps fun b o e => (e0.bs b o e).1
 have hkind : ∀ y ∈ ps.zip us, (defScope st).names.lookup y.1 = some .local ∨ ((defScope st).names.lookup y.1 = some .cell ∧ ((cellsFrom (s.heap.objs.size + 1) (defScope st).names []).lookup y.1).isSome = true) := fun ⟨n, v⟩ hy => by
  rcases S.par n (List.of_mem_zip hy).1 with q | q
  ·exact .inl q
  ·exact .inr ⟨q, PySem.W.cellsFrom_some _ _ _ (.inl q)⟩
 refine codeAny_call_function (by have := hr.dp; lia) (KX _ _ lk) rfl S.co S.gen rfl (PySem.W.codeRec_of KX hcd) (hb _ _ _ _ ?_)
 refine wpAny_newFunctionEnv_cells S.kind hkind fun env he s1 x1 => ?_
 subst he
 refine ⟨lim.keeps x1.toInCall.keep, codeAny_func ?_⟩
 obtain ⟨t, ht, hq⟩ := hbody f cdv A outer s H vs Q E (hr.deeper _) hsp
 have I := inv_startN (E := E) S e0 (len _ _ _ _ hsp) r x1
 refine wpAny_mono (ht [] s1 (start N vs) H _ I hq) (fun fl s' hs => ?_) fun e s' hs => False.elim hs
 have fin : ∀ {σ' : St} {H' : Hp} {v : V} {u : Value}, Inv (cxN P w K mg base N x (defScope st) f cdv A outer s H E) [] σ' H' s' → RelV v u → Q v H' → CE outer P w H s Q u s' :=
  fun {σ' H' v u} J rv q => ⟨v, H', J.os, J.bare, J.base, J.hok, rv, q⟩
 cases fl with
 | ret u =>
   obtain ⟨v, σ', H', J, rv, q⟩ := hs
   exact fin J rv q
 | next =>
   obtain ⟨σ', H', J, q⟩ := hs
   exact fin (v := V.non) (u := Value.none) J rfl q
 | brk =>
   obtain ⟨_, _, _, q⟩ := hs
   exact False.elim q
 | cont =>
   obtain ⟨_, _, _, q⟩ := hs
   exact False.elim q
end
section
variable {X : Cx}
theorem pe_callC {x : Str} {k : Nat} {sp : Sp} {e : Expr} {es : List Expr} {t : TA} {p pos : Pos} (C : CalleeN X.prog X.w X.K X.mg X.base x k sp) (hr : RoomN k X.A) (hg : Gl X x) (ha : PA X (e :: es) t)
 (he : starEach (e :: es) X.env = (false, eval e X.env) :: starEach es X.env := by rfl) (hpl : (backTo pos (starEach es X.env)).any (·.1) = false := by rfl) (hdb : (x == ("__debug__" : Str)) = false := by decide) :
 PE X (.Call (.Name x p) (e :: es) [] pos) (tCall sp [] E0 t) := by
 obtain ⟨f, fd, ps, F, hm, hk, hb⟩ := C
 walk_at "z0"
 refine wpAny_Call_Name_kw (ld_glob I hg hm ?_ hdb)
 walk_at "z3"
 have r2 : Vals (vs ++ []) (us ++ []) := r.append .nil
 have hl : (us ++ []).length = ps.length := by rw [← r2.length]; exact F.len _ _ _ _ q
 refine wpAny_call (codeAny_mono (F.run X.A X.stack s1 H1 ⟨us, []⟩ (us ++ []) (vs ++ []) Q E0 hr I1.env0 (hb s1 us I1.kIn hl) r2 q) fun r3 s' hq => ?_)
 cases r3 with
 | error v => exact False.elim hq
 | ok fl =>
   cases fl with
   | ret u => exact I1.after hq
   | next => exact False.elim hq
   | brk => exact False.elim hq
   | cont => exact False.elim hq
theorem pe_globR {x : Str} {a : Addr} {pos : Pos} (hm : X.mg x = some (.ref a)) (hg : Gl X x) (hd : (x == ("__debug__" : Str)) = false := by decide) : PE X (.Name x pos) (tC (.ref a)) := fun pins s σ H Q I q =>
 ld_glob I hg hm ⟨.ref a, H, I, rfl, q⟩ hd
end
end L2
namespace L2
open PySem PySem.Spec PyProof.Rows
structure IsiCls (K : PySem.W.Frag) (D : Addr) : Prop where
 ga : PySem.W.findIn K (.ref D) "__getattribute__" = some (some (.builtin "BaseException.__getattribute__"))
 gt : PySem.W.findIn K (.ref D) "__getattr__" = some none
 mb : PySem.W.mroIn K D (.type "BaseException") = some true
 hd : PySem.W.hasDictIn K D = true
 ca : PySem.W.findIn K (.ref D) "__class__" = some (some (.builtin "object.__class__"))
 sp : PySem.W.specialIn K (.builtin "object.__class__") "__get__" = some (some (.builtin "getset_descriptor.__get__"))
 tk : PySem.W.takesIn K (.builtin "object.__class__") = some true
 mr : PySem.W.mroIn K D (.type "object") = some true
theorem excAt_inst {h : Heap} {x D : Addr} (e : ExcAt x (.ref D) h) : ∃ ox, PySem.W.InstAt h x ox D none := by
 obtain ⟨o, vs, z, c, d, f⟩ := e
 refine ⟨o, z, c, ?_, ?_⟩
 ·rcases o with ⟨c', d', dt, sl⟩
  dsimp only at f
  subst f
  rfl
 ·rw [d]
  trivial
theorem exc_class_attr {K : PySem.W.Frag} {x D : Addr} {ox : Obj} {prog : Program} {w : World} {A : Around} {E : Value → Shared → Prop} {s : Shared} {Q : Option Value → Shared → Prop}
 (X : K.In s.heap) (I : PySem.W.InstAt s.heap x ox D none) (C : IsiCls K D) (h : Q (some (.ref D)) { s with toks := s.toks + 1 }) : wpAny (model prog w) A (getAttr? (.ref x) "__class__") Q E s := by
 have hf : PySem.W.findObj K D none "__class__" = some (.bind (.builtin "getset_descriptor.__get__") (.builtin "object.__class__")) := by
  obtain ⟨cd, hc, _⟩ := PySem.W.any_some C.hd
  unfold PySem.W.findObj
  rw [hc]
  simp only [Option.bind_some, C.ca, C.sp, C.tk]
 obtain ⟨hh, g, d, t, os⟩ := s
 have L0 := I.type (M := model prog w)
 have L1 := PySem.W.looks_findIn (M := model prog w) X C.ga
 have L2 := PySem.W.looks_findIn (M := model prog w) X C.gt
 have L3 := PySem.W.looks_mroIn (M := model prog w) X C.mb
 have L4 := PySem.W.looks_find (M := model prog w) X I hf
 have hk : builtinKind "BaseException.__getattribute__" = some .slot := by decide +kernel
 have hsplit : splitId "BaseException.__getattribute__" = some ("BaseException", "__getattribute__") := by decide +kernel
 unfold getAttr? getAttrBy? getAttrBy
 refine wpAny_bind (wpAny_mkText (wpAny_bind (wpAny_attempt (wpAny_holding (wpAny_bind (L0.at (wpAny_bind (L1.at ?_))))))))
 show wpAny _ _ (getAttrByItsOwn _ _ _ _ _ _) _ _ _
 unfold getAttrByItsOwn
 refine wpAny_bind (L2.at (wpAny_bind (wpAny_attempt (wpAny_holding ?_))))
 show wpAny _ _ (boundAndCalled _ _ _) _ _ _
 unfold boundAndCalled
 rw [PySem.F.attr_ValueError.ga.bind]
 refine wpAny_bind (wpAny_pure (wpAny_call (codeAny_call_builtin PySem.F.attr_ValueError.ga.plain PySem.F.entry_bexc_ga ?_)))
 have ha := PySem.F.args_bexc_ga (.ref x) (.str "__class__" t)
 simp only [checkBuiltinCall, hk, hsplit]
 refine wpAny_bind ?_
 unfold isInstance
 refine wpAny_bind (L0.at (L3.at ?_))
 repeat (first | with_reducible refine L4.at ?_ | with_reducible refine L0.at ?_ | wp_step)
 refine PySem.W.class_get (s := ⟨hh, g, d, t + 1, os⟩) (ox := ox) (od := none) X I C.mr ?_
 refine wpAny_pure ?_
 exact PySem.W.handed_on rfl (wpAny_pure h)
theorem kitx_exc {K : PySem.W.Frag} {x D : Addr} (C : IsiCls K D) : PySem.W.KitX K (.ref x) (.ref D) (ExcAt x (.ref D)) where
 ty := fun _ _ _ e => by
  obtain ⟨ox, I⟩ := excAt_inst e
  exact I.type
 it := fun _ _ kin _ => by
  obtain ⟨cd, hc, _⟩ := PySem.W.any_some C.hd
  unfold PySem.W.clsIn at hc
  split at hc
  case h_2 => cases hc
  case h_1 look =>
   intro A' Q' E' s' k q
   unfold isType loadHead
   exact wpAny_bind (wpAny_loadPart (k _ _ (kin _ _ look)) (wpAny_pure q))
 ne := fun h tp dd its n sl kin htp => by
  obtain ⟨cd, hc, _⟩ := PySem.W.any_some C.hd
  cases q : ((Value.ref D) == .ref tp) with
  | false => rfl
  | true =>
    have e : D = tp := Value.ref.inj (beq_iff_eq.mp q)
    unfold PySem.W.clsIn at hc
    split at hc
    case h_2 => cases hc
    case h_1 look =>
     rw [e] at look
     have z := kin _ _ look
     rw [htp] at z
     cases z
 ca := fun {prog w A E Q s} kin e k => by
  obtain ⟨ox, I⟩ := excAt_inst e
  exact exc_class_attr kin I C k
def rIsiX (K : PySem.W.Frag) : List V → Hp → VK → Prop := fun xs H Q => ∃ (e D : Addr) (x : V) (c : Value) (b : Bool), xs = [.ref e, x] ∧ (∀ u, RelV x u → u = c) ∧ H e = some (.ext (ExcAt e (.ref D))) ∧ IsiCls K D ∧ PySem.W.kitOne K (.ref D) c = some b ∧ Q (.bl b) H
theorem call_isinstanceX {X : Cx} (K : PySem.W.Frag) (hK : X.K = K := by rfl) : CallR X (.builtin "isinstance") (rIsiX K) := by
 subst hK
 walk_at "z5"
 obtain ⟨e, D, x, c, b, rfl, hc, he, C, hk, q⟩ := h
 obtain ⟨u, c', rfl, rx, rc⟩ := vals2 r
 cases (show u = Value.ref e from rx)
 cases hc c' rc
 have he' : ObjOk X.prog X.w H s.heap e (.ext (ExcAt e (.ref D))) := I.hok e _ he
 exact PySem.W.kia_one (kitx_exc C) I.kIn he'.1 hk (fun z => nomatch z) fun tk => ⟨.bl b, H, I.tok tk, rfl, q⟩
end L2
namespace L2
open PySem PySem.Spec PyProof.Rows
def CalleeM (CX : CXT) (P : Program) (w : World) (K : PySem.W.Frag) (mg : Str → Option Value) (base : Heap) (C : Addr) (m : Str) (k : Nat) (sp : Sp) : Prop :=
 ∃ f fd ps, FnOk P w K mg base CX k f fd ps sp ∧ Meth K C m f ∧ Binds K fd ps []
def CalleeC (CX : CXT) (P : Program) (w : World) (K : PySem.W.Frag) (mg : Str → Option Value) (base : Heap) (C : Addr) (x : Str) (k : Nat) (sp : Sp) : Prop :=
 ∃ f fd ps, FnOk P w K mg base CX k f fd ps sp ∧ Mk K C f ∧ mg x = some (.ref C) ∧ Binds K fd ps []
def DefM (K : PySem.W.Frag) (C : Addr) (m qual : Str) (st : Stmt) : Prop := ∃ f fd, Fun K m qual st f fd ∧ Meth K C m f
section
variable {P : Program} {w : World} {K : PySem.W.Frag} {mg : Str → Option Value} {base : Heap} {C : Addr} {m qual : Str} {st : Stmt} {N ps : List Str} {k : Nat} {sp : Sp}
theorem DefM.okE (D : DefM K C m qual st) (S : FnScope N ps (defScope st))
 (bd : ∀ (kV doc pm : Value) (an : Option Addr) (cdv ct : Value) (us : List Value), us.length = ps.length → bindArgs (PySem.W.fnOf m qual (defArgs st) (defBody st) (defScope st) .none kV doc pm an cdv ct) ⟨us, []⟩ = pure (ps.zip us))
 (len : ∀ vs H Q E, sp vs H Q E → vs.length = ps.length)
 (hbody : ∀ (f : Addr) (cdv : Value) (A : Around) (outer : List Env) (s : Shared) (H : Hp) (vs : List V) (Q : VK) (E : XK), Room k (A.deeper (envOfC qual (defScope st) s.heap.objs.size f cdv)) → sp vs H Q E →
  ∃ t, PSs (cxOf (CXE P w) P w K mg base N qual (defScope st) f cdv A outer s H E) (defBody st) t ∧ t { nx := fun _ H' => Q .non H', rt := Q } (start N vs) H) : CalleeM (CXE P w) P w K mg base C m (k + 1) sp := by
 obtain ⟨f, fd, F, hm⟩ := D
 have Fb := F.binds bd
 walk_at "z6"
 exact ⟨f, _, ps, fn_of lk hcd S len fun A outer s H vs Q E hr hsp => hbody f cdv A outer s H vs Q E hr hsp, hm, Fb⟩
theorem CalleeM.made {CX : CXT} {x : Str} (M : CalleeM CX P w K mg base C "__init__" k sp) (h1 : PySem.W.makesIn K C = true) (h2 : PySem.W.keepIn K (.ref C) = true) (h3 : mg x = some (.ref C)) : CalleeC CX P w K mg base C x k sp := by
 obtain ⟨f, fd, ps, F, hm, hb⟩ := M
 exact ⟨f, fd, ps, F, ⟨h1, hm.at_, hm.fn, h2⟩, h3, hb⟩
end
section
variable {X : Cx} (K : PySem.W.Frag) {C : Addr} {m x : Str} {k : Nat} {sp : Sp} {e o : Expr} {es : List Expr} {ta : TE} {t : TA} {p pos apos : Pos} {f : Str} {tv : TE} {value : Expr} {pos' : Pos}
theorem ps_fldK (ha : PE X o ta) (hv : PE X value tv) (hs : swapsWith value (some (.Attribute o f pos')) pos.line X.env = pure false) (hK : X.K = K := by rfl) : PS X (.Assign [.Attribute o f pos'] value pos) (sFld K ta tv f) := by subst hK; exact ps_fld ha hv hs
def tMethS (C : Addr) (m : Str) (sp : Sp) (Ex : St → XK) (ta : TE) (t : TA) : TE := fun σ H Q => ta σ H fun x H1 => ∃ a dx fs, x = .ref a ∧ H1 a = some (.ins C dx fs) ∧ fs.lookup m = none ∧
 t σ H1 fun vs H2 => sp (x :: (vs ++ [])) H2 Q (Ex σ)
end
end L2
set_option maxHeartbeats 4000000
namespace L2
open PySem PySem.Spec PyProof.Rows
section
variable {P : Program} {w : World} {K : PySem.W.Frag} {mg : Str → Option Value} {base : Heap} {N : List Str} {qual : Str} {scope : Scope} {f : Addr} {cd : Value} {A : Around} {outer : List Env} {s : Shared} {H : Hp} {E : XK}
theorem pe_makeE {C : Addr} {x : Str} {k : Nat} {sp : Sp} {e0 : Expr} {es : List Expr} {t : TA} {p pos : Pos} {E' : XK} (Ca : CalleeC (CXE P w) P w K mg base C x k sp) (hr : Room (k + 1) (A.deeper (envOfC qual scope s.heap.objs.size f cd))) (hg : Gl (cxOf (CXE P w) P w K mg base N qual scope f cd A outer s H E) x)
 (ha : PA (cxOf (CXE P w) P w K mg base N qual scope f cd A outer s H E) (e0 :: es) t) (hE : ∀ c d H', E' c d H' → E c d H' := by exact fun _ _ _ z => z)
 (he : starEach (e0 :: es) (envOfC qual scope s.heap.objs.size f cd) = (false, eval e0 (envOfC qual scope s.heap.objs.size f cd)) :: starEach es (envOfC qual scope s.heap.objs.size f cd) := by rfl)
 (hpl : (backTo pos (starEach es (envOfC qual scope s.heap.objs.size f cd))).any (·.1) = false := by rfl) (hdb : (x == ("__debug__" : Str)) = false := by decide) :
 PE (cxOf (CXE P w) P w K mg base N qual scope f cd A outer s H E) (.Call (.Name x p) (e0 :: es) [] pos) (tMake C sp [] E' t) := by
 obtain ⟨f', fd, ps, F, hM, hm, hb⟩ := Ca
 exact pe_make hM F hr hg hm hb .nil (pass_exc hE) ha (hdb := hdb) (he := he) (hpl := hpl)
end
def tMakeS (C : Addr) (sp : Sp) (Ex : St → XK) (t : TA) : TE := fun σ H Q => t σ H fun vs H1 => ∀ x dx, H1 x = none → H1 dx = none → dx ≠ x →
 sp (.ref x :: (vs ++ [])) (upd (upd H1 dx (.own x)) x (.ins C dx [])) (fun v H2 => v = .non ∧ Q (.ref x) H2) (Ex σ)
section
variable {X : Cx} {C : Addr} {x : Str} {k : Nat} {sp : Sp} {e : Expr} {es : List Expr} {t : TA} {p pos : Pos} {Ex : St → XK}
end
end L2
namespace L2
open PySem PySem.Spec PyProof.Rows
section
variable {K : PySem.W.Frag} {g : TG} {ti : TT} {te : TE} {σc : St} {H : Hp} {Q : VK}
theorem cp_tup {a : Addr} {xs : List V} (Pv : Nat → List V → Hp → Prop) (h0 : Pv 0 [] H) (hl : ∀ i ys H, Pv i ys H → SqT K H a xs ∧ ys.length ≤ i) (hx : xs.length < sizeLine)
 (hs : ∀ i x ys H, xs[i]? = some x → Pv i ys H → g x σc H fun σ2 H2 => ti σ2 H2 fun b H3 => if b = true then te σ2 H3 fun y H4 => Pv (i + 1) (ys ++ [y]) H4 else Pv (i + 1) ys H3)
 (hd : ∀ l ys H, Pv xs.length ys H → H l = none → Q (.ref l) (upd H l (.lst ys))) : CompI (Itt K a) g ti te σc H Q := by
 refine ⟨fun i m ys H => m = xs.length - i ∧ i ≤ xs.length ∧ Pv i ys H, ⟨_, rfl, Nat.zero_le _, h0⟩, ?_⟩
 rintro i m ys H ⟨rfl, hi, p⟩
 obtain ⟨q, hy⟩ := hl i ys H p
 refine ⟨by lia, ?_⟩
 by_cases hlt : i < xs.length
 ·refine .inr ⟨⟨xs, xs[i], q, by simp [hlt]⟩, Pv (i + 1), fun σ' H' p' => ⟨_, by lia, rfl, hlt, p'⟩, fun x H' y => ?_⟩
  obtain ⟨e, y⟩ := y
  subst e
  exact hs i x ys _ (y xs q) p
 ·have e : i = xs.length := by lia
  subst e
  exact .inl ⟨⟨xs, q, Nat.le_refl _⟩, fun l hl => hd l ys H p hl⟩
end
def rTupOf (K : PySem.W.Frag) : List V → Hp → VK → Prop := fun xs H Q => ∃ p ys, xs = [.ref p] ∧ ((SqL K H p ys ∧ ∀ l, H l = none → Q (.ref l) (upd H l (.tup ys))) ∨ (SqT K H p ys ∧ Q (.ref p) H))
theorem call_tupleK {X : Cx} (K : PySem.W.Frag) (hK : X.K = K := by rfl) : CallR X (.type "tuple") (rTupOf K) := by subst hK; exact call_tuple_of
section
variable {K : PySem.W.Frag} {H : Hp} {Q : VK}
theorem i_tupL {p : Addr} {ys : List V} (h : SqL K H p ys) (q : ∀ l, H l = none → Q (.ref l) (upd H l (.tup ys))) : rTupOf K [.ref p] H Q := ⟨p, ys, rfl, .inl ⟨h, q⟩⟩
end
end L2
namespace L2
open PySem PySem.Spec PyProof.Rows
end L2
namespace L2
open PySem PySem.Spec PyProof.Rows
theorem cellsFrom_get : ∀ (names : List (Str × NameKind)) (h : Heap) (acc : List (Str × Addr)) (x : Str) (c : Addr), (cellsFrom h.objs.size names acc).lookup x = some c →
 acc.lookup x = some c ∨ (h.objs.size ≤ c ∧ (x, NameKind.cell) ∈ names ∧ (pushCells h names).IsCell c none)
 | [], _, _, _, _, e => .inl e
 | (m, k) :: r, h, acc, x, c, e => by
   unfold cellsFrom at e
   unfold pushCells
   by_cases hk : (k == NameKind.cell) = true
   ·rw [if_pos hk] at e ⊢
    have hk' : k = .cell := by simpa using hk
    subst hk'
    have hs : (h.push { cls := .type "cell", data := .cell none }).objs.size = h.objs.size + 1 := Heap.size_push ..
    rw [← hs] at e
    rcases cellsFrom_get r _ _ x c e with z | ⟨z1, z2, z3⟩
    ·rw [List.lookup_cons] at z
     cases hx : x == m with
     | true =>
       rw [hx] at z
       have e1 : x = m := by simpa using hx
       cases z
       subst e1
       exact .inr ⟨Nat.le_refl _, List.mem_cons_self, (show Heap.IsCell _ _ _ from ⟨_, Heap.get?_push_size _ rfl, rfl⟩ : Heap.IsCell (h.push { cls := .type "cell", data := .cell none }) h.objs.size none).keeps (pushCells_keeps _ _)⟩
     | false =>
       rw [hx] at z
       exact .inl z
    ·exact .inr ⟨by rw [hs] at z1; lia, List.mem_cons_of_mem _ z2, z3⟩
   ·rw [if_neg hk] at e ⊢
    rcases cellsFrom_get r _ _ x c e with z | ⟨z1, z2, z3⟩
    ·exact .inl z
    ·exact .inr ⟨z1, List.mem_cons_of_mem _ z2, z3⟩
theorem cellsFrom_has : ∀ (names : List (Str × NameKind)) (n : Nat) (acc : List (Str × Addr)) (x : Str), ((x, NameKind.cell) ∈ names ∨ ∃ c, acc.lookup x = some c) → ∃ c, (cellsFrom n names acc).lookup x = some c
 | [], _, _, _, h => by
   rcases h with h | h
   ·exact absurd h (by simp)
   ·exact h
 | (m, k) :: r, n, acc, x, h => by
   unfold cellsFrom
   by_cases hk : (k == NameKind.cell) = true
   ·rw [if_pos hk]
    refine cellsFrom_has r _ _ x ?_
    rcases h with h | ⟨c, h⟩
    ·rcases List.mem_cons.mp h with e | e
     ·cases e
      exact .inr ⟨n, by simp⟩
     ·exact .inl e
    ·refine .inr ?_
     rw [List.lookup_cons]
     cases x == m with
     | true => exact ⟨_, rfl⟩
     | false => exact ⟨c, h⟩
   ·rw [if_neg hk]
    refine cellsFrom_has r _ _ x ?_
    rcases h with h | h
    ·rcases List.mem_cons.mp h with e | e
     ·cases e
      exact absurd rfl hk
     ·exact .inl e
    ·exact .inr h
theorem cellsFrom_new : ∀ (names : List (Str × NameKind)) (n0 n : Nat) (acc : List (Str × Addr)) (x : Str) (c : Addr), ((x, NameKind.cell) ∈ names ∨ ∀ c, acc.lookup x = some c → n0 ≤ c) → n0 ≤ n → (cellsFrom n names acc).lookup x = some c → n0 ≤ c
 | [], _, _, _, _, c, h, _, e => by
   rcases h with h | h
   ·exact absurd h (by simp)
   ·exact h c e
 | (m, k) :: r, n0, n, acc, x, c, h, hn, e => by
   unfold cellsFrom at e
   by_cases hk : (k == NameKind.cell) = true
   ·rw [if_pos hk] at e
    refine cellsFrom_new r n0 (n + 1) _ x c ?_ (Nat.le_succ_of_le hn) e
    rcases h with h | h
    ·rcases List.mem_cons.mp h with z | z
     ·cases z
      exact .inr fun c hc => by
       simp at hc
       subst hc
       exact hn
     ·exact .inl z
    ·refine .inr fun c hc => ?_
     rw [List.lookup_cons] at hc
     cases hx : x == m with
     | true => rw [hx] at hc; cases hc; exact hn
     | false => rw [hx] at hc; exact h c hc
   ·rw [if_neg hk] at e
    refine cellsFrom_new r n0 n _ x c ?_ hn e
    rcases h with h | h
    ·rcases List.mem_cons.mp h with z | z
     ·cases z
      exact absurd rfl hk
     ·exact .inl z
    ·exact .inr h
theorem cellsFrom_inj : ∀ (names : List (Str × NameKind)) (n : Nat) (acc : List (Str × Addr)), (∀ x y c, acc.lookup x = some c → acc.lookup y = some c → x = y) → (∀ x c, acc.lookup x = some c → c < n) →
 ∀ x y c, (cellsFrom n names acc).lookup x = some c → (cellsFrom n names acc).lookup y = some c → x = y
 | [], _, _, h, _ => h
 | (m, k) :: r, n, acc, h, hl => by
   intro x y c e1 e2
   unfold cellsFrom at e1 e2
   by_cases hk : (k == NameKind.cell) = true
   ·rw [if_pos hk] at e1 e2
    refine cellsFrom_inj r (n + 1) _ ?_ ?_ x y c e1 e2
    ·intro x y c h1 h2
     rw [List.lookup_cons] at h1 h2
     cases hx : x == m with
     | true =>
       rw [hx] at h1
       cases h1
       cases hy : y == m with
       | true => exact (by simpa using hx : x = m).trans (by simpa using hy : y = m).symm
       | false => rw [hy] at h2; exact absurd (hl y _ h2) (Nat.lt_irrefl _)
     | false =>
       rw [hx] at h1
       cases hy : y == m with
       | true => rw [hy] at h2; cases h2; exact absurd (hl x _ h1) (Nat.lt_irrefl _)
       | false => rw [hy] at h2; exact h x y c h1 h2
    ·intro x c h1
     rw [List.lookup_cons] at h1
     cases hx : x == m with
     | true => rw [hx] at h1; cases h1; exact Nat.lt_succ_self _
     | false => rw [hx] at h1; exact Nat.lt_succ_of_lt (hl x c h1)
   ·rw [if_neg hk] at e1 e2
    exact cellsFrom_inj r n acc h hl x y c e1 e2
theorem newEnv_cells {M : Model} {A : Around} {E : Value → Shared → Prop} {s : Shared} {scope : Scope} {globals : Addr} {closure : List (Str × Addr)} {qual : Str} {around : Env} {Q : Env → Shared → Prop}
 (hQ : Q (newEnv scope s.heap.objs.size globals (cellsFrom (s.heap.objs.size + 1) scope.names closure) qual none .none (some around) builtinsNs) { s with heap := pushCells (s.heap.push { cls := .type "dict", data := .dict #[] }) scope.names }) :
 wpAny M A (newFunctionEnv scope globals closure [] qual none .none (some around)) Q E s := by
 simp only [newFunctionEnv, Option.isSome_some, if_true]
 refine wpAny_bind (wpAny_alloc ?_)
 refine wpAny_bind (wpAny_layCells _ (fun name kind cells => by cases hkc : kind == NameKind.cell <;> simp [hkc]) _ _ _ _ ?_)
 rw [show ({ s with heap := s.heap.push { cls := .type "dict", data := .dict #[] } } : Shared).heap.objs.size = s.heap.objs.size + 1 from Heap.size_push ..]
 exact wpAny_bind (wpAny_pure (wpAny_pure hQ))
theorem relabel_cellN {env : Env} : ∀ {names : List (Str × NameKind)} {x : Str}, names.lookup x = some .cell →
 (names.map fun (n, k) => if (k == NameKind.free && env.scope.kind == .function && env.kindOf n == some .cell) then (n, NameKind.cell) else (n, k)).lookup x = some .cell
 | [], _, h => by simp at h
 | (n, k) :: r, x, h => by
   have ih := @relabel_cellN env r x
   show List.lookup x ((if (k == NameKind.free && env.scope.kind == .function && env.kindOf n == some .cell) = true then (n, NameKind.cell) else (n, k)) :: _) = _
   cases hx : x == n with
   | true =>
     simp only [List.lookup_cons, hx] at h
     cases h
     rw [if_neg (by simp)]
     simp [List.lookup_cons, hx]
   | false =>
     simp only [List.lookup_cons, hx] at h
     by_cases hc : (k == NameKind.free && env.scope.kind == .function && env.kindOf n == some .cell) = true
     ·rw [if_pos hc]; simp only [List.lookup_cons, hx]; exact ih h
     ·rw [if_neg hc]; simp only [List.lookup_cons, hx]; exact ih h
theorem relabel_cell {scope : Scope} {env : Env} {x : Str} (h : scope.names.lookup x = some .cell) : (relabel scope env).names.lookup x = some .cell := relabel_cellN h
def celC (X : Cx) (scope : Scope) (C : Addr) : List (Str × Addr) := cellsFrom (C + 1) scope.names (clOf X.env scope.names [])
def cxD (X : Cx) (scope : Scope) (C : Addr) (N : List Str) (s₂ : Shared) (H₂ : Hp) (ex : List Addr) (xb : Value → Shared → Prop) : Cx :=
 { X with N := N, s₀ := s₂, H₀ := H₂, env := compEnvC scope (celC X scope C) C X.env, outer := X.stack, stack := X.stack, ex := ex, fn := fun x => scope.names.lookup x == some .cell, pn := [], xe := xb }
structure CompOkD (X : Cx) (scope : Scope) (N : List Str) (fr : List (Option Nat)) : Prop where
 kind : scope.kind = .function
 own : ∀ y ∈ scope.names, y.2 = .cell → scope.names.lookup y.1 = some .cell
 names : ∀ y ∈ scope.names, y.2 = .local → scope.names.lookup y.1 = some .local
 frees : ∀ y ∈ scope.names, y.2 = .free → X.env.kindOf y.1 = some .cell ∨ X.env.kindOf y.1 = some .free
 fr : FrOk X scope N fr
section
variable {X : Cx} {scope : Scope} {N : List Str} {fr : List (Option Nat)} {xb : Value → Shared → Prop}
theorem CompOkD.cells (c : CompOkD X scope N fr) (ok : X.Ok) : ∀ y ∈ scope.names, y.2 = .free → ∃ c, X.env.cells.lookup y.1 = some c := fun y hy e => ok.has y.1 (c.frees y hy e)
theorem CompOkD.getC (c : CompOkD X scope N fr) (ok : X.Ok) {x : Str} {a : Addr} (h : (clOf X.env scope.names []).lookup x = some a) : X.env.cells.lookup x = some a :=
 clOf_get scope.names [] (c.cells ok) (fun _ _ z => by simp at z) h
theorem CompOkD.get (c : CompOkD X scope N fr) (ok : X.Ok) {g : Heap} {x : Str} {a : Addr} (h : (celC X scope g.objs.size).lookup x = some a) :
 X.env.cells.lookup x = some a ∨ (g.objs.size < a ∧ (x, NameKind.cell) ∈ scope.names ∧ (pushCells (g.push { cls := .type "dict", data := .dict #[] }) scope.names).IsCell a none) := by
 have hs : (g.push { cls := .type "dict", data := .dict #[] }).objs.size = g.objs.size + 1 := Heap.size_push ..
 unfold celC at h
 rw [← hs] at h
 rcases cellsFrom_get _ _ _ _ _ h with z | ⟨z1, z2, z3⟩
 ·exact .inl (c.getC ok z)
 ·exact .inr ⟨by rw [hs] at z1; exact z1, z2, z3⟩
structure Cel (X : Cx) (scope : Scope) (C : Addr) (h : Heap) : Prop where
 get : ∀ x a, (celC X scope C).lookup x = some a → X.env.cells.lookup x = some a ∨ (C < a ∧ (x, NameKind.cell) ∈ scope.names ∧ h.IsCell a none)
theorem compD_ok {pins : List (Addr × Obj)} {σ : St} {H : Hp} {s₂ : Shared} {C : Addr} {fp : List Addr} {h₁ : Heap} (c : CompOkD X scope N fr) (I : Inv X pins σ H s₂) (hC : s₂.heap.objs.size ≤ C) (hcel : Cel X scope C h₁) (hfp : ∀ b ∈ fp, FpOk X pins H b ∧ b < s₂.heap.objs.size) :
 (cxD X scope C N s₂ H fp xb).Ok where
 mod := I.ok.mod
 kind := c.kind
 glob := I.ok.glob
 blt := I.ok.blt
 above := hC
 inj := cellsFrom_inj _ _ _ (fun x y a h1 h2 => I.ok.inj x y a (c.getC I.ok h1) (c.getC I.ok h2)) fun x a h => by
  obtain ⟨v, z⟩ := I.cell x a (c.getC I.ok h)
  exact Nat.lt_succ_of_lt (Nat.lt_of_lt_of_le z.lt hC)
 has := fun x h => by
  refine cellsFrom_has _ _ _ _ ?_
  rcases h with h | h
  ·rcases relabel_get h with z | ⟨_, z⟩
   ·exact .inl z
   ·exact .inr (clOf_has scope.names [] (.inl z))
  ·rcases relabel_get h with z | ⟨z, _⟩
   ·exact .inr (clOf_has scope.names [] (.inl z))
   ·cases z
 cab := fun x a hx h => by
  have hx' : scope.names.lookup x = some .cell := by simpa [cxD] using hx
  exact Nat.le_trans hC (cellsFrom_new _ C _ _ x a (.inl (PySem.mem_of_lookup hx')) (Nat.le_succ _) h)
 hd := I.ok.hd
 frames := I.ok.frames
 stk := .inl rfl
 exf := fun b hb => ⟨Nat.ne_of_lt (Nat.lt_of_lt_of_le (hfp b hb).2 hC), fun x a h => by
  rcases hcel.get x a h with z | ⟨z, _⟩
  ·exact (hfp b hb).1.2.2.2.2.1 x a z
  ·exact Nat.ne_of_gt (Nat.lt_trans (Nat.lt_of_lt_of_le (hfp b hb).2 hC) z)⟩
 bs := I.bs
 bsz := Nat.le_trans I.ok.bsz I.sz
 noex := fun b o e hb => by
  rcases (hfp b hb).1.2.2.2.1 with z | z
  ·exact I.ok.noex b o e z
  ·have h1 : b < X.base.objs.size := Heap.lt_size e
   have h2 := I.ok.bsz
   exact absurd (Nat.lt_of_lt_of_le h1 (Nat.le_trans h2 z)) (Nat.lt_irrefl _)
 exfs := fun b hb z => by
  rcases List.mem_cons.mp (I.stkSub b z) with e | e
  ·exact (hfp b hb).1.2.1 e
  ·exact (hfp b hb).1.2.2.1 e
 funs := I.stack
 frf := I.stkFree
theorem compD_inv {pins : List (Addr × Obj)} {σ : St} {H : Hp} {s₂ : Shared} {C : Addr} {fp : List Addr} {h₄ : Heap} {tk : Nat} (c : CompOkD X scope N fr) (I : Inv X pins σ H s₂) (hC : s₂.heap.objs.size ≤ C) (hcel : Cel X scope C h₄) (hfp : ∀ b ∈ fp, FpOk X pins H b ∧ b < s₂.heap.objs.size)
 (hk : ∀ b o, s₂.heap.get? b = some o → h₄.get? b = some o) (hn : h₄.Ns C fun _ => none) : Inv (cxD X scope C N s₂ H fp xb) [] (stC fr σ) H { s₂ with heap := h₄, toks := tk } := by
 refine ⟨compD_ok c I hC hcel hfp, rfl, I.bare, Un.kept hk, ⟨_, hn, fun i x v e1 e2 e3 => ?_⟩, fun x a e => ?_, I.hok.fresh hC, fun x a e => ?_, fun p hp => absurd (show p ∈ ([] : List (Addr × Obj)) from hp) (by simp), I.hok.kept hk, ?_⟩
 ·obtain ⟨j, f1, f2⟩ := stC_get e2
  obtain ⟨g1, g2, g3⟩ := c.fr.get e1 f1
  obtain ⟨m, hm, hl⟩ := I.loc
  have vis : Vis X.env.scope x := by
   rcases g2 with g | g
   ·exact .inr (.inl g)
   ·exact .inr (.inr g)
  obtain ⟨u, ru, lk⟩ := hl j x v g1 f2 vis
  refine ⟨u, ru, ?_⟩
  rcases lk with ⟨k, _⟩ | ⟨_, a, ea, o, ho, hd⟩
  ·rcases g2 with g | g <;> (rw [k] at g; cases g)
  ·obtain ⟨a', ea'⟩ := cellsFrom_has scope.names (C + 1) (clOf X.env scope.names []) x (.inr (clOf_has (env := X.env) scope.names [] (.inl (PySem.mem_of_lookup g3))))
   have e5 : X.env.cells.lookup x = some a' := by
    rcases hcel.get x a' ea' with z | ⟨_, z, _⟩
    ·exact z
    ·rw [c.own _ z rfl] at g3; cases g3
   rw [ea] at e5
   cases e5
   have kd : (cxD X scope C N s₂ H fp xb).env.kindOf x = some .cell ∨ (cxD X scope C N s₂ H fp xb).env.kindOf x = some .free := relabel_free g3
   exact .inr ⟨kd, a, ea', o, hk _ _ ho, hd⟩
 ·rcases hcel.get x a e with z | ⟨_, _, z⟩
  ·obtain ⟨v, o, ho, hd⟩ := I.cell x a z
   exact ⟨v, o, hk _ _ ho, hd⟩
  ·exact ⟨_, z⟩
 ·rcases hcel.get x a e with z | ⟨z, _⟩
  ·exact I.freeC x a z
  ·exact I.hok.fresh (Nat.le_of_lt (Nat.lt_of_le_of_lt hC z))
 ·unfold stC
  rw [List.length_map]
  exact c.fr.len
end
section
variable {prog : Program} {w : World} {A : Around} {EE : Value → Shared → Prop} {R : Result → Shared → Prop} {s : Shared}
theorem compLoop_last {elt target iter : Expr} {ifs : List Expr} {gens : List Comprehension} {d : Nat} {scope : Scope} {pos : Pos} {it acc : Value} {env : Env}
 (hct : compTurn (.ListComp elt gens scope pos) d it acc env = (do
  standAt iter.pos
  match ← pyNext it with
  | none => pure (.done .next)
  | some v =>
    letOwnedTupleGo target it v
    assign target env v
    let mut ok := true
    for c in ifs do
     if ok then ok ← isTrue c env (eval c env)
    if ok then
     (do let _ ← call (.builtin "list.append") [acc, ← eval elt env])
    again (.compLoop (.ListComp elt gens scope pos) d it acc env)))
 (hE : ∀ x s, EE x s → notedBy (model prog w) A env (fun e s' => R (.error e) s') x s) (I : Nat → Shared → Prop)
 (turn : ∀ n s, I n s → wpAny (model prog w) A (pyNext it) (fun r s₁ => match r with
  | none => R (.ok .next) s₁
  | some v => wpAny (model prog w) A (letOwnedTupleGo target it v) (fun _ s₀ => wpAny (model prog w) A (assign target env v) (fun _ s₂ =>
   wpAny (model prog w) A (forIn ifs true fun c r => if r = true then do let ok ← isTrue c env (eval c env); pure (ForInStep.yield ok) else pure (ForInStep.yield r)) (fun ok s₃ =>
    if ok = true then wpAny (model prog w) A (eval elt env) (fun x s₄ =>
     wpAny (model prog w) A (call (.builtin "list.append") [acc, x]) (fun _ s₅ => ∃ m, m < n ∧ I m s₅) EE s₄) EE s₃
    else ∃ m, m < n ∧ I m s₃) EE s₂) EE s₀) EE s₁) EE s)
 (n : Nat) (h : I n s) :
 codeAny (model prog w) A (.compLoop (.ListComp elt gens scope pos) d it acc env) R s := by
 refine codeAny_loop rfl I (fun n s hI => ?_) n h
 show wpAny _ A ((compTurn (.ListComp elt gens scope pos) d it acc env).onRaise (fun x => do noteFrame x env; theTreesLotGoes x)) _ _ s
 refine wpAny_noted ?_
 rw [hct]
 have nf : ∀ {α : Type} {m : Sem α} {Q : α → Shared → Prop} {s : Shared}, wpAny (model prog w) A m Q EE s → wpAny (model prog w) A m Q (notedBy (model prog w) A env fun e s' => R (.error e) s') s := fun h => wpAny_mono h (fun _ _ x => x) hE
 refine wpAny_bind (wpAny_standAt (wpAny_bind (wpAny_mono (nf (turn n s hI)) (fun r s₁ h₁ => ?_) fun _ _ h' => h')))
 cases r with
 | none => exact wpAny_pure h₁
 | some v =>
   refine wpAny_bind (wpAny_mono (nf h₁) (fun _ s₀ h₀ => ?_) fun _ _ h' => h')
   refine wpAny_bind (wpAny_mono (nf h₀) (fun _ s₂ h₂ => wpAny_bind (wpAny_mono (nf h₂) (fun ok s₃ h₃ => ?_) fun _ _ h' => h')) fun _ _ h' => h')
   cases ok with
   | false => exact wpAny_pure ⟨rfl, h₃⟩
   | true =>
     exact wpAny_bind (wpAny_bind (wpAny_mono (nf h₃) (fun x s₄ h₄ => wpAny_bind (wpAny_mono (nf h₄) (fun _ s₅ h₅ => wpAny_pure (wpAny_pure ⟨rfl, h₅⟩)) fun _ _ h' => h')) fun _ _ h' => h'))
end
structure DOk (X : Cx) (D : Addr) : Prop where
 ne : D ≠ X.env.locals
 ab : X.s₀.heap.objs.size ≤ D
 cl : ∀ x a, X.env.cells.lookup x = some a → a ≠ D
 fs : D ∉ X.fs
theorem lob_pin {us : List Value} {k : Nat} : ∀ v, (lob us k).data ≠ .cell v := fun v e => by cases (show Data.seq us.toArray k = Data.cell v from e)
def LastI (J : It) (g : TG) (ti : TT) (te : TE) (σc : St) (ys0 : List V) (H1 : Hp) (Z : List V → Hp → Prop) : Prop := ∃ W : Nat → Nat → List V → Hp → Prop, (∃ m, W 0 m ys0 H1) ∧ ∀ i m ys H, W i m ys H → ys.length < sizeLine ∧
 ((J.stop i H ∧ Z ys H) ∨ (J.go i H ∧ ∃ M : List V → Hp → Prop, (∀ ys' H', M ys' H' → ∃ m', m' < m ∧ W (i + 1) m' ys' H') ∧
   ∀ x H', J.yld i H x H' → g x σc H' fun σ2 H2 => ti σ2 H2 fun b H3 => if b = true then te σ2 H3 fun y H4 => M (ys ++ [y]) H4 else M ys H3))
section
variable {X : Cx} {scope : Scope} {fr1 : List (Option Nat)} {tg iter elt : Expr} {ifs : List Expr} {gens : List Comprehension} {d : Nat} {pos : Pos} {J : It} {g : TG} {ti : TT} {te : TE} {R : Result → Shared → Prop}
theorem last_loop {pins : List (Addr × Obj)} {σ0 : St} {H0 : Hp} {s0 : Shared} {it D : Addr} {fp : List Addr} {tn : Nat → Heap → Prop} {us0 : List Value} {k0 : Nat} {ys0 : List V} {Z : List V → Hp → Prop}
 (hct : ∀ acc, compTurn (.ListComp elt gens scope pos) d (.ref it) acc X.env = (do
  standAt iter.pos
  match ← pyNext (.ref it) with
  | none => pure (.done .next)
  | some v =>
    letOwnedTupleGo tg (.ref it) v
    assign tg X.env v
    let mut ok := true
    for c in ifs do
     if ok then ok ← isTrue c X.env (eval c X.env)
    if ok then
     (do let _ ← call (.builtin "list.append") [acc, ← eval elt X.env])
    again (.compLoop (.ListComp elt gens scope pos) d (.ref it) acc X.env)))
 (hc : X.calm = true) (I : Inv X pins σ0 H0 s0) (hσ : ∀ (i : Nat) v, σ0[i]? = some (some v) → ∃ j, fr1[i]? = some (some j)) (gw : GW fr1 g)
 (T : Turn X.prog X.w X.K tg J fp it tn) (st : tn 0 s0.heap) (hfp : ∀ b ∈ fp, FpOk X pins H0 b)
 (hD : s0.heap.get? D = some (lob us0 k0)) (hv : Vals ys0 us0) (hDH : H0 D = none) (hDx : DOk X D) (hDp : ∀ p ∈ X.pn ++ pins, p.1 ≠ D) (hDf : D ∉ fp)
 (hg : PG X tg g) (hi : PIfs X ifs ti) (he : PE X elt te) (hq : LastI J g ti te σ0 ys0 H0 Z)
 (hR : ∀ ys us k H s, Inv X pins σ0 H s → s.heap.get? D = some (lob us k) → Vals ys us → H D = none → ys.length < sizeLine → Z ys H → R (.ok .next) s)
 (hE : ∀ x s, X.xe x s → notedBy (model X.prog X.w) X.A X.env (fun e s' => R (.error e) s') x s) :
 codeAny (model X.prog X.w) X.A (.compLoop (.ListComp elt gens scope pos) d (.ref it) (.ref D) X.env) R s0 := by
 obtain ⟨W, ⟨m0, w0⟩, turn⟩ := hq
 refine compLoop_last (EE := X.xe) (hct _) hE (fun n s' => ∃ i ys us k H', Inv X pins σ0 H' s' ∧ tn i s'.heap ∧ (∀ b ∈ fp, H' b = none) ∧ s'.heap.get? D = some (lob us k) ∧ Vals ys us ∧ H' D = none ∧ W i n ys H') ?_ m0
  ⟨0, ys0, us0, k0, H0, I, st, fun b hb => (hfp b hb).1, hD, hv, hDH, w0⟩
 rintro n s3 ⟨i, ys, us, k, H3, I3, st3, fr3, hD3, rv3, hDn3, w3⟩
 obtain ⟨hlen, alt⟩ := turn i n ys H3 w3
 have I3p : Inv X (pins ++ [(D, lob us k)]) σ0 H3 s3 := I3.pins_of fun p hp => by
  rcases List.mem_append.mp hp with z | z
  ·exact I3.pin p (List.mem_append_right _ z)
  ·have e : p = (D, lob us k) := by simpa using z
   subst e
   exact ⟨hD3, hDn3, hDx.ne, hDx.fs, lob_pin⟩
 have stat : ∀ {H' : Hp}, (∀ b ∈ fp, H' b = none) → ∀ b ∈ fp, FpOk X (pins ++ [(D, lob us k)]) H' b := fun hn b hb => by
  obtain ⟨q1, q2, q3, q4, q5, q6⟩ := hfp b hb
  refine ⟨hn b hb, q2, q3, q4, q5, fun p hp => ?_⟩
  rcases List.mem_append.mp hp with z | z
  ·exact q6 p (List.mem_append_left _ z)
  ·rcases List.mem_append.mp z with z | z
   ·exact q6 p (List.mem_append_right _ z)
   ·have e : p = (D, lob us k) := by simpa using z
    subst e
    rintro rfl
    exact hDf hb
 rcases alt with ⟨stop, qn⟩ | ⟨go, M, hM, step⟩
 ·refine thn (T.done X rfl rfl rfl hc i _ s3 _ H3 _ I3p (stat fr3) st3 stop) fun r s4 ⟨hr, I4⟩ => ?_
  subst hr
  have pD := (I4.pin (D, lob us k) (by simp)).1
  exact hR ys us k H3 s4 (I4.pins_of fun p hp => I4.pin p (List.mem_append_right _ (List.mem_append_left _ hp))) pD rv3 hDn3 hlen qn
 ·refine thn (T.item X rfl rfl rfl hc i _ s3 _ H3 _ I3p (stat fr3) st3 go) fun r s4 ⟨u, hr, h4⟩ => ?_
  subst hr
  refine thn h4 fun _ s5 ⟨x, H5, I5, r5, y5, st5, fr5⟩ => ?_
  have I5' := I5.pinned (stat fr5) (T.obj _ _ st5)
  refine thn (hg _ s5 _ H5 x u _ I5' r5 (gw x _ H5 _ _ (fun σ2 H2 wk q => And.intro wk q) (step x H5 y5))) fun _ s6 ⟨σ6, H6, I6, wk6, q6⟩ => ?_
  refine thn (hi _ s6 σ6 H6 _ I6 q6) fun ok s7 ⟨H7, I7, q7⟩ => ?_
  have back : ∀ {σ8 : St} {H8 : Hp} {s8 : Shared}, σ8 = σ6 → Inv X ((pins ++ [(D, lob us k)]) ++ pinsAt fp s5.heap) σ8 H8 s8 → Inv X pins σ0 H8 s8 ∧ tn (i + 1) s8.heap ∧ (∀ b ∈ fp, H8 b = none) ∧ s8.heap.get? D = some (lob us k) ∧ H8 D = none := fun {σ8 H8 s8} e8 I8 => by
   subst e8
   have pf : ∀ b o, b ∈ fp → s5.heap.get? b = some o → s8.heap.get? b = some o ∧ H8 b = none := fun b o hb e => by
    have := I8.pin (b, o) (List.mem_append_right _ (List.mem_append_right _ (mem_pinsAt hb e)))
    exact ⟨this.1, this.2.1⟩
   refine ⟨(I8.pins_of (pins' := pins) fun p hp => I8.pin p (List.mem_append_right _ (List.mem_append_left _ (List.mem_append_left _ hp)))).weak wk6.1.symm fun a v e => ?_, T.keep _ _ _ st5 fun b hb o e => (pf b o hb e).1, fun b hb => ?_, (I8.pin (D, lob us k) (by simp)).1, (I8.pin (D, lob us k) (by simp)).2.1⟩
   ·obtain ⟨j, f1⟩ := hσ a v e
    rw [wk6.2 a j f1]
    exact e
   ·obtain ⟨o, e, _⟩ := T.obj _ _ st5 b hb
    exact (pf b o hb e).2
  cases ok with
  | false =>
    obtain ⟨m', hm, w7⟩ := hM _ _ (by simpa using q7)
    obtain ⟨a1, a2, a3, a4, a5⟩ := back rfl I7
    exact ⟨m', hm, i + 1, ys, us, k, H7, a1, a2, a3, a4, rv3, a5, w7⟩
  | true =>
    have q7' : te σ6 H7 fun y H4 => M (ys ++ [y]) H4 := by simpa using q7
    refine thn (he _ s7 σ6 H7 _ I7 q7') fun v s8 ⟨y, H8, I8, ry, q8⟩ => ?_
    obtain ⟨m', hm, w8⟩ := hM _ _ q8
    obtain ⟨a1, a2, a3, a4, a5⟩ := back rfl I8
    have hus : us.toArray.size ≤ sizeLine := by
     rw [List.size_toArray, ← rv3.length]
     exact Nat.le_of_lt hlen
    refine wpAny_list_append_plain (hsz := hus) (l := D) (items := us.toArray) ⟨_, a4⟩ fun h₅ hl₅ hs₅ => ?_
    obtain ⟨k', hl₅'⟩ := hl₅
    refine ⟨m', hm, i + 1, ys ++ [y], us ++ [v], k', H8, a1.turned (t' := s8.toks) (fun b o hb e => (hs₅.2 b hb).trans e) a5 hDx.ne (.inr hDx.ab) hDx.cl hDp, T.keep _ _ _ a2 fun b hb o e => (hs₅.2 b (fun z => hDf (z ▸ hb))).trans e, a3, ?_, rv3.append (.cons ry .nil), a5, w8⟩
    show h₅.get? D = _
    rw [hl₅']
    simp [lob]
end
section
variable {X : Cx} {scope : Scope} {N : List Str} {fr : List (Option Nat)} {tg iter elt : Expr} {ifs : List Expr} {rest : List Comprehension} {pos : Pos} {J : It} {xb : Addr → Value → Shared → Prop}
structure Beg (X : Cx) (scope : Scope) (N : List Str) (fr : List (Option Nat)) (xb : Addr → Value → Shared → Prop) (pins : List (Addr × Obj)) (σ : St) (H : Hp) (s₂ : Shared) (fp : List Addr) (D C : Addr) (h₁ : Heap) : Prop where
 ix : Inv X pins σ H s₂
 ds : s₂.heap.objs.size = D
 dc : D < C
 cel : Cel X scope C h₁
 inv : Inv (cxD X scope C N s₂ H fp (xb C)) [] (stC fr σ) H { s₂ with heap := h₁ }
 fpk : ∀ b ∈ fp, FpOk X pins H b ∧ b < s₂.heap.objs.size
 acc : h₁.get? D = some (lob [] 0)
 free : H D = none
section
variable {pins : List (Addr × Obj)} {σ : St} {H : Hp} {s₂ : Shared} {fp : List Addr} {D C : Addr} {h₁ : Heap}
theorem Beg.dok (B : Beg X scope N fr xb pins σ H s₂ fp D C h₁) : DOk (cxD X scope C N s₂ H fp (xb C)) D where
 ne := Nat.ne_of_lt B.dc
 ab := Nat.le_of_eq B.ds
 cl := fun x a e => by
  rcases B.cel.get x a e with z | ⟨z, _⟩
  ·obtain ⟨v, q⟩ := B.ix.cell x a z
   have := q.lt
   rw [B.ds] at this
   exact Nat.ne_of_lt this
  ·exact Nat.ne_of_gt (Nat.lt_trans B.dc z)
 fs := fun z => by
  have z' : D ∈ frs X.stack := z
  rcases List.mem_cons.mp (B.ix.stkSub D z') with e | e
  ·have := B.ix.lt
   rw [← e, B.ds] at this
   exact Nat.lt_irrefl _ this
  ·exact B.ix.nofs (Nat.le_of_eq B.ds) e
theorem Beg.fpD (B : Beg X scope N fr xb pins σ H s₂ fp D C h₁) : D ∉ fp := fun hb => by
 have := (B.fpk D hb).2
 rw [B.ds] at this
 exact Nat.lt_irrefl _ this
theorem Beg.fpo (B : Beg X scope N fr xb pins σ H s₂ fp D C h₁) : ∀ b ∈ fp, FpOk (cxD X scope C N s₂ H fp (xb C)) [] H b := fun b hb => by
 obtain ⟨q1, q2⟩ := B.fpk b hb
 refine ⟨q1.1, ?_, fun z => B.inv.ok.exfs b hb z, .inl hb, fun x a e => (B.inv.ok.exf b hb).2 x a e, fun p hp => absurd (show p ∈ ([] : List (Addr × Obj)) from hp) (by simp)⟩
 exact (B.inv.ok.exf b hb).1
theorem Beg.back (B : Beg X scope N fr xb pins σ H s₂ fp D C h₁) {H3 : Hp} {s4 : Shared} {ys : List V} {us : List Value} {k : Nat} (I4 : Inv (cxD X scope C N s₂ H fp (xb C)) [] (stC fr σ) H3 s4) (hD : s4.heap.get? D = some (lob us k)) (rv : Vals ys us) (hn : H3 D = none) (hl : ys.length < sizeLine) :
 Inv X pins σ (upd H3 D (.lst ys)) s4 ∧ Aside X pins (upd H3 D (.lst ys)) C ∧ ∃ m, s4.heap.Ns C m := by
 have IX : Inv X pins σ H3 s4 := B.ix.call' I4.os I4.base I4.hok I4.bare fun b hb => by
  obtain ⟨q1, q2, q3, q4, q5, q6⟩ := (B.fpk b hb).1
  exact ⟨q4, q2, q5, q6⟩
 have aD : Aside X pins H3 D := B.ix.aside (Nat.le_of_eq B.ds) hn
 refine ⟨IX.track hn aD.ne aD.ab aD.cl aD.pn ⟨Nat.le_of_lt hl, us, k, rv, hD⟩, B.ix.aside (by rw [B.ds]; exact Nat.le_of_lt B.dc) ?_, ?_⟩
 ·rw [upd_ne (Nat.ne_of_gt B.dc)]
  exact I4.free
 ·obtain ⟨m, hm, _⟩ := I4.loc
  exact ⟨m, hm⟩
end
theorem stC_some {fr : List (Option Nat)} {σ : St} : ∀ (i : Nat) v, (stC fr σ)[i]? = some (some v) → ∃ j, fr[i]? = some (some j) := fun i v e => by
 obtain ⟨j, f, _⟩ := stC_get e
 exact ⟨j, f⟩
theorem comp_coreG {pins : List (Addr × Obj)} {σ : St} {H : Hp} {s₂ : Shared} {it : Addr} {fp : List Addr} {tn : Nat → Heap → Prop} {E : Value → Shared → Prop} (c : CompOkD X scope N fr) (I : Inv X pins σ H s₂)
 (T : Turn X.prog X.w X.K tg J fp it tn) (st : tn 0 s₂.heap) (hfp : ∀ b ∈ fp, FpOk X pins H b) {RR : Value → Addr → Result → Shared → Prop}
 (hloop : ∀ D C h₁, Beg X scope N fr xb pins σ H s₂ fp D C h₁ → tn 0 h₁ → codeAny (model X.prog X.w) X.A (.compLoop (.ListComp elt (⟨tg, iter, ifs, 0⟩ :: rest) scope pos) 0 (.ref it) (.ref D) (cxD X scope C N s₂ H fp (xb C)).env) (RR (.ref D) C) { s₂ with heap := h₁ }) :
 wpAny (model X.prog X.w) X.A (newList []) (fun acc s₃ => wpAny (model X.prog X.w) X.A (newFunctionEnv scope X.env.globals (clOf X.env scope.names []) [] X.env.qual none .none (some X.env)) (fun cenv s₄ =>
  codeAny (model X.prog X.w) X.A (.compStart (.ListComp elt (⟨tg, iter, ifs, 0⟩ :: rest) scope pos) 0 (.ref it) acc { cenv with scope := relabel scope X.env }) (RR acc cenv.locals) s₄) E s₃) E s₂ := by
 refine wpAny_newObj_type (newEnv_cells ?_)
 dsimp only
 generalize hH2 : s₂.heap.push { cls := .type "list", dict := none, data := .seq ([] : List Value).toArray } = H2
 have hC : H2.objs.size = s₂.heap.objs.size + 1 := by rw [← hH2, Heap.size_push]
 have old : ∀ b o, H2.get? b = some o → (pushCells (H2.push { cls := .type "dict", data := .dict #[] }) scope.names).get? b = some o := fun b o e => pushCells_keeps _ _ _ _ (Heap.get?_push_of_some _ e)
 have old2 : ∀ b o, s₂.heap.get? b = some o → (pushCells (H2.push { cls := .type "dict", data := .dict #[] }) scope.names).get? b = some o := fun b o e => old b o (hH2 ▸ Heap.get?_push_of_some _ e)
 have hacc : (pushCells (H2.push { cls := .type "dict", data := .dict #[] }) scope.names).get? s₂.heap.objs.size = some (lob [] 0) := old _ _ (hH2 ▸ Heap.get?_push_size _ rfl)
 have hns : (pushCells (H2.push { cls := .type "dict", data := .dict #[] }) scope.names).Ns H2.objs.size fun _ => none := (Heap.Ns.new H2 (.type "dict")).keeps (pushCells_keeps _ _)
 have hcel : Cel X scope H2.objs.size (pushCells (H2.push { cls := .type "dict", data := .dict #[] }) scope.names) := ⟨fun x a e => c.get I.ok e⟩
 have hfp2 : ∀ b ∈ fp, FpOk X pins H b ∧ b < s₂.heap.objs.size := fun b hb => ⟨hfp b hb, by obtain ⟨o, e, _⟩ := T.obj _ _ st b hb; exact Heap.lt_size e⟩
 have I0 := compD_inv (xb := xb H2.objs.size) (tk := s₂.toks) c I (by rw [hC]; exact Nat.le_succ _) hcel hfp2 old2 hns
 have st₁ := T.keep _ _ _ st fun b hb o e => old2 b o e
 have lp := hloop s₂.heap.objs.size H2.objs.size _ ⟨I, rfl, by rw [hC]; exact Nat.lt_succ_self _, hcel, I0, hfp2, hacc, I.hok.fresh (Nat.le_refl _)⟩ st₁
 exact codeAny_compStart_list lp (T.self _ _ _ _ _ st₁ lp)
end
section
variable {prog : Program} {w : World} {A : Around} {R : Result → Shared → Prop} {s : Shared}
end
def xNo : Addr → Value → Shared → Prop := fun _ _ _ => False
theorem CompI.last {J : It} {g : TG} {ti : TT} {te : TE} {σc : St} {H1 : Hp} {Q : VK} (h : CompI J g ti te σc H1 Q) : LastI J g ti te σc [] H1 fun ys H => ∀ l, H l = none → Q (.ref l) (upd H l (.lst ys)) := h
section
variable {X : Cx} {scope : Scope} {N : List Str} {fr : List (Option Nat)} {tg iter elt : Expr} {ifs : List Expr} {pos : Pos} {g : TG} {ti : TT} {te : TE}
theorem one_loop {pins : List (Addr × Obj)} {σ : St} {H : Hp} {s₂ : Shared} {it D C : Addr} {fp : List Addr} {tn : Nat → Heap → Prop} {J : It} {h₁ : Heap} {Q : VK} {R : Result → Shared → Prop} (hc : X.calm = true) (B : Beg X scope N fr xNo pins σ H s₂ fp D C h₁) (T : Turn X.prog X.w X.K tg J fp it tn) (st : tn 0 h₁)
 (hg : PG (cxD X scope C N s₂ H fp (xNo C)) tg g) (hi : PIfs (cxD X scope C N s₂ H fp (xNo C)) ifs ti) (he : PE (cxD X scope C N s₂ H fp (xNo C)) elt te) (gw : GW fr g) (q : CompI J g ti te (stC fr σ) H Q)
 (hR : ∀ H' ys s', Inv X pins σ (upd H' D (.lst ys)) s' → Aside X pins (upd H' D (.lst ys)) C → (∃ m, s'.heap.Ns C m) → Q (.ref D) (upd H' D (.lst ys)) → R (.ok .next) s') :
 codeAny (model X.prog X.w) X.A (.compLoop (.ListComp elt [⟨tg, iter, ifs, 0⟩] scope pos) 0 (.ref it) (.ref D) (cxD X scope C N s₂ H fp (xNo C)).env) R { s₂ with heap := h₁ } := by
 refine last_loop (X := cxD X scope C N s₂ H fp (xNo C)) (fun acc => compTurn_list ..) hc B.inv stC_some gw T st B.fpo B.acc .nil B.free B.dok (fun p hp => absurd (show p ∈ ([] : List (Addr × Obj)) from hp) (by simp)) B.fpD hg hi he q.last ?_ fun _ _ z => z.elim
 intro ys us k H3 s4 I4 hD rv hn hl z
 obtain ⟨a, b, c⟩ := B.back I4 hD rv hn hl
 exact hR H3 ys s4 a b c (z D hn)
theorem pe_compD {wi : TI} (c : CompOkD X scope N fr) (hc : X.calm = true) (hi : PI X tg iter wi) (hg : ∀ C s₂ H fp, PG (cxD X scope C N s₂ H fp (xNo C)) tg g) (hf : ∀ C s₂ H fp, PIfs (cxD X scope C N s₂ H fp (xNo C)) ifs ti) (he : ∀ C s₂ H fp, PE (cxD X scope C N s₂ H fp (xNo C)) elt te) (gw : GW fr g)
 (hs : ∀ x, foldedSetIterable iter X.env x = pure x := by intro _; rfl) : PE X (.ListComp elt [⟨tg, iter, ifs, 0⟩] scope pos) (tComp fr wi g ti te) := by
 walk_at "z0"
 rw [eval_ListComp]
 refine wpAny_comprehension_free (use := none) rfl hs (closure_eq (c.cells I.ok)) c.kind c.names (thn (hi pins s σ H _ I h) fun v s1 h1 => thn h1 fun itv s2 h2 => ?_)
 obtain ⟨it, fp, tn, J, H2, e, I2, T, st2, f2, q⟩ := h2
 subst e
 refine comp_coreG (xb := xNo) (RR := fun acc C => compPost (model X.prog X.w) X.A X.xe none (EP X pins σ Q) acc C) c I2 T st2 f2 fun D C h₁ B st₁ => ?_
 refine one_loop (Q := Q) hc B T st₁ (hg C _ _ _) (hf C _ _ _) (he C _ _ _) gw q fun H' ys s' IT as hm q => ?_
 obtain ⟨m, hm⟩ := hm
 exact ⟨m, hm, fun h' sb => ⟨.ref D, _, IT.turned (t' := s'.toks) (fun b o hb e => (sb.2 b hb).trans e) as.fr as.ne (.inr as.ab) as.cl as.pn, rfl, q⟩⟩
end
def msk (fr1 : List (Option Nat)) (σ : St) : St := List.zipWith (fun f v => f.bind fun _ => v) fr1 σ
def CompI2 (J : It) (fr1 : List (Option Nat)) (g : TG) (ti : TT) (wi1 : TI) (g1 : TG) (ti1 : TT) (te : TE) (σc : St) (H1 : Hp) (Q : VK) : Prop := ∃ W : Nat → Nat → List V → Hp → Prop, (∃ m, W 0 m [] H1) ∧ ∀ i m ys H, W i m ys H → ys.length < sizeLine ∧
 ((J.stop i H ∧ ∀ l, H l = none → Q (.ref l) (upd H l (.lst ys))) ∨ (J.go i H ∧ ∃ M : List V → Hp → Prop, (∀ ys' H', M ys' H' → ∃ m', m' < m ∧ W (i + 1) m' ys' H') ∧
   ∀ x H', J.yld i H x H' → g x σc H' fun σ2 H2 => ti σ2 H2 fun b H3 => if b = true then wi1 σ2 H3 fun J1 H4 => LastI J1 g1 ti1 te (msk fr1 σ2) ys H4 M else M ys H3))
def tComp2 (fr fr1 : List (Option Nat)) (wi : TI) (g : TG) (ti : TT) (wi1 : TI) (g1 : TG) (ti1 : TT) (te : TE) : TE := fun σ H Q => wi σ H fun J H1 => CompI2 J fr1 g ti wi1 g1 ti1 te (stC fr σ) H1 Q
section
variable {X : Cx} {scope : Scope} {N : List Str} {fr fr1 : List (Option Nat)} {tg iter tg1 iter1 elt : Expr} {ifs ifs1 : List Expr} {pos : Pos} {g g1 : TG} {ti ti1 : TT} {te : TE} {wi1 : TI}
end
theorem nestD_kind {X : Cx} {scope0 : Scope} {C : Addr} {N : List Str} {s₂ : Shared} {H₂ : Hp} {ex : List Addr} {xb : Value → Shared → Prop} {x : Str} (h : scope0.names.lookup x = some .free ∨ scope0.names.lookup x = some .cell) : (cxD X scope0 C N s₂ H₂ ex xb).env.kindOf x = some .cell ∨ (cxD X scope0 C N s₂ H₂ ex xb).env.kindOf x = some .free := by
 rcases h with h | h
 ·exact relabel_free h
 ·exact .inl (relabel_cell h)
theorem nestD_frees {X : Cx} {scope0 scope : Scope} {C : Addr} {N : List Str} {s₂ : Shared} {H₂ : Hp} {ex : List Addr} {xb : Value → Shared → Prop} (h : ∀ y ∈ scope.names, y.2 = .free → scope0.names.lookup y.1 = some .free ∨ scope0.names.lookup y.1 = some .cell) :
 ∀ y ∈ scope.names, y.2 = .free → (cxD X scope0 C N s₂ H₂ ex xb).env.kindOf y.1 = some .cell ∨ (cxD X scope0 C N s₂ H₂ ex xb).env.kindOf y.1 = some .free := fun y hy e => nestD_kind (h y hy e)
section
variable {g g1 : TG} {ti ti1 : TT} {te : TE} {wi1 : TI} {fr1 : List (Option Nat)} {σc : St} {H : Hp} {Q : VK}
end
end L2
namespace L2
open PySem PySem.Spec PyProof.Rows
section
variable {M : Model} {A : Around} {E : Value → Shared → Prop} {s : Shared} {B : Heap} {env : Env} {outer : List Env} {L e : Addr}
end
section
variable {P : Program} {w : World} {K : PySem.W.Frag} {mg : Str → Option Value} {base : Heap} {N : List Str} {qual : Str} {scope : Scope} {f : Addr} {cd : Value} {A : Around} {outer : List Env} {s : Shared} {H : Hp} {E : XK}
end
structure XIn (X : Cx) (C : Addr) (s₂ : Shared) (H : Hp) (fp : List Addr) : Prop where
 ex : ∃ pins σ, Inv X pins σ H s₂ ∧ ∀ b ∈ fp, FpOk X pins H b ∧ b < s₂.heap.objs.size
 le : s₂.heap.objs.size ≤ C
section
variable {P : Program} {w : World} {K : PySem.W.Frag} {mg : Str → Option Value} {base : Heap} {N : List Str} {qual : Str} {scope : Scope} {f : Addr} {cd : Value} {A : Around} {outer : List Env} {s : Shared} {H : Hp} {E : XK} {scope' : Scope} {N' : List Str} {C : Addr} {s₂ : Shared} {H₂ : Hp} {fp : List Addr}
end
section
variable {P : Program} {w : World} {K : PySem.W.Frag} {mg : Str → Option Value} {base : Heap} {N : List Str} {qual : Str} {scope : Scope} {f : Addr} {cd : Value} {A : Around} {outer : List Env} {s : Shared} {H : Hp} {E : XK} {scope' : Scope} {N' : List Str} {C : Addr} {s₂ : Shared} {H₂ : Hp} {fp : List Addr} {Y : Cx}
end
section
variable {X : Cx} {scope : Scope} {N : List Str} {fr : List (Option Nat)} {tg iter elt : Expr} {ifs : List Expr} {pos : Pos} {g : TG} {ti : TT} {te : TE}
end
end L2
namespace L2
open PySem PySem.Spec PyProof.Rows
section
variable {X : Cx} {e k : Expr} {te : TE} {tk : TO} {pos p2 : Pos}
def rRev (K : PySem.W.Frag) : V → Hp → VK → Prop := fun x H Q => ∃ a xs, x = .ref a ∧ SqL K H a xs ∧ ∀ p, H p = none → Q (.ref p) (upd H p (.lst xs.reverse))
def tRev (K : PySem.W.Frag) (te : TE) (tk : TO) : TE := fun σ H Q => te σ H fun x H1 => tk σ H1 fun j H2 => j = some (-1) ∧ rRev K x H2 Q
theorem pe_rev (he : PE X e te) (hk : PO X (some k) tk) : PE X (.Subscript e (.Slice none none (some k) p2) pos) (tRev X.K te tk) := by
 walk_at "z0"
 refine Subscript_ (thn (he pins s σ H _ I h) fun v s1 ⟨x, H1, I1, r1, q1⟩ => ?_)
 refine wpAny_Slice ?_
 rw [evalPart_none]
 refine wpAny_pure ?_
 refine wpAny_pure ?_
 refine thn (hk pins s1 σ H1 _ I1 q1) fun vs s3 ⟨j, H3, I3, ps, q3⟩ => ?_
 obtain ⟨rfl, a, xs, rfl, hx, q⟩ := q3
 cases r1
 have I4 : Inv X pins σ H3 { s3 with heap := s3.heap.push { cls := .type "slice", data := .fields #[.none, .none, vs] } } := I3.kept (t' := s3.toks) fun b ob q => Heap.get?_push_of_some _ q
 show wpAny (model X.prog X.w) X.A (subscriptTail e (.Slice none none (some k) p2) (.ref a) (.ref s3.heap.objs.size)) (EP X pins σ Q) X.xe { s3 with heap := s3.heap.push { cls := .type "slice", data := .fields #[.none, .none, vs] } }
 obtain ⟨its, r, ht, hz⟩ := I4.list hx
 have hlen := r.length
 refine tail_any (ops := [.ref a, .ref s3.heap.objs.size]) ht.isList.typeIs slot_list_getitem.lookup ?_ (by with_unfolding_all rfl)
 refine wpAny_getItem_list_slice ht.isList (Heap.IsSliceOf.new ..) .none .none ps (by simp) ?_ (by rw [List.size_toArray] <;> lia)
 rw [PySem.W.krv_pick]
 refine ⟨.ref _, _, I4.laid (t' := s3.toks) (o := .lst xs.reverse) (fun b ob q => Heap.get?_push_of_some _ q) (Nat.le_refl _) ?_, rfl, q _ (I4.hok.fresh (Nat.le_refl _))⟩
 exact ⟨by rw [List.length_reverse]; exact hz, _, 0, r.reverse, Heap.get?_push_size _ rfl⟩
theorem pe_revK (K : PySem.W.Frag) (he : PE X e te) (hk : PO X (some k) tk) (hK : X.K = K := by rfl) : PE X (.Subscript e (.Slice none none (some k) p2) pos) (tRev K te tk) := by subst hK; exact pe_rev he hk
end
section
variable {X : Cx}
end
section
variable {K : PySem.W.Frag} {H : Hp} {Q : VK}
theorem i_rev {a : Addr} {ns : List Int} (h : SqL K H a (iL ns)) (q : ∀ p, H p = none → Q (.ref p) (upd H p (.lst (iL ns.reverse)))) : some (-1 : Int) = some (-1) ∧ rRev K (.ref a) H Q := ⟨rfl, a, _, rfl, h, fun p hp => by rw [← List.map_reverse]; exact q p hp⟩
theorem atI_neg {α : Type} {xs : List α} {i : Int} {v : α} (h0 : i < 0) (h1 : 0 ≤ i + xs.length) (h : xs[(i + xs.length).toNat]? = some v) : atI xs i = some v := by
 have e : ixN xs.length i = some (i + xs.length).toNat := by
  unfold ixN
  rw [if_neg (by lia), if_pos (by lia)]
 unfold atI
 rw [e]
 exact h
theorem i_ixNeg {p : Addr} {xs : List V} {i : Int} {v : V} (h : SqL K H p xs) (h0 : i < 0) (h1 : 0 ≤ i + xs.length) (e : xs[(i + xs.length).toNat]? = some v) (q : Q v H) : rIxP K (.ref p) (.int i) H Q := .inl ⟨p, _, _, _, rfl, rfl, h, atI_neg h0 h1 e, q⟩
end
end L2
namespace M
def drag (p a x : Int) : Int := if x < a - p then a - p else if a + p < x then a + p else x
def isTr (ps : List Int) : Prop := 1 ≤ ps.length ∧ ps.length ≤ 12 ∧ ∀ p ∈ ps, 0 ≤ p
def keeps : List Int → Int → List Int → Prop
 | p :: ps, a, x :: xs => (x - a ≤ p ∧ a - x ≤ p) ∧ keeps ps x xs
 | _, _, _ => True
def stand (ps : List Int) (a : Int) (xs : List Int) : Prop := xs.length = ps.length ∧ keeps ps a xs
def dragAll : List Int → List Int → Int → List Int
 | p :: ps, x :: xs, a => drag p a x :: dragAll ps xs (drag p a x)
 | _, _, _ => []
def lastOf : Int → List Int → Int
 | a, [] => a
 | _, x :: xs => lastOf x xs
theorem dropc {α : Type} {xs : List α} {i : Nat} {x : α} (h : xs[i]? = some x) : xs.drop i = x :: xs.drop (i + 1) := by
 obtain ⟨hl, e⟩ := List.getElem?_eq_some_iff.mp h
 rw [List.drop_eq_getElem_cons hl, e]
theorem lastOf_snoc (a x : Int) : ∀ xs : List Int, lastOf a (xs ++ [x]) = x := by
 intro xs
 induction xs generalizing a with
 | nil => rfl
 | cons y ys ih => exact ih y
theorem keeps_snoc {p x : Int} : ∀ (ps xs : List Int) (a : Int), ps.length = xs.length → keeps ps a xs → x - lastOf a xs ≤ p → lastOf a xs - x ≤ p → keeps (ps ++ [p]) a (xs ++ [x])
 | [], [], a, _, _, h1, h2 => ⟨⟨h1, h2⟩, trivial⟩
 | q :: ps, y :: ys, a, hl, h, h1, h2 => ⟨h.1, keeps_snoc ps ys y (by simpa using hl) h.2 h1 h2⟩
 | [], _ :: _, _, hl, _, _, _ => by simp at hl
 | _ :: _, [], _, hl, _, _, _ => by simp at hl
theorem dragAll_length : ∀ (ps xs : List Int) (a : Int), (dragAll ps xs a).length = min ps.length xs.length
 | [], xs, a => by simp [dragAll]
 | p :: ps, [], a => by simp [dragAll]
 | p :: ps, x :: xs, a => by simp [dragAll, dragAll_length ps xs]
theorem dragAll_nil (xs : List Int) (a : Int) : dragAll [] xs a = [] := by simp [dragAll]
theorem dragAll_nil2 (ps : List Int) (a : Int) : dragAll ps [] a = [] := by cases ps <;> simp [dragAll]
def hung (d : Int) : Int → List Int → List Int
 | _, [] => []
 | x, c :: row => drag d c x :: hung d (drag d c x) row
def depths : Int → List Int → List Int
 | _, [] => []
 | d, p :: ps => (d + p) :: depths (d + p) ps
theorem depths_length : ∀ (ps : List Int) (d : Int), (depths d ps).length = ps.length
 | [], _ => rfl
 | p :: ps, d => by simp [depths, depths_length ps]
theorem take_snoc_get {α : Type} {xs : List α} {j : Nat} {x : α} (h : xs[j]? = some x) : xs.take (j + 1) = xs.take j ++ [x] := by
 rw [List.take_add_one, h]; rfl
end M
namespace M
def pc (xs : List Int) (h : Int) (w : Int) : Int := if w < 0 then h else xs.getD w.toNat 0
abbrev Fn := Int → Int
abbrev Must := Int × Int
def mp (D G : Fn) (m : Must) : Int := G m.1 + m.2 * D m.1
def bey (D G : Fn) (a : Must) (w : Int) : Prop := (mp D G a - G w) * a.2 > D w
instance (D G : Fn) (a : Must) (w : Int) : Decidable (bey D G a w) := inferInstanceAs (Decidable (_ > _))
def sgn (F G : Fn) (w : Int) : Int := if F w < G w then 1 else -1
def fm (F G : Fn) : Nat → List Must
 | 0 => if F (-1) = G (-1) then [] else [(-1, sgn F G (-1))]
 | k + 1 => if F k = G k then fm F G k else [((k : Int), sgn F G k)]
def rst (D G : Fn) : Nat → Must → List Must
 | 0, a => if bey D G a (-1) then [(-1, -a.2)] else []
 | k + 1, a => if bey D G a k then ((k : Int), -a.2) :: rst D G k ((k : Int), -a.2) else rst D G k a
def rstOf (D G : Fn) (a : Must) : List Must := if a.1 < 0 then [] else rst D G a.1.toNat a
def paper (n : Nat) (D F G : Fn) : List Must := match fm F G n with
 | [] => []
 | a :: _ => a :: rstOf D G a
theorem fm_spec {F G : Fn} : ∀ (n : Nat), (fm F G n = [] ∧ ∀ j : Int, -1 ≤ j → j < n → F j = G j) ∨ ∃ w : Int, fm F G n = [(w, sgn F G w)] ∧ -1 ≤ w ∧ w < n ∧ F w ≠ G w ∧ ∀ j : Int, w < j → j < n → F j = G j
 | 0 => by
   simp only [fm]
   split
   ·rename_i h
    refine .inl ⟨rfl, fun j h1 h2 => ?_⟩
    have : j = -1 := by lia
    rw [this]; exact h
   ·rename_i h
    exact .inr ⟨-1, rfl, by lia, by lia, h, fun j h1 h2 => by lia⟩
 | k + 1 => by
   simp only [fm]
   split
   ·rename_i h
    rcases fm_spec (F := F) (G := G) k with ⟨e, q⟩ | ⟨w, e, h1, h2, h3, h4⟩
    ·refine .inl ⟨e, fun j h1 h2 => ?_⟩
     by_cases e : j = k
     ·rw [e]; exact h
     ·exact q j h1 (by lia)
    ·refine .inr ⟨w, e, h1, by lia, h3, fun j z1 z2 => ?_⟩
     by_cases e : j = k
     ·rw [e]; exact h
     ·exact h4 j z1 (by lia)
   ·rename_i h
    exact .inr ⟨k, rfl, by lia, by lia, h, fun j h1 h2 => by lia⟩
def okMust (n : Nat) (m : Must) : Prop := -1 ≤ m.1 ∧ m.1 < n ∧ (m.2 = 1 ∨ m.2 = -1)
def fstOk (F G : Fn) (m : Must) : Prop := F m.1 ≠ G m.1 ∧ m.2 = sgn F G m.1
def nxt (D G : Fn) (a m : Must) : Prop := m.2 = -a.2 ∧ bey D G a m.1
def chain (n : Nat) (D G : Fn) : Must → List Must → Prop
 | _, [] => True
 | a, m :: ms => okMust n m ∧ nxt D G a m ∧ chain n D G m ms
def isPap (n : Nat) (D F G : Fn) : List Must → Prop
 | [] => True
 | m :: ms => okMust n m ∧ fstOk F G m ∧ chain n D G m ms
theorem rst_chain {n : Nat} {D G : Fn} : ∀ (k : Nat) (a : Must), (a.2 = 1 ∨ a.2 = -1) → k ≤ n → chain n D G a (rst D G k a)
 | 0, a, hs, hk => by
   simp only [rst]
   split
   ·rename_i h
    exact ⟨⟨by simp only; lia, by simp only; lia, by simp only; lia⟩, ⟨rfl, h⟩, trivial⟩
   ·trivial
 | k + 1, a, hs, hk => by
   simp only [rst]
   split
   ·rename_i h
    exact ⟨⟨by simp only; lia, by simp only; lia, by simp only; lia⟩, ⟨rfl, h⟩, rst_chain k _ (by simp only; lia) (by lia)⟩
   ·exact rst_chain k a hs (by lia)
theorem paper_isPap {n : Nat} {D F G : Fn} : isPap n D F G (paper n D F G) := by
 unfold paper
 rcases fm_spec (F := F) (G := G) n with ⟨e, q⟩ | ⟨w, e, h1, h2, h3, h4⟩
 ·rw [e]; trivial
 ·rw [e]
  have hs : sgn F G w = 1 ∨ sgn F G w = -1 := by unfold sgn; split <;> simp
  refine ⟨⟨h1, h2, hs⟩, ⟨h3, rfl⟩, ?_⟩
  unfold rstOf
  split
  ·trivial
  ·rename_i hw
   simp only at hw
   exact rst_chain _ _ hs (by simp only; lia)
theorem rst_length {D G : Fn} : ∀ (k : Nat) (a : Must), (rst D G k a).length ≤ k + 1
 | 0, a => by simp only [rst]; split <;> simp
 | k + 1, a => by
   simp only [rst]
   split
   ·have := rst_length (D := D) (G := G) k ((k : Int), -a.2); simp; lia
   ·have := rst_length (D := D) (G := G) k a; lia
theorem paper_length {n : Nat} {D F G : Fn} : (paper n D F G).length ≤ n + 1 := by
 unfold paper
 rcases fm_spec (F := F) (G := G) n with ⟨e, q⟩ | ⟨w, e, h1, h2, h3, h4⟩
 ·rw [e]; simp
 ·rw [e]
  simp only [List.length_cons, rstOf]
  split
  ·simp
  ·rename_i hw
   have := rst_length (D := D) (G := G) w.toNat (w, sgn F G w)
   lia
def ab (i : Int) : Int := if i < 0 then -i else i
def way : Int → List Int → Int
 | _, [] => 0
 | h, x :: r => ab (x - h) + way x r
def wayL : List Int → Int
 | [] => 0
 | h :: r => way h r
theorem wayL_two (x y : Int) (r : List Int) : wayL (x :: y :: r) = ab (y - x) + wayL (y :: r) := rfl
theorem wayL_short : ∀ {xs : List Int}, xs.length ≤ 1 → wayL xs = 0
 | [], _ => rfl
 | [_], _ => rfl
 | _ :: _ :: _, h => by simp at h
def rr (D G : Fn) : Nat → Must → List Must
 | 0, _ => []
 | k + 1, a => rst D G k a
theorem rr_step (D G : Fn) (k : Nat) (a : Must) : rr D G (k + 1) a = if bey D G a ((k : Int) - 1) then ((k : Int) - 1, -a.2) :: rr D G k ((k : Int) - 1, -a.2) else rr D G k a := by
 cases k with
 | zero => simp [rr, rst]
 | succ k => simp only [rr, rst]; rw [show ((k + 1 : Nat) : Int) - 1 = k by lia]
theorem rr_of (D G : Fn) (a : Must) (h : -1 ≤ a.1) : rstOf D G a = rr D G (a.1 + 1).toNat a := by
 unfold rstOf
 split
 ·rw [show (a.1 + 1).toNat = 0 by lia]; rfl
 ·rw [show (a.1 + 1).toNat = a.1.toNat + 1 by lia]; rfl
def ff (F G : Fn) : Nat → List Must
 | 0 => []
 | k + 1 => fm F G k
theorem ff_step (F G : Fn) (k : Nat) : ff F G (k + 1) = if F ((k : Int) - 1) = G ((k : Int) - 1) then ff F G k else [((k : Int) - 1, sgn F G ((k : Int) - 1))] := by
 cases k with
 | zero => simp [ff, fm]
 | succ k => simp only [ff, fm]; rw [show ((k + 1 : Nat) : Int) - 1 = k by lia]
theorem pc_neg (xs : List Int) (h : Int) : pc xs h (-1) = h := by simp [pc]
theorem pc_get {xs : List Int} {h w : Int} (h0 : 0 ≤ w) (h1 : w < xs.length) : xs[w.toNat]? = some (pc xs h w) := by
 have : w.toNat < xs.length := by lia
 simp only [pc]
 rw [if_neg (by lia)]
 simp [List.getD, this]
def told (ps : List Int) (h : Int) (ws : List Int) (e : Int) (gs : List Int) : List Must := paper ps.length (pc (depths 0 ps) 0) (pc ws h) (pc gs e)
def toldRow (ps : List Int) (h : Int) (ws : List Int) (e : Int) (gs : List Int) : List Int := (told ps h ws e gs).map (mp (pc (depths 0 ps) 0) (pc gs e))
end M
namespace M
abbrev WSt := Int × List Int × List Int
def fart : List Int → List Int → List Int → List Int
 | y :: ys, a :: as, p :: ps => (y + ab (p - a)) :: fart ys as ps
 | _, _, _ => []
def nx (ps : List Int) (s : WSt) (c : Int) : WSt := (c, dragAll ps s.2.1 c, fart s.2.2 s.2.1 (dragAll ps s.2.1 c))
end M
namespace L2
open PySem PySem.Spec PyProof.Rows
section
variable {prog : Program} {w : World} {A : Around} {E : Value → Shared → Prop} {s : Shared}
local macro_rules | `(tactic| walk_at "ne") => `(tactic| (show @Ne Nat _ _; lia))
end
end L2
namespace L2
open PySem PySem.Spec PyProof.Rows
local macro_rules | `(tactic| walk_at "ne") => `(tactic| (show @Ne Nat _ _; lia))
section
variable {prog : Program} {w : World} {A : Around} {E : Value → Shared → Prop} {s : Shared}
end
section
variable {prog : Program} {w : World} {A : Around} {E : Value → Shared → Prop} {s : Shared}
end
def It3 (K : PySem.W.Frag) (a b c : Addr) : It :=
 ⟨fun i H => ∃ xs ys zs x y q, SqL K H a xs ∧ SqL K H b ys ∧ SqL K H c zs ∧ xs[i]? = some x ∧ ys[i]? = some y ∧ zs[i]? = some q,
  fun i H v H' => ∃ T x y q, v = .ref T ∧ H T = none ∧ H' = upd H T (.tup [x, y, q]) ∧ (∀ xs, SqL K H a xs → xs[i]? = some x) ∧ (∀ ys, SqL K H b ys → ys[i]? = some y) ∧ ∀ zs, SqL K H c zs → zs[i]? = some q,
  fun i H => ∃ xs ys zs, SqL K H a xs ∧ SqL K H b ys ∧ SqL K H c zs ∧ (xs.length ≤ i ∨ ys.length ≤ i ∨ zs.length ≤ i)⟩
def iZip3 (K : PySem.W.Frag) (ta : TA) : TI := fun σ H R => ta σ H fun vs H1 => ∃ a b c, vs = [.ref a, .ref b, .ref c] ∧ (∃ xs, SqL K H1 a xs) ∧ (∃ ys, SqL K H1 b ys) ∧ (∃ zs, SqL K H1 c zs) ∧ R (It3 K a b c) H1
section
variable {X : Cx} {elts : List Expr} {kk : Nat} {tp : Pos}
end
section
variable {K : PySem.W.Frag} {g : TG} {ti : TT} {te : TE} {σc : St} {H : Hp} {Q : VK}
end
end L2
namespace HT
open PySem PySem.Spec PyProof.Rows
section
open PySem.SeqAt
open PySem.AutoSeq1 (wpAny_loadPart')
open PySem.MeetsSeq PySem.MeetsSeq2 PySem.MeetsSeq3
end
section
variable {prog : Program} {w : World} {A : Around} {E : Value → Shared → Prop} {s : Shared}
end
end HT
namespace L2
open PySem PySem.Spec PyProof.Rows
end L2
namespace HT
open PySem PySem.Spec PyProof.Rows L2
section
open PySem.SeqAt
open PySem.AutoSeq1 (wpAny_loadPart')
open PySem.MeetsSeq PySem.MeetsSeq2 PySem.MeetsSeq3
theorem lexLt_drop {ns ms : List Int} {i : Nat} {x y : Int} (hx : ns[i]? = some x) (hy : ms[i]? = some y) : lexLt (ns.drop i) (ms.drop i) = if x = y then lexLt (ns.drop (i + 1)) (ms.drop (i + 1)) else decide (x < y) := by
 obtain ⟨a1, a2⟩ := List.getElem?_eq_some_iff.mp hx
 obtain ⟨b1, b2⟩ := List.getElem?_eq_some_iff.mp hy
 rw [List.drop_eq_getElem_cons a1, List.drop_eq_getElem_cons b1, lexLt_cons, a2, b2]
theorem lexLt_end {ns ms : List Int} {i : Nat} (h : ns[i]? = none ∨ ms[i]? = none) (hi : i ≤ ns.length ∧ i ≤ ms.length) : lexLt (ns.drop i) (ms.drop i) = decide (ns.length < ms.length) := by
 rcases h with h | h
 ·have h' := List.getElem?_eq_none_iff.mp h
  rw [List.drop_of_length_le h']
  by_cases q : ms.length ≤ i
  ·rw [List.drop_of_length_le q, lexLt_nil_nil, decide_eq_false (by lia)]
  ·rw [List.drop_eq_getElem_cons (by lia), lexLt_nil_cons, decide_eq_true (by lia)]
 ·have h' := List.getElem?_eq_none_iff.mp h
  rw [List.drop_of_length_le h']
  by_cases q : ns.length ≤ i
  ·rw [List.drop_of_length_le q, lexLt_nil_nil, decide_eq_false (by lia)]
  ·rw [List.drop_eq_getElem_cons (by lia), lexLt_cons_nil, decide_eq_false (by lia)]
theorem ints_get {vs : List Value} {ns : List Int} (h : IntsAre vs ns) : ∀ i : Nat, (∃ x t, ns[i]? = some x ∧ vs[i]? = some (Value.int x t)) ∨ (ns[i]? = none ∧ vs[i]? = none) := by
 induction h with
 | nil => intro i; exact .inr ⟨by simp, by simp⟩
 | cons a t _ ih =>
   intro i
   cases i with
   | zero => exact .inl ⟨a, t, rfl, rfl⟩
   | succ i => simpa using ih i
theorem lt_loop (l b : Addr) (xs ys : Array Value) (n n2 : Nat) (ns ms : List Int) (hi : IntsAre xs.toList ns) (hj : IntsAre ys.toList ms) : ∀ (k i : Nat), ns.length - i = k → i ≤ ns.length → i ≤ ms.length →
 Meets (Builtin.«list.__eq__.loop» { pos := [.ref l, .ref b, rawInt (i : Int), rawInt 0] }) fun _ R s => s.heap.get? l = some { cls := .type "list", data := .seq xs n } ∧ s.heap.get? b = some { cls := .type "list", data := .seq ys n2 } ∧ R (.ok (.ret (.bool (lexLt (ns.drop i) (ms.drop i))))) s := by
 intro k
 induction k with
 | zero =>
   intro i hk h1 h2 prog w A R s h
   obtain ⟨hp, g, d, tk, os⟩ := s
   obtain ⟨hl, hb, h⟩ := h
   have z1 : xs.size = ns.length := by rw [← hi.length]; simp
   have z2 : ys.size = ms.length := by rw [← hj.length]; simp
   have e1 : xs[i]? = none := by rw [Array.getElem?_eq_none_iff]; lia
   rw [lexLt_end (.inl (List.getElem?_eq_none_iff.mpr (by lia))) ⟨h1, h2⟩, ← z1, ← z2] at h
   wp_walk using wpAny_loadPart' hl, wpAny_loadPart' hb
   simp only [Int.toNat_natCast, e1]
   wp_walk using wpAny_loadPart' hl, wpAny_loadPart' hb
   exact h
 | succ k ih =>
   intro i hk h1 h2 prog w A R s h
   obtain ⟨hp, g, d, tk, os⟩ := s
   obtain ⟨hl, hb, h⟩ := h
   have z1 : xs.size = ns.length := by rw [← hi.length]; simp
   have z2 : ys.size = ms.length := by rw [← hj.length]; simp
   rcases ints_get hi i with ⟨x, tx, x1, x2⟩ | ⟨x1, x2⟩
   ·have e1 : xs[i]? = some (.int x tx) := by rw [← Array.getElem?_toList]; exact x2
    rcases ints_get hj i with ⟨y, ty, y1, y2⟩ | ⟨y1, y2⟩
    ·have e2 : ys[i]? = some (.int y ty) := by rw [← Array.getElem?_toList]; exact y2
     rw [lexLt_drop x1 y1] at h
     wp_walk using wpAny_loadPart' hl, wpAny_loadPart' hb
     simp only [Int.toNat_natCast, e1, e2]
     obtain ⟨e, he, hiff⟩ := eqAt_int A.in1 ⟨hp, g, d, tk, os⟩ x tx y ty
     refine wpAny_bind (he prog w _ _ ?_)
     cases e with
     | true =>
       rw [if_pos (hiff.mp rfl)] at h
       rw [if_pos rfl]
       have hm : i < ms.length := (List.getElem?_eq_some_iff.mp y1).1
       exact meets_again (S := fun _ R s => s.heap.get? l = some { cls := .type "list", data := .seq xs n } ∧ s.heap.get? b = some { cls := .type "list", data := .seq ys n2 } ∧ R (.ok (.ret (.bool (lexLt (ns.drop (i + 1)) (ms.drop (i + 1)))))) s) rfl plain_eq_loop entry_eq_loop (ih (i + 1) (by lia) (by lia) (by lia)) prog w A R ⟨hp, g, d, tk, os⟩ ⟨hl, hb, h⟩
     | false =>
       rw [if_neg (fun q => absurd (hiff.mpr q) Bool.false_ne_true)] at h
       rw [if_neg (by decide)]
       have hri := rcLt_int A.in1 ⟨hp, g, d, tk, os⟩ x tx y ty prog w
       wp_walk using wpAny_loadPart' hl, wpAny_loadPart' hb
       simp only [e1, e2]
       wp_walk using hri
       exact h
    ·have e2 : ys[i]? = none := by rw [← Array.getElem?_toList]; exact y2
     rw [lexLt_end (.inr y1) ⟨h1, h2⟩, ← z1, ← z2] at h
     wp_walk using wpAny_loadPart' hl, wpAny_loadPart' hb
     simp only [Int.toNat_natCast, e1, e2]
     wp_walk using wpAny_loadPart' hl, wpAny_loadPart' hb
     exact h
   ·exact absurd (List.getElem?_eq_none_iff.mp x1) (by lia)
theorem list_lt_ints (l b : Addr) (xs ys : Array Value) (n n2 : Nat) (ns ms : List Int) (hi : IntsAre xs.toList ns) (hj : IntsAre ys.toList ms) :
 Meets (Builtin.«list.__lt__» { pos := [.ref l, .ref b] }) fun _ R s => s.heap.get? l = some { cls := .type "list", data := .seq xs n } ∧ s.heap.get? b = some { cls := .type "list", data := .seq ys n2 } ∧ R (.ok (.ret (.bool (lexLt ns ms)))) s := by
 intro prog w A R s h
 have L := lt_loop l b xs ys n n2 ns ms hi hj ns.length 0 rfl (Nat.zero_le _) (Nat.zero_le _)
 obtain ⟨hp, g, d, tk, os⟩ := s
 have M := L prog w A R ⟨hp, g, d, tk, os⟩ h
 have C : codeAny (model prog w) A (Code.builtin "list.__eq__.loop" { pos := [.ref l, .ref b, rawInt ((0 : Nat) : Int), rawInt 0] }) R ⟨hp, g, d, tk, os⟩ := by
  refine codeAny_builtinAt entry_eq_loop (wpAt_of_wpAny ?_)
  rw [Around.under_plainId plain_eq_loop]
  exact M
 obtain ⟨hl, hb, h⟩ := h
 have f2 := AutoSeq1.sub_list_list
 wp_walk using wpAny_loadPart' hl, wpAny_loadPart' hb
 exact ⟨plainId_quiet plain_eq_loop _, C⟩
theorem lt_listInts {prog : Program} {w : World} {A : Around} {E : Value → Shared → Prop} {s : Shared} {l b : Addr} {xs ys : Array Value} {n n2 : Nat} {ns ms : List Int} {Q : Value → Shared → Prop} (hl : s.heap.get? l = some { cls := .type "list", data := .seq xs n }) (hb : s.heap.get? b = some { cls := .type "list", data := .seq ys n2 }) (hi : IntsAre xs.toList ns) (hj : IntsAre ys.toList ms)
 (hu : A.units < cLine) (h : Q (.bool (lexLt ns ms)) s) : wpAny (model prog w) A (richCompare .Lt (.ref l) (.ref b)) Q E s :=
 richCompare_meets_room (op := .Lt) ⟨_, hl, rfl⟩ ⟨_, hb, rfl⟩ PySem.F.slot_list_lt PySem.F.entry_list_lt (PySem.F.args_list_lt_2 _ _) (list_lt_ints l b xs ys n n2 ns ms hi hj)
  ⟨hl, hb, show Value.bool (lexLt ns ms) ≠ Value.notImplemented ∧ Q (.bool (lexLt ns ms)) s from ⟨(fun x => nomatch x), h⟩⟩ hu
def pairLt (p q : Int × List Int) : Bool := if p.1 = q.1 then lexLt p.2 q.2 else decide (p.1 < q.1)
theorem lexLt_self : ∀ ns : List Int, lexLt ns ns = false
 | [] => rfl
 | x :: ns => by rw [lexLt_cons, if_pos rfl]; exact lexLt_self ns
def PairAt (h : Heap) (p : Int × List Int) (v : Value) : Prop := ∃ (a l : Addr) (t : Tok) (vs : List Value) (n m : Nat) (dd : Option Addr) (sl : Array (Option Value)), v = .ref a ∧ h.get? a = some { cls := .type "tuple", dict := dd, data := .seq #[.int p.1 t, .ref l] n, slots := sl } ∧ h.get? l = some { cls := .type "list", data := .seq vs.toArray m } ∧ IntsAre vs p.2
theorem reads_list {h : Heap} {l : Addr} {vs : List Value} {m : Nat} {ns : List Int} (hl : h.get? l = some { cls := .type "list", data := .seq vs.toArray m }) (hi : IntsAre vs ns) : ∃ as, Reads h (.ref l) (pL ns) as := by
 have all : ∀ {vs : List Value} {ns : List Int}, IntsAre vs ns → ∃ as, ReadsAll h vs (ns.map PyData.int) as := by
  intro vs ns hi
  induction hi with
  | nil => exact ⟨_, ReadsAll.nil⟩
  | cons a t _ ih =>
    obtain ⟨bs, h2⟩ := ih
    exact ⟨_, ReadsAll.cons (Reads.int a t) h2⟩
 obtain ⟨as, ra⟩ := all hi
 exact ⟨_, reads_list_at hl rfl rfl (by simpa using ra)⟩
theorem pL_lay (ns : List Int) : (pL ns).canLay0 = true ∧ (pL ns).depth ≤ 1 := by
 have all : ∀ ns : List Int, PyData.canLayAll0 (ns.map PyData.int) = true ∧ PyData.depthAll (ns.map PyData.int) ≤ 0 := by
  intro ns
  induction ns with
  | nil => simp [PyData.canLayAll0, PyData.depthAll]
  | cons x ns ih =>
    simp only [List.map_cons, PyData.canLayAll0, PyData.depthAll, PyData.canLay0, PyData.depth, ih.1, Bool.and_self, true_and]
    have := ih.2
    lia
 have q := all ns
 have q2 := q.2
 show PyData.canLay0 (.list (ns.map PyData.int)) = true ∧ PyData.depth (.list (ns.map PyData.int)) ≤ 1
 simp only [PyData.canLay0, PyData.depth, q.1, true_and]
 lia
theorem rc_pair {prog : Program} {w : World} {A : Around} {E : Value → Shared → Prop} {s : Shared} {p q : Int × List Int} {u v : Value} {Q : Value → Shared → Prop} (hp : PairAt s.heap p u) (hq : PairAt s.heap q v) (hu : A.units + 20 < cLine) (h : Q (.bool (pairLt p q)) s) : wpAny (model prog w) A (richCompare .Lt u v) Q E s := by
 obtain ⟨a, l, t, vs, n, m, dd, sl, rfl, ha, hl, hi⟩ := hp
 obtain ⟨b, k, t2, us, n2, m2, dd2, sl2, rfl, hb, hk, hj⟩ := hq
 have M : Meets (Builtin.«tuple.__lt__» ⟨[.ref a, .ref b], []⟩) (fun A' R s' => s' = s ∧ A'.units = A.units ∧ R (.ok (.ret (.bool (pairLt p q)))) s) := by
  refine .of_wp fun prog w A' R s' h => ?_
  obtain ⟨rfl, hA, h⟩ := h
  obtain ⟨hp, g, d, tk, os⟩ := s'
  have f2 := AutoSeq1.sub_tuple_tuple
  obtain ⟨e, he, hiff⟩ := eqAt_int A'.in1 ⟨hp, g, d, tk, os⟩ p.1 t q.1 t2
  wp_walk using wpAny_loadPart' ha, wpAny_loadPart' hb, wpAny_forIn_list _ (fun rest b s' => b.1 = none ∧ s' = ⟨hp, g, d, tk, os⟩ ∧ (rest = [(.int p.1 t, .int q.1 t2), (.ref l, .ref k)] ∨ (rest = [(.ref l, .ref k)] ∧ p.1 = q.1) ∨ (rest = [] ∧ p.1 = q.1 ∧ p.2 = q.2))) _
  case turn =>
   rintro ⟨y, x⟩ rest b s' ⟨hb', rfl, hc⟩
   rcases hc with hc | ⟨hc, e1⟩ | ⟨hc, _⟩
   ·injection hc with hyx hrest
    injection hyx with hy hx
    subst hy hx hrest
    refine wpAny_bind (he prog w _ _ ?_)
    cases e with
    | true =>
      wp_walk
      exact ⟨rfl, rfl, .inr (.inl ⟨rfl, hiff.mp rfl⟩)⟩
    | false =>
      have hn : ¬ p.1 = q.1 := fun z => absurd (hiff.mpr z) Bool.false_ne_true
      have hri := rcLt_int A'.in1 ⟨hp, g, d, tk, os⟩ p.1 t q.1 t2 prog w
      wp_walk using hri
      exact ⟨_, rfl, by rw [pairLt, if_neg hn] at h; simpa using h⟩
   ·injection hc with hyx hrest
    injection hyx with hy hx
    subst hy hx hrest
    obtain ⟨as, r1⟩ := reads_list hl hi
    obtain ⟨bs, r2⟩ := reads_list hk hj
    refine wpAny_bind (SeqAt.eqBoolOverData prog w _ _ _ _ _ _ _ _ _ _ r1 r2 ?_ ?_ ?_ ?_)
    ·exact (pL_lay _).1
    ·exact (pL_lay _).1
    ·have := (pL_lay p.2).2
     show A'.units + 1 + min _ _ < cLine
     lia
    ·rw [eqv_pints]
     by_cases z : p.2 = q.2
     ·rw [decide_eq_true z]
      wp_walk
      exact ⟨rfl, rfl, .inr (.inr ⟨rfl, e1, z⟩)⟩
     ·rw [decide_eq_false z]
      have hri := fun E Q h => lt_listInts (prog := prog) (w := w) (A := A'.in1) (s := ⟨hp, g, d, tk, os⟩) (E := E) (Q := Q) hl hk (by simpa using hi) (by simpa using hj) (by show A'.units + 1 < cLine; lia) h
      wp_walk using hri
      exact ⟨_, rfl, by rw [pairLt, if_pos e1] at h; simpa using h⟩
   ·cases hc
  case fin =>
   rintro ⟨b1, b2⟩ s' ⟨hb', rfl, hc⟩
   simp only at hb'
   subst hb'
   rcases hc with hc | ⟨hc, _⟩ | ⟨_, e1, e2⟩
   ·cases hc
   ·cases hc
   ·wp_walk
    refine ⟨_, rfl, ?_⟩
    rw [pairLt, if_pos e1, e2, lexLt_self] at h
    simpa [Builtin.Tuple.tupleCompareSizes] using h
  case h =>
   exact ⟨rfl, rfl, .inl rfl⟩
 exact richCompare_meets_room (op := .Lt) ⟨_, ha, rfl⟩ ⟨_, hb, rfl⟩ PySem.F.slot_tuple_lt PySem.F.entry_tuple_lt (PySem.F.args_tuple_lt_2 _ _) M
  ⟨rfl, rfl, show Value.bool (pairLt p q) ≠ Value.notImplemented ∧ Q (.bool (pairLt p q)) s from ⟨(fun x => nomatch x), h⟩⟩ (by lia)
end
end HT
namespace HT
open PySem PySem.Spec PyProof.Rows L2
section
open PySem.SeqAt
open PySem.MeetsSeq PySem.MeetsSeq2 PySem.MeetsSeq3
def Kept (wr : List Addr) (s s' : Shared) : Prop := ∃ h' tk, s' = { s with heap := h', toks := tk } ∧ ∀ (b : Addr) (o : Obj), b ∉ wr → s.heap.get? b = some o → h'.get? b = some o
theorem Kept.mv {S : Addr} {wr : List Addr} {s₀ : Shared} {hp : Heap} {g : Array GenState} {d : Drawn} {tk0 tk : Nat} {os : OsState} (K : Kept (S :: wr) s₀ ⟨hp, g, d, tk0, os⟩) {h' : Heap} (hk : ∀ (b : Addr) (o : Obj), b ∉ wr → hp.get? b = some o → h'.get? b = some o) : Kept (S :: wr) s₀ ⟨h', g, d, tk, os⟩ := by
 obtain ⟨h1, t1, e, K⟩ := K
 cases e
 exact ⟨h', tk, rfl, fun b o z q => hk b o (fun y => z (List.mem_cons_of_mem _ y)) (K b o z q)⟩
theorem Kept.upd {S : Addr} {wr : List Addr} {s₀ : Shared} {hp : Heap} {g : Array GenState} {d : Drawn} {tk0 tk : Nat} {os : OsState} (K : Kept (S :: wr) s₀ ⟨hp, g, d, tk0, os⟩) {h' : Heap} (hk : ∀ (b : Addr) (o : Obj), b ∉ wr → hp.get? b = some o → h'.get? b = some o) {o : Obj} (hS : h'.get? S = some o) {f : Obj → Obj} : Kept (S :: wr) s₀ ⟨h'.update S f, g, d, tk, os⟩ := by
 obtain ⟨h1, t1, e, K⟩ := K
 cases e
 refine ⟨_, tk, rfl, fun b o z q => ?_⟩
 rw [Heap.get?_update_of_ne _ (fun y => z (by rw [y]; exact List.mem_cons_self))]
 exact hk b o (fun y => z (List.mem_cons_of_mem _ y)) (K b o z q)
local macro_rules | `(tactic| walk_at "minloop") => do
 let n := Lean.mkIdent ((Lean.Name.num `_private.PySem.Builtin.Builtins.W1All 0) ++ `PySem.Builtin.minMaxLoop)
 `(tactic| (delta Builtin.«min.loop»; delta $n:ident; dsimp only))
theorem min_loop {prog : Program} {w : World} {A : Around} {R : Result → Shared → Prop} {I S : Addr} {fp wr : List Addr} {n : Nat} {P : Nat → Value → Prop} {St : Nat → Heap → Prop} (W : Walks prog w A.in1 I fp wr n P St) (hS : S ∉ fp) {s₀ : Shared} (lt : Nat → Nat → Bool)
 (hc : ∀ (i j : Nat) (vi vj : Value) (s : Shared) (Q E : Value → Shared → Prop), P i vi → P j vj → Kept (S :: wr) s₀ s → Q (.bool (lt i j)) s → wpAny (model prog w) A.in1 (richCompare .Lt vi vj) Q E s) :
 ∀ (k j : Nat) (s : Shared) (vb : Value) (c : Nat), n - (j + 1) = k → j + 1 ≤ n → St (j + 1) s.heap → P (argBest lt j) vb → s.heap.get? S = some { cls := .type "list", data := .seq #[vb, vb] c } → Kept (S :: wr) s₀ s →
  (∀ (v : Value) (s' : Shared), P (argBest lt (n - 1)) v → Kept (S :: wr) s₀ s' → R (.ok (.ret v)) s') → codeAny (model prog w) A (Code.builtin "min.loop" { pos := [.ref I, .none, .ref S] }) R s := by
 intro k
 induction k with
 | zero =>
   intro j s vb c hk hj hSt hP hb hK h
   refine codeAny_builtin F.entry_min_loop ?_
   rw [Around.under_plainId F.plain_min_loop]
   have hn : n = j + 1 := by lia
   subst hn
   obtain ⟨hp, g, d, tk, os⟩ := s
   have hSw : S ∉ wr := fun z => hS (W.sub S z)
   walk_at "minloop"
   refine wpAny_bind (wpAny_seqItems hb rfl ?_)
   refine wpAny_bind (wpAny_tryCatch (W.done _ _ _ hSt fun h' tk' hk' => ?_))
   have hb' := hk' S _ hSw hb
   refine wpAny_bind (wpAny_updateSeq hb' rfl ?_)
   refine wpAny_bind (wpAny_letGo (wpAny_pure (h vb _ hP (hK.upd hk' hb'))))
 | succ k ih =>
   intro j s vb c hk hj hSt hP hb hK h
   refine codeAny_builtin F.entry_min_loop ?_
   rw [Around.under_plainId F.plain_min_loop]
   obtain ⟨hp, g, d, tk, os⟩ := s
   have hSw : S ∉ wr := fun z => hS (W.sub S z)
   walk_at "minloop"
   refine wpAny_bind (wpAny_seqItems hb rfl ?_)
   refine wpAny_bind (wpAny_tryCatch (W.item (j + 1) _ _ _ (by lia) hSt fun v h' tk' hP' hSt' hk' => ?_))
   have hb' := hk' S _ hSw hb
   have hK' := hK.mv hk' (tk := tk')
   refine wpAny_bind (wpAny_pure ?_)
   refine wpAny_bind (wpAny_tryCatch (wpAny_holding (wpAny_bind (hc (j + 1) (argBest lt j) v vb _ _ _ hP' hP hK' ?_))))
   refine wpAny_bind (wpAny_holding (wpAny_truthy_bool ?_))
   refine wpAny_bind (wpAny_letGo (wpAny_pure ?_))
   have hq : (Code.builtin "min.loop" { pos := [.ref I, .none, .ref S] }).quiet = true := plainId_quiet F.plain_min_loop _
   by_cases e : lt (j + 1) (argBest lt j) = true
   ·rw [if_pos e]
    refine wpAny_bind (wpAny_updateSeq hb' rfl ?_)
    refine wpAny_bind (wpAny_letGo (wpAny_pure ⟨hq, ih (j + 1) _ v c (by lia) (by lia) (W.frame _ _ _ hSt' fun b hbf o hbo => ?_) (by rw [show argBest lt (j + 1) = if lt (j + 1) (argBest lt j) then j + 1 else argBest lt j from rfl, if_pos e]; exact hP') ?_ (hK.upd hk' hb') h⟩))
    ·rw [Heap.get?_update_of_ne _ (fun z => hS (by rw [z]; exact hbf))]
     exact hbo
    ·exact Heap.get?_update_self _ hb' rfl
   ·rw [if_neg e]
    refine wpAny_bind (wpAny_letGo (wpAny_pure ⟨hq, ih (j + 1) _ vb c (by lia) (by lia) hSt' (by rw [show argBest lt (j + 1) = if lt (j + 1) (argBest lt j) then j + 1 else argBest lt j from rfl, if_neg e]; exact hP) hb' hK' h⟩))
theorem min_first {prog : Program} {w : World} {A : Around} {R : Result → Shared → Prop} {I S : Addr} {fp wr : List Addr} {n : Nat} {P : Nat → Value → Prop} {St : Nat → Heap → Prop} (W : Walks prog w A.in1 I fp wr n P St) (hS : S ∉ fp) {s : Shared} (lt : Nat → Nat → Bool)
 (hc : ∀ (i j : Nat) (vi vj : Value) (s' : Shared) (Q E : Value → Shared → Prop), P i vi → P j vj → Kept (S :: wr) s s' → Q (.bool (lt i j)) s' → wpAny (model prog w) A.in1 (richCompare .Lt vi vj) Q E s') {c : Nat} (hn : 0 < n) (hSt : St 0 s.heap) (hb : s.heap.get? S = some { cls := .type "list", data := .seq #[] c })
 (h : ∀ (v : Value) (s' : Shared), P (argBest lt (n - 1)) v → Kept (S :: wr) s s' → R (.ok (.ret v)) s') : codeAny (model prog w) A (Code.builtin "min.loop" { pos := [.ref I, .none, .ref S] }) R s := by
 refine codeAny_builtin F.entry_min_loop ?_
 rw [Around.under_plainId F.plain_min_loop]
 obtain ⟨hp, g, d, tk, os⟩ := s
 have hSw : S ∉ wr := fun z => hS (W.sub S z)
 have hK : Kept (S :: wr) ⟨hp, g, d, tk, os⟩ ⟨hp, g, d, tk, os⟩ := ⟨_, _, rfl, fun _ _ _ q => q⟩
 walk_at "minloop"
 refine wpAny_bind (wpAny_seqItems hb rfl ?_)
 refine wpAny_bind (wpAny_tryCatch (W.item 0 _ _ _ hn hSt fun v h' tk' hP' hSt' hk' => ?_))
 have hb' := hk' S _ hSw hb
 refine wpAny_bind (wpAny_pure ?_)
 refine wpAny_bind (wpAny_updateSeq hb' rfl ?_)
 have hq : (Code.builtin "min.loop" { pos := [.ref I, .none, .ref S] }).quiet = true := plainId_quiet F.plain_min_loop _
 obtain ⟨c', hc'⟩ : ∃ c', (h'.update S (Obj.mapSeq fun _ => #[v, v])).get? S = some { cls := .type "list", data := .seq #[v, v] c' } := ⟨_, Heap.get?_update_self _ hb' rfl⟩
 refine wpAny_pure ⟨hq, min_loop W hS lt hc (n - 1) 0 _ v c' (by lia) (by lia) (W.frame _ _ _ hSt' fun b hbf o hbo => ?_) hP' hc' (hK.upd hk' hb') h⟩
 rw [Heap.get?_update_of_ne _ (fun z => hS (by rw [z]; exact hbf))]
 exact hbo
local macro_rules | `(tactic| walk_at "minmax") => do
 let n := Lean.mkIdent ((Lean.Name.num `_private.PySem.Builtin.Builtins.W1All 0) ++ `PySem.Builtin.minMax)
 `(tactic| (delta Builtin.min; delta $n:ident; dsimp only))
theorem min_list {prog : Program} {w : World} {A : Around} {E : Value → Shared → Prop} {s : Shared} {l : Addr} {vs : List Value} {Q : Value → Shared → Prop} (lt : Nat → Nat → Bool) (hh : A.handled = none) (hl : s.heap.IsList l vs.toArray) (hn : 0 < vs.length)
 (hc : ∀ (prog : Program) (w : World) (i j : Nat) (vi vj : Value) (h' : Heap) (tk : Nat) (Q E : Value → Shared → Prop), vs[i]? = some vi → vs[j]? = some vj → (∀ b o, s.heap.get? b = some o → h'.get? b = some o) → Q (.bool (lt i j)) { s with heap := h', toks := tk } → wpAny (model prog w) A.in1 (richCompare .Lt vi vj) Q E { s with heap := h', toks := tk })
 (h : ∀ (v : Value) (h' : Heap) (tk : Nat), vs[argBest lt (vs.length - 1)]? = some v → (∀ b o, s.heap.get? b = some o → h'.get? b = some o) → Q v { s with heap := h', toks := tk }) : wpAny (model prog w) A (call (.builtin "min") [.ref l]) Q E s := by
 obtain ⟨hp, g, d, tk, os⟩ := s
 have M : Meets (Builtin.min { pos := [.ref l] }) (fun A' R s' => s' = ⟨hp, g, d, tk, os⟩ ∧ A' = A ∧ ∀ (v : Value) (h' : Heap) (tk : Nat), vs[argBest lt (vs.length - 1)]? = some v → (∀ b o, hp.get? b = some o → h'.get? b = some o) → R (.ok (.ret v)) ⟨h', g, d, tk, os⟩) := by
  intro prog w A' R s' h
  obtain ⟨rfl, rfl, h⟩ := h
  walk_at "minmax"
  rw [if_neg (by simp)]
  wp_walk using fun (Q : Value → Shared → Prop) (E : Value → Shared → Prop) => wpAny_pyIter_list (prog := prog) (w := w) (A := A'.in1) (Q := Q) (E := E) hl
  have hlt : l < hp.objs.size := by obtain ⟨o, ho, _⟩ := hl; exact Heap.lt_size ho
  have hlI : l ≠ hp.objs.size := Nat.ne_of_lt hlt
  have hsz : (hp.push { cls := .type "list_iterator", data := .fields #[.ref l, .int 0 0] }).objs.size = hp.objs.size + 1 := by simp [Heap.push]
  have old : ∀ b o, hp.get? b = some o → ((hp.push { cls := .type "list_iterator", data := .fields #[.ref l, .int 0 0] }).push { cls := .type "list", data := .seq #[] }).get? b = some o := fun b o z => Heap.get?_push_of_some _ (Heap.get?_push_of_some _ z)
  have hkp : ∀ {s' : Shared}, Kept [(hp.push { cls := .type "list_iterator", data := .fields #[.ref l, .int 0 0] }).objs.size, hp.objs.size] ⟨(hp.push { cls := .type "list_iterator", data := .fields #[.ref l, .int 0 0] }).push { cls := .type "list", data := .seq #[] }, g, d, tk, os⟩ s' → ∃ h' tk', s' = ⟨h', g, d, tk', os⟩ ∧ ∀ b o, hp.get? b = some o → h'.get? b = some o := fun {s'} K => by
   obtain ⟨h', tk', rfl, q⟩ := K
   refine ⟨h', tk', rfl, fun b o z => q b o (fun m => ?_) (old b o z)⟩
   have hb : (show Nat from b) < hp.objs.size := Heap.lt_size z
   rw [hsz] at m
   rcases List.mem_cons.mp m with e | m
   ·have e' : (show Nat from b) = hp.objs.size + 1 := e
    lia
   ·have e' : (show Nat from b) = hp.objs.size := List.mem_singleton.mp m
    lia
  refine ⟨plainId_quiet F.plain_min_loop _, ?_⟩
  refine min_first (Walks.list (A := A'.in1) hh hp.objs.size l hlI vs.toArray) ?_ lt ?_ (by simpa using hn) ?_ (Heap.get?_push_size _ rfl) ?_
  ·intro m
   rw [hsz] at m
   have hb : (show Nat from l) < hp.objs.size := hlt
   rcases List.mem_cons.mp m with e | m
   ·have e' : hp.objs.size + 1 = hp.objs.size := e
    lia
   ·have e' : hp.objs.size + 1 = (show Nat from l) := List.mem_singleton.mp m
    lia
  ·intro i j vi vj s' Q E h1 h2 K q
   obtain ⟨h', tk', rfl, kp⟩ := hkp K
   exact hc prog w i j vi vj h' tk' Q E (by simpa using h1) (by simpa using h2) kp q
  ·exact ⟨⟨_, Heap.get?_push_of_some _ (Heap.get?_push_size _ rfl), rfl, rfl⟩, (hl.push _).push _⟩
  ·intro v s' h1 K
   obtain ⟨h', tk', rfl, kp⟩ := hkp K
   exact h v h' tk' (by simpa using h1) kp
 exact call_function_meets rfl F.plain_min F.entry_min (F.args_min1 _) M ⟨rfl, rfl, fun v h' tk' hv hk => h v h' tk' hv hk⟩
end
end HT
namespace HT
theorem lexLt_trans : ∀ {a b c : List Int}, lexLt a b = true → lexLt b c = true → lexLt a c = true
 | [], _ :: _, _ :: _, _, _ => rfl
 | x :: a, y :: b, z :: c, h1, h2 => by
   rw [lexLt_cons] at h1 h2 ⊢
   by_cases e1 : x = y
   ·rw [if_pos e1] at h1
    subst e1
    by_cases e2 : x = z
    ·rw [if_pos e2] at h2 ⊢
     exact lexLt_trans h1 h2
    ·rw [if_neg e2] at h2 ⊢
     exact h2
   ·rw [if_neg e1] at h1
    have h1' := of_decide_eq_true h1
    by_cases e2 : y = z
    ·subst e2
     rw [if_neg e1]
     exact h1
    ·rw [if_neg e2] at h2
     have h2' := of_decide_eq_true h2
     rw [if_neg (by lia)]
     exact decide_eq_true (by lia)
 | [], [], _, h1, _ => by simp [lexLt] at h1
 | _ :: _, [], _, h1, _ => by simp [lexLt] at h1
 | [], _ :: _, [], _, h2 => by simp [lexLt] at h2
 | _ :: _, _ :: _, [], _, h2 => by simp [lexLt] at h2
theorem lexLt_tot : ∀ {a b : List Int}, lexLt a b = false → lexLt b a = false → a = b
 | [], [], _, _ => rfl
 | [], _ :: _, h, _ => by simp [lexLt] at h
 | _ :: _, [], _, h => by simp [lexLt] at h
 | x :: a, y :: b, h1, h2 => by
   rw [lexLt_cons] at h1 h2
   by_cases e : x = y
   ·rw [if_pos e] at h1
    rw [if_pos e.symm] at h2
    rw [e, lexLt_tot h1 h2]
   ·rw [if_neg e] at h1
    rw [if_neg (Ne.symm e)] at h2
    have a1 := of_decide_eq_false h1
    have a2 := of_decide_eq_false h2
    lia
theorem pairLt_trans {p q r : Int × List Int} (h1 : pairLt p q = true) (h2 : pairLt q r = true) : pairLt p r = true := by
 unfold pairLt at *
 by_cases e1 : p.1 = q.1
 ·rw [if_pos e1] at h1
  by_cases e2 : q.1 = r.1
  ·rw [if_pos e2] at h2
   rw [if_pos (e1.trans e2)]
   exact lexLt_trans h1 h2
  ·rw [if_neg e2] at h2
   rw [if_neg (by lia)]
   rw [e1]; exact h2
 ·rw [if_neg e1] at h1
  have h1' := of_decide_eq_true h1
  by_cases e2 : q.1 = r.1
  ·rw [if_neg (by lia)]
   rw [← e2]; exact h1
  ·rw [if_neg e2] at h2
   have h2' := of_decide_eq_true h2
   rw [if_neg (by lia)]
   exact decide_eq_true (by lia)
theorem pairLt_self (p : Int × List Int) : pairLt p p = false := by unfold pairLt; rw [if_pos rfl]; exact lexLt_self _
open PySem in
theorem argBest_ord {lt : Nat → Nat → Bool} (irr : ∀ i, lt i i = false) (tr : ∀ i j k, lt i j = true → lt j k = true → lt i k = true) : ∀ k, argBest lt k ≤ k ∧ ∀ j, j ≤ k → lt j (argBest lt k) = false
 | 0 => ⟨Nat.le_refl _, fun j hj => by obtain rfl : j = 0 := by lia
                                       exact irr 0⟩
 | k + 1 => by
   obtain ⟨h1, h2⟩ := argBest_ord irr tr k
   rw [show argBest lt (k + 1) = if lt (k + 1) (argBest lt k) then k + 1 else argBest lt k from rfl]
   by_cases e : lt (k + 1) (argBest lt k) = true
   ·rw [if_pos e]
    refine ⟨Nat.le_refl _, fun j hj => ?_⟩
    by_cases q : j = k + 1
    ·rw [q]; exact irr _
    ·cases z : lt j (k + 1) with
     | false => rfl
     | true => rw [← h2 j (by lia), tr j (k + 1) _ z e]
   ·rw [if_neg e]
    refine ⟨by lia, fun j hj => ?_⟩
    by_cases q : j = k + 1
    ·rw [q]; simpa using e
    ·exact h2 j (by lia)
end HT
namespace L2
open PySem PySem.Spec PyProof.Rows
def PairH (H : Hp) (t : Addr) (q : Int × List Int) : Prop := ∃ l, H t = some (.tup [.int q.1, .ref l]) ∧ H l = some (.lst (iL q.2))
def rMinP (K : PySem.W.Frag) : List V → Hp → VK → Prop := fun xs H Q => ∃ (p : Addr) (ts : List Addr) (ps : List (Int × List Int)), xs = [.ref p] ∧ H p = some (.lst (ts.map V.ref)) ∧ Paired (PairH H) ts ps ∧ 0 < ps.length ∧
 ∀ (i : Nat) (t : Addr) (q : Int × List Int), ts[i]? = some t → ps[i]? = some q → (∀ r ∈ ps, HT.pairLt r q = false) → Q (.ref t) H
section
variable {X : Cx}
theorem pair_at {pins : List (Addr × Obj)} {σ : St} {H : Hp} {s : Shared} (I : Inv X pins σ H s) {t : Addr} {q : Int × List Int} (h : PairH H t q) : HT.PairAt s.heap q (.ref t) := by
 obtain ⟨l, h1, h2⟩ := h
 obtain ⟨its, r, pt, _⟩ := I.tuple (SqT.of (K := X.K) h1)
 obtain ⟨⟨cls, dd, data, sl⟩, ho, hc, n, hd⟩ := id pt
 simp only at hc hd
 subst hc hd
 obtain ⟨_, its2, m, r2, _, e2⟩ := I.lstM h2
 cases r with
 | cons a1 rr =>
   obtain ⟨u, rfl, ru⟩ := (show Vals [V.ref l] _ from rr).one
   obtain ⟨tk, rfl⟩ := a1
   cases ru
   exact ⟨t, l, tk, its2, n, m, dd, sl, rfl, ho, e2, by simpa using intsAre_of r2⟩
theorem HT_pair_more {h h' : Heap} {q : Int × List Int} {v : Value} (p : HT.PairAt h q v) (hk : ∀ b o, h.get? b = some o → h'.get? b = some o) : HT.PairAt h' q v := by
 obtain ⟨a, l, t, vs, n, m, dd, sl, e, h1, h2, h3⟩ := p
 exact ⟨a, l, t, vs, n, m, dd, sl, e, hk _ _ h1, hk _ _ h2, h3⟩
theorem call_minPK (K : PySem.W.Frag) (hu : X.A.units + 64 < cLine) (hc : X.calm = true) : CallR X (.builtin "min") (rMinP K) := by
 walk_at "z5"
 obtain ⟨p, ts, ps, rfl, hp, hP, hn, q⟩ := h
 obtain ⟨u, rfl, ru⟩ := vals1 r
 cases ru
 obtain ⟨z, its, n, rv, hl, e⟩ := I.lstM hp
 have htl : ts.length = ps.length := hP.length
 have hil : its.length = ps.length := by rw [← hl]; simpa using htl
 have at_ : ∀ (i : Nat) (v : Value), its[i]? = some v → ∃ t w, v = .ref t ∧ ts[i]? = some t ∧ ps[i]? = some w ∧ HT.PairAt s.heap w v := by
  have go : ∀ {ts : List Addr} {ps : List (Int × List Int)} {its : List Value} (i : Nat) (v : Value), Paired (PairH H) ts ps → Vals (ts.map V.ref) its → its[i]? = some v → ∃ t w, v = .ref t ∧ ts[i]? = some t ∧ ps[i]? = some w ∧ HT.PairAt s.heap w v := by
   intro ts ps its i v P
   induction P generalizing its i with
   | nil => intro r e; cases r; simp at e
   | @cons t w ts ps h _ ih =>
     intro r e
     cases r with
     | cons r1 rr =>
       cases r1
       cases i with
       | zero => cases e; exact ⟨t, w, rfl, rfl, rfl, pair_at I h⟩
       | succ i => simpa using ih i rr (by simpa using e)
  exact fun i v e => go i v hP rv e
 refine HT.min_list (vs := its) (fun i j => match ps[i]?, ps[j]? with | some a, some b => HT.pairLt a b | _, _ => false) (I.ok.hd hc) ⟨_, e, rfl, n, rfl⟩ (by lia) ?_ ?_
 ·intro prog w i j vi vj h' tk Q' E' e1 e2 hk q'
  obtain ⟨t1, w1, rfl, _, f1, p1⟩ := at_ i vi e1
  obtain ⟨t2, w2, rfl, _, f2, p2⟩ := at_ j vj e2
  simp only [f1, f2] at q'
  exact HT.rc_pair (HT_pair_more p1 hk) (HT_pair_more p2 hk) (by show X.A.units + 1 + 20 < cLine; lia) q'
 ·intro v h' tk e1 hk
  obtain ⟨t1, w1, rfl, g1, f1, p1⟩ := at_ _ v e1
  have ord := HT.argBest_ord (lt := fun i j => match ps[i]?, ps[j]? with | some a, some b => HT.pairLt a b | _, _ => false) (fun i => by cases ps[i]? <;> simp [HT.pairLt_self]) (fun i j k a b => by
   revert a b
   cases ps[i]? <;> cases ps[j]? <;> cases ps[k]? <;> simp
   exact HT.pairLt_trans) (its.length - 1)
  refine ⟨.ref t1, H, I.kept (t' := tk) hk, rfl, q _ t1 w1 g1 f1 fun r hr => ?_⟩
  obtain ⟨j, hj, rfl⟩ := List.getElem_of_mem hr
  have := ord.2 j (by lia)
  simp only [List.getElem?_eq_getElem hj, f1] at this
  exact this
end
end L2
namespace HT
theorem pairLt_tot {p q : Int × List Int} (h1 : pairLt p q = false) (h2 : pairLt q p = false) : p = q := by
 unfold pairLt at *
 by_cases e : p.1 = q.1
 ·rw [if_pos e] at h1
  rw [if_pos e.symm] at h2
  exact Prod.ext e (lexLt_tot h1 h2)
 ·rw [if_neg e] at h1
  rw [if_neg (Ne.symm e)] at h2
  have a1 := of_decide_eq_false h1
  have a2 := of_decide_eq_false h2
  lia
theorem pairLe_trans {p q r : Int × List Int} (h1 : pairLt p q = false) (h2 : pairLt q r = false) : pairLt p r = false := by
 cases z : pairLt p r with
 | false => rfl
 | true =>
   cases y : pairLt q p with
   | true => rw [pairLt_trans y z] at h2; cases h2
   | false => rw [pairLt_tot h1 y, h2] at z; cases z
theorem pairLt_cons {c x : Int} {p q : Int × List Int} (h : pairLt p q = false) : pairLt (c + p.1, x :: p.2) (c + q.1, x :: q.2) = false := by
 unfold pairLt at *
 by_cases e : p.1 = q.1
 ·rw [if_pos e] at h
  rw [if_pos (by simp only; lia), lexLt_cons, if_pos rfl]
  exact h
 ·rw [if_neg e] at h
  rw [if_neg (by simp only; lia)]
  have := of_decide_eq_false h
  exact decide_eq_false (by simp only; lia)
end HT
namespace M
open HT
def wayO (D : Int → Int → Int) : Int → List Int → Int
 | _, [] => 0
 | last, x :: r => D last x + wayO D x r
def IsBest (D : Int → Int → Int) (last : Int) (nums : List Int) (p : Int × List Int) : Prop := p.2.Perm nums ∧ p.1 = wayO D last p.2 ∧ ∀ o : List Int, o.Perm nums → pairLt (wayO D last o, o) p = false
theorem IsBest.nil {D : Int → Int → Int} {last : Int} : IsBest D last [] (0, []) := ⟨.nil, rfl, fun o h => by rw [List.Perm.eq_nil h]; exact pairLt_self _⟩
def less (nums : List Int) (x : Int) : List Int := nums.filter fun y => decide (y ≠ x)
theorem perm_less {nums : List Int} (nd : nums.Nodup) {x : Int} (hx : x ∈ nums) : (x :: less nums x).Perm nums := by
 have e : less nums x = nums.erase x := by
  rw [List.Nodup.erase_eq_filter nd]
  refine List.filter_congr fun y _ => ?_
  rw [Bool.eq_iff_iff]
  simp
 rw [e]
 exact (List.perm_cons_erase hx).symm
theorem less_length {nums : List Int} (nd : nums.Nodup) {x : Int} (hx : x ∈ nums) : (less nums x).length + 1 = nums.length := by
 have := (perm_less nd hx).length_eq
 simpa using this
theorem IsBest.step {D : Int → Int → Int} {last : Int} {nums : List Int} (nd : nums.Nodup) {ps : List (Int × List Int)} (hps : ∀ p ∈ ps, ∃ x ∈ nums, ∃ q, IsBest D x (less nums x) q ∧ p = (D last x + q.1, x :: q.2)) (hall : ∀ x ∈ nums, ∃ q, IsBest D x (less nums x) q ∧ (D last x + q.1, x :: q.2) ∈ ps)
 {p : Int × List Int} (hp : p ∈ ps) (hm : ∀ r ∈ ps, pairLt r p = false) (hne : nums ≠ []) : IsBest D last nums p := by
 obtain ⟨x, hx, q, hq, rfl⟩ := hps p hp
 refine ⟨(hq.1.cons x).trans (perm_less nd hx), by simp only [wayO]; rw [hq.2.1], fun o ho => ?_⟩
 cases o with
 | nil => exact absurd (List.Perm.nil_eq ho).symm hne
 | cons y o =>
   have hy : y ∈ nums := ho.subset List.mem_cons_self
   obtain ⟨z, hz, hzm⟩ := hall y hy
   have hp2 : o.Perm (less nums y) := (ho.trans (perm_less nd hy).symm).cons_inv
   exact pairLe_trans (pairLt_cons (c := D last y) (x := y) (hz.2.2 o hp2)) (hm _ hzm)
def upto (n : Nat) : List Int := (List.range n).map fun i : Nat => (i : Int)
theorem upto_length (n : Nat) : (upto n).length = n := by simp [upto]
theorem mem_upto {n : Nat} {x : Int} : x ∈ upto n ↔ 0 ≤ x ∧ x < n := by
 unfold upto
 rw [List.mem_map]
 constructor
 ·rintro ⟨i, hi, rfl⟩
  have := List.mem_range.mp hi
  lia
 ·intro h
  exact ⟨x.toNat, List.mem_range.mpr (by lia), by lia⟩
theorem upto_nodup (n : Nat) : (upto n).Nodup := by
 unfold upto
 refine List.pairwise_map.mpr (List.nodup_range.imp fun {a b} h e => h (by lia))
end M
namespace L2
open PySem PySem.Spec PyProof.Rows
abbrev IsZipK (h : Heap) (z TI TO T : Addr) (b : Bool) : Prop :=
 h.get? z = some { cls := .type "zip", dict := none, data := .fields #[rawInt T, .bool b, .bool false, .ref TI, .ref TO], slots := #[] }
section
variable {prog : Program} {w : World} {A : Around} {E : Value → Shared → Prop} {s : Shared}
theorem wpAny_loadIfAlive {M : Model} {a : Addr} {Q : Option Obj → Shared → Prop} (h : Q (s.heap.get? a) s) : wpAny M A (loadIfAlive a) Q E s := fun Γ p hΓ => by
 unfold loadIfAlive
 rw [Sem.wp_loadIfAlive]
 exact wpAny_pure (M := M) (A := A) (E := E) h Γ p hΓ
theorem owned_kept {z TI TO T : Addr} {b : Bool} {oT : Obj} {Q : Bool → Shared → Prop} (hz : IsZipK s.heap z TI TO T b) (hT : s.heap.get? T = some oT)
 (hQ : ∀ h', IsZipK h' z TI TO T true → Heap.SameBut z s.heap h' → Q false { s with heap := h' }) : wpAny (model prog w) A (Builtin.SmallTypes.ownedTupleIsFree (.ref z)) Q E s := by
 unfold Builtin.SmallTypes.ownedTupleIsFree
 refine wpAny_bind (wpAny_field hz rfl (x := rawInt T) rfl ?_)
 show wpAny _ _ (loadIfAlive ((T : Int).toNat) >>= _) _ _ _
 rw [Int.toNat_natCast]
 refine wpAny_bind (wpAny_loadIfAlive ?_)
 rw [hT]
 simp only [Option.isNone_some, Bool.false_eq_true, if_false]
 refine wpAny_bind (wpAny_field hz rfl (x := .bool b) rfl ?_)
 cases b with
 | true =>
   simp only [bne_self_eq_false, Bool.false_eq_true, if_false]
   exact wpAny_pure (hQ _ hz (Heap.SameBut.refl ..))
 | false =>
   have : (Value.bool false != Value.bool true) = true := by decide
   simp only [this, if_true]
   refine wpAny_bind (wpAny_setField_rec hz (by simp) fun h' hz' hs' => ?_)
   exact wpAny_pure (hQ h' hz' hs')
theorem zip_next_kept {z TI TO i1 i2 l1 l2 T : Addr} {b : Bool} {oT : Obj} {k1 k2 : Nat} {xs ys : Array Value} {x y : Value} {Q : Value → Shared → Prop} (D : ZipApart z TI TO i1 i2 l1 l2)
 (hz : IsZipK s.heap z TI TO T b) (hT : s.heap.get? T = some oT) (hTI : IsPair s.heap TI (.ref i1) (.ref i2))
 (h1 : s.heap.IsListIter i1 l1 k1) (h2 : s.heap.IsListIter i2 l2 k2) (hl1 : s.heap.IsList l1 xs) (hl2 : s.heap.IsList l2 ys) (hx : xs[k1]? = some x) (hy : ys[k2]? = some y)
 (hQ : ∀ h', IsZipK h' z TI TO T true → h'.IsListIter i1 l1 (k1 + 1) → h'.IsListIter i2 l2 (k2 + 1) → IsPair h' s.heap.objs.size x y → h'.objs.size = s.heap.objs.size + 1 →
  (∀ c o, c ≠ z → c ≠ i1 → c ≠ i2 → s.heap.get? c = some o → h'.get? c = some o) → Q (.ref s.heap.objs.size) { s with heap := h' }) :
 wpAny (model prog w) A (Builtin.«zip.__next__» ⟨[.ref z], []⟩) (fun fin s' => ∃ v, fin = .done (.ret v) ∧ Q v s') E s := by
 show wpAny _ _ (field (.ref z) 2 >>= _) _ _ _
 refine wpAny_bind (wpAny_field hz rfl (x := .bool false) rfl ?_)
 show wpAny _ _ (field (.ref z) 3 >>= _) _ _ _
 refine wpAny_bind (wpAny_field hz rfl (x := .ref TI) rfl ?_)
 refine wpAny_bind (wpAny_seqItems hTI rfl ?_)
 show wpAny _ _ (Builtin.SmallTypes.ownedTupleIsFree (.ref z) >>= _) _ _ _
 refine wpAny_bind (owned_kept hz hT fun h₁ hz₁ hs₁ => ?_)
 simp only [Bool.false_eq_true, if_false]
 rw [← Array.forIn_toList]
 simp only [List.forIn_cons, List.forIn_nil]
 refine wpAny_bind (wpAny_bind (wpAny_bind (wpAny_holding ?_)))
 show wpAny _ _ (Builtin.SmallTypes.nextOf (.ref i1) >>= _) _ _ _
 refine wpAny_bind (wpAny_nextOf_list_item (h1.extBut hs₁.extBut D.i1z) (hl1.extBut hs₁.extBut D.l1z) hx fun h₂ h1₂ hs₂ => wpAny_pure ?_)
 refine wpAny_pure ?_
 refine wpAny_bind (wpAny_bind (wpAny_holding ?_))
 show wpAny _ _ (Builtin.SmallTypes.nextOf (.ref i2) >>= _) _ _ _
 refine wpAny_bind (wpAny_nextOf_list_item ((h2.extBut hs₁.extBut D.i2z).extBut hs₂.extBut D.i12.symm) ((hl2.extBut hs₁.extBut D.l2z).extBut hs₂.extBut D.l2i1) hy fun h₃ h2₃ hs₃ => wpAny_pure ?_)
 refine wpAny_pure (wpAny_pure ?_)
 refine wpAny_bind (wpAny_newTuple ?_ (by show 2 ≤ sizeLine; exact szl (by decide)))
 have hsz : h₃.objs.size = s.heap.objs.size := by rw [hs₃.1, hs₂.1, hs₁.1]
 have hz₃ : IsZipK h₃ z TI TO T true := hs₃.extBut _ _ D.i2z.symm (hs₂.extBut _ _ D.i1z.symm hz₁)
 have hk₃ : ∀ c o, c ≠ z → c ≠ i1 → c ≠ i2 → s.heap.get? c = some o → h₃.get? c = some o := fun c o c1 c3 c4 e => hs₃.extBut _ _ c4 (hs₂.extBut _ _ c3 (hs₁.extBut _ _ c1 e))
 have h1₃ : h₃.IsListIter i1 l1 (k1 + 1) := h1₂.extBut hs₃.extBut D.i12
 refine wpAny_pure ⟨_, rfl, ?_⟩
 show Q (.ref h₃.objs.size) _
 rw [hsz]
 refine hQ _ (Heap.get?_push_of_some _ hz₃) ?_ ?_ ?_ ?_ fun c o c1 c2 c3 e => Heap.get?_push_of_some _ (hk₃ c o c1 c2 c3 e)
 ·obtain ⟨o, e, r⟩ := h1₃; exact ⟨o, Heap.get?_push_of_some _ e, r⟩
 ·obtain ⟨o, e, r⟩ := h2₃; exact ⟨o, Heap.get?_push_of_some _ e, r⟩
 ·rw [← hsz]; exact Heap.get?_push_size _ rfl
 ·rw [Heap.size_push, hsz]
theorem zip_next_kend {z TI TO i1 i2 l1 l2 T : Addr} {b : Bool} {oT : Obj} {k1 k2 : Nat} {xs ys : Array Value} {Q : Fin → Shared → Prop} (hh : A.handled = none) (D : ZipApart z TI TO i1 i2 l1 l2)
 (hz : IsZipK s.heap z TI TO T b) (hT : s.heap.get? T = some oT) (hTI : IsPair s.heap TI (.ref i1) (.ref i2))
 (h1 : s.heap.IsListIter i1 l1 k1) (h2 : s.heap.IsListIter i2 l2 k2) (hl1 : s.heap.IsList l1 xs) (hl2 : s.heap.IsList l2 ys) (hend : xs[k1]? = none ∨ ys[k2]? = none)
 (hE : ∀ h' e, (∀ c o, c ≠ z → c ≠ i1 → c ≠ i2 → s.heap.get? c = some o → h'.get? c = some o) → (∃ o, h'.get? e = some o ∧ o.cls = .type "StopIteration") → E (.ref e) { s with heap := h' }) :
 wpAny (model prog w) A (Builtin.«zip.__next__» ⟨[.ref z], []⟩) Q E s := by
 show wpAny _ _ (field (.ref z) 2 >>= _) _ _ _
 refine wpAny_bind (wpAny_field hz rfl (x := .bool false) rfl ?_)
 show wpAny _ _ (field (.ref z) 3 >>= _) _ _ _
 refine wpAny_bind (wpAny_field hz rfl (x := .ref TI) rfl ?_)
 refine wpAny_bind (wpAny_seqItems hTI rfl ?_)
 show wpAny _ _ (Builtin.SmallTypes.ownedTupleIsFree (.ref z) >>= _) _ _ _
 refine wpAny_bind (owned_kept hz hT fun h₁ hz₁ hs₁ => ?_)
 simp only [Bool.false_eq_true, if_false]
 rw [← Array.forIn_toList]
 simp only [List.forIn_cons, List.forIn_nil]
 refine wpAny_bind (wpAny_bind (wpAny_bind (wpAny_holding ?_)))
 show wpAny _ _ (Builtin.SmallTypes.nextOf (.ref i1) >>= _) _ _ _
 cases hx : xs[k1]? with
 | none =>
   refine wpAny_bind (wpAny_nextOf_list_end hh (h1.extBut hs₁.extBut D.i1z) (hl1.extBut hs₁.extBut D.l1z) hx fun h₂ e hs₂ he => ?_)
   exact hE h₂ e (fun c o c1 c3 _ x => hs₂ _ _ c3 (hs₁.extBut _ _ c1 x)) he
 | some x =>
   have hy : ys[k2]? = none := by rcases hend with h | h; rw [hx] at h; cases h; exact h
   refine wpAny_bind (wpAny_nextOf_list_item (h1.extBut hs₁.extBut D.i1z) (hl1.extBut hs₁.extBut D.l1z) hx fun h₂ h1₂ hs₂ => wpAny_pure ?_)
   refine wpAny_pure ?_
   refine wpAny_bind (wpAny_bind (wpAny_holding ?_))
   show wpAny _ _ (Builtin.SmallTypes.nextOf (.ref i2) >>= _) _ _ _
   refine wpAny_bind (wpAny_nextOf_list_end hh ((h2.extBut hs₁.extBut D.i2z).extBut hs₂.extBut D.i12.symm) ((hl2.extBut hs₁.extBut D.l2z).extBut hs₂.extBut D.l2i1) hy fun h₃ e hs₃ he => ?_)
   exact hE h₃ e (fun c o c1 c3 c4 x => hs₃ _ _ c4 (hs₂.extBut _ _ c3 (hs₁.extBut _ _ c1 x))) he
def ZipL (z TI TO i1 i2 a b : Addr) (i : Nat) (h : Heap) : Prop := ((IsZip h z TI TO .none ∧ ∃ u v, IsPair h TO u v) ∨ (∃ T bb oT, IsZipK h z TI TO T bb ∧ h.get? T = some oT ∧ T ≠ z ∧ T ≠ TO ∧ T ≠ i1 ∧ T ≠ i2)) ∧ IsPair h TI (.ref i1) (.ref i2) ∧ h.IsListIter i1 a i ∧ h.IsListIter i2 b i
theorem next_zipL {z TI TO i1 i2 l1 l2 : Addr} {k : Nat} {xs ys : Array Value} {x y : Value} {Q : Option Value → Shared → Prop} (D : ZipApart z TI TO i1 i2 l1 l2) (hz : ZipL z TI TO i1 i2 l1 l2 k s.heap)
 (hl1 : s.heap.IsList l1 xs) (hl2 : s.heap.IsList l2 ys) (hx : xs[k]? = some x) (hy : ys[k]? = some y)
 (hQ : ∀ h', ZipL z TI TO i1 i2 l1 l2 (k + 1) h' → IsPair h' s.heap.objs.size x y → (∀ c o, c ≠ z → c ≠ TO → c ≠ i1 → c ≠ i2 → s.heap.get? c = some o → h'.get? c = some o) → Q (some (.ref s.heap.objs.size)) { s with heap := h' }) :
 wpAny (model prog w) A (pyNext (.ref z)) Q E s := by
 obtain ⟨hz, hTI, h1, h2⟩ := hz
 have lti1 : i1 < s.heap.objs.size := by obtain ⟨_, e, _⟩ := h1; exact Heap.lt_size e
 have lti2 : i2 < s.heap.objs.size := by obtain ⟨_, e, _⟩ := h2; exact Heap.lt_size e
 rcases hz with ⟨hz, u, v, hTO⟩ | ⟨T, bb, oT, hz, hT, n1, n2, n3, n4⟩
 ·refine wpAny_pyNext_zip_item D hz hTI hTO h1 h2 hl1 hl2 hx hy fun h' a1 a2 a3 a4 a5 a6 a7 => hQ h' ⟨.inr ⟨_, false, _, a1, a5, Nat.ne_of_gt (Heap.lt_size hz), Nat.ne_of_gt (Heap.lt_size hTO), Nat.ne_of_gt lti1, Nat.ne_of_gt lti2⟩, a7 _ _ D.TIz D.TITO D.TIi1 D.TIi2 hTI, a3, a4⟩ a5 a7
 ·have hTy : s.TypeIs (.ref z) "zip" := ⟨_, hz, rfl⟩
  unfold pyNext
  refine wpAny_bind (wpAny_attempt (wpAny_callSpecial?_slot (name := Str.ofString "__next__") hTy F.slot_zip_next
   (wpAny_call_entry F.slot_zip_next hTy F.entry_zip_next
    (zip_next_kept D hz hT hTI h1 h2 hl1 hl2 hx hy fun h' a1 a3 a4 a5 a6 a7 => wpAny_pure (hQ h' ⟨.inr ⟨T, true, oT, a1, a7 _ _ n1 n3 n4 hT, n1, n2, n3, n4⟩, a7 _ _ D.TIz D.TIi1 D.TIi2 hTI, a3, a4⟩ a5 fun c o c1 _ c3 c4 e => a7 c o c1 c3 c4 e)) (F.args_zip_next_1 _))))
theorem end_zipL {z TI TO i1 i2 l1 l2 : Addr} {k : Nat} {xs ys : Array Value} {Q : Option Value → Shared → Prop} (hh : A.handled = none) (D : ZipApart z TI TO i1 i2 l1 l2) (hz : ZipL z TI TO i1 i2 l1 l2 k s.heap)
 (hl1 : s.heap.IsList l1 xs) (hl2 : s.heap.IsList l2 ys) (hend : xs[k]? = none ∨ ys[k]? = none)
 (hQ : ∀ h', (∀ c o, c ≠ z → c ≠ TO → c ≠ i1 → c ≠ i2 → s.heap.get? c = some o → h'.get? c = some o) → Q none { s with heap := h' }) :
 wpAny (model prog w) A (pyNext (.ref z)) Q E s := by
 obtain ⟨hz, hTI, h1, h2⟩ := hz
 rcases hz with ⟨hz, u, v, hTO⟩ | ⟨T, bb, oT, hz, hT, n1, n2, n3, n4⟩
 ·exact wpAny_pyNext_zip_end hh D hz hTI hTO h1 h2 hl1 hl2 hend hQ
 ·have hTy : s.TypeIs (.ref z) "zip" := ⟨_, hz, rfl⟩
  unfold pyNext
  refine wpAny_bind (wpAny_attempt (wpAny_callSpecial?_slot (name := Str.ofString "__next__") hTy F.slot_zip_next
   (wpAny_call_entry F.slot_zip_next hTy F.entry_zip_next (zip_next_kend hh D hz hT hTI h1 h2 hl1 hl2 hend fun h' e hk he => ?_) (F.args_zip_next_1 _))))
  obtain ⟨o, ho, hc⟩ := he
  refine wpAny_bind (wpAny_isInstance (T := "StopIteration") (b := true) ⟨o, ho, hc⟩ isSubtype_stop ?_)
  exact wpAny_pure (hQ _ fun c o c1 _ c3 c4 e => hk c o c1 c3 c4 e)
end
section
variable {prog : Program} {w : World} {A : Around} {R : Result → Shared → Prop}
def Got (n0 : Nat) (xs ys : Array Value) (h : Heap) (Ts : List Addr) : Prop := ∀ (k : Nat) (T : Addr), Ts[k]? = some T → n0 ≤ T ∧ ∃ x y, xs[k]? = some x ∧ ys[k]? = some y ∧ IsPair h T x y
theorem loop_zipL {z TI TO i1 i2 l1 l2 S : Addr} {xs ys : Array Value} {n0 : Nat} {res : Value} (hh : A.in1.handled = none) (D : ZipApart z TI TO i1 i2 l1 l2) (hS4 : S ≠ z ∧ S ≠ TO ∧ S ≠ i1 ∧ S ≠ i2) (hSl : S ≠ l1 ∧ S ≠ l2 ∧ S ≠ TI) (h4 : n0 ≤ S)
 (hn : min xs.size ys.size ≤ sizeLine) :
 ∀ (m k : Nat) (s : Shared) (Ts : List Addr) (c : Nat), min xs.size ys.size - k = m → k ≤ min xs.size ys.size → n0 ≤ s.heap.objs.size → (∀ q ∈ [z, TO, i1, i2, S], q < s.heap.objs.size) → ZipL z TI TO i1 i2 l1 l2 k s.heap → s.heap.IsList l1 xs → s.heap.IsList l2 ys → Ts.length = k → Got n0 xs ys s.heap Ts →
  (∀ T ∈ Ts, T ≠ z ∧ T ≠ TO ∧ T ≠ i1 ∧ T ≠ i2 ∧ T ≠ S) → Ts.Nodup →
  s.heap.get? S = some { cls := .type "list", dict := none, data := .seq (Ts.map Value.ref).toArray c, slots := #[] } →
  (∀ h' Ts' c', (∀ b o, b ≠ z → b ≠ TO → b ≠ i1 → b ≠ i2 → b ≠ S → s.heap.get? b = some o → h'.get? b = some o) → h'.get? S = some { cls := .type "list", dict := none, data := .seq (Ts'.map Value.ref).toArray c', slots := #[] } → Ts'.length = min xs.size ys.size → Got n0 xs ys h' Ts' → (∀ T ∈ Ts', T ≠ S) → Ts'.Nodup → R (.ok (.ret res)) { s with heap := h' }) →
  codeAny (model prog w) A (.builtin "list.extend.loop" ⟨[.ref S, .ref z, res], []⟩) R s
 | 0, k, s, Ts, c, hm, hk, hsz, hlt, hz, hl1, hl2, hTl, hG, hTs, hnd, hS, hR => by
   refine codeAny_builtin F.entry_extend_loop ?_
   rw [Around.under_plainId F.plain_extend_loop _]
   show wpAny _ A.in1 (pyNext (.ref z) >>= _) _ _ s
   refine wpAny_bind (end_zipL hh D hz hl1 hl2 ?_ fun h' kp => ?_)
   ·by_cases e : k < xs.size
    ·right; exact Array.getElem?_eq_none (by lia)
    ·left; exact Array.getElem?_eq_none (by lia)
   ·refine wpAny_pure (hR h' Ts c (fun b o b1 b2 b3 b4 _ e => kp b o b1 b2 b3 b4 e) (kp _ _ hS4.1 hS4.2.1 hS4.2.2.1 hS4.2.2.2 hS) (by lia) ?_ (fun T hT => (hTs T hT).2.2.2.2) hnd)
    intro j T hT
    obtain ⟨a, x, y, e1, e2, e3⟩ := hG j T hT
    obtain ⟨q1, q2, q3, q4, _⟩ := hTs T (List.mem_of_getElem? hT)
    exact ⟨a, x, y, e1, e2, kp _ _ q1 q2 q3 q4 e3⟩
 | m + 1, k, s, Ts, c, hm, hk, hsz, hlt, hz, hl1, hl2, hTl, hG, hTs, hnd, hS, hR => by
   refine codeAny_builtin F.entry_extend_loop ?_
   rw [Around.under_plainId F.plain_extend_loop _]
   show wpAny _ A.in1 (pyNext (.ref z) >>= _) _ _ s
   have hkx : k < xs.size := by lia
   have hky : k < ys.size := by lia
   refine wpAny_bind (next_zipL (x := xs[k]) (y := ys[k]) D hz hl1 hl2 (by simp [hkx]) (by simp [hky]) fun h' hz' hp' kp => ?_)
   have nT : ∀ q ∈ [z, TO, i1, i2, S], s.heap.objs.size ≠ q := fun q hq => Nat.ne_of_gt (hlt q hq)
   have hS' := kp _ _ hS4.1 hS4.2.1 hS4.2.2.1 hS4.2.2.2 hS
   have hl1' : h'.IsList l1 xs := by obtain ⟨o, e, r⟩ := hl1; exact ⟨o, kp _ _ D.l1z D.l1TO D.l1i1 D.l1i2 e, r⟩
   have hl2' : h'.IsList l2 ys := by obtain ⟨o, e, r⟩ := hl2; exact ⟨o, kp _ _ D.l2z D.l2TO D.l2i1 D.l2i2 e, r⟩
   have hsz' : s.heap.objs.size < h'.objs.size := Heap.lt_size hp'
   show wpAny _ A.in1 (updateSeq S (·.push (.ref s.heap.objs.size)) >>= _) _ _ _
   refine wpAny_bind ?_
   refine wpAny_updateSeq hS' rfl ?_ (by simp; lia) (by show ((Ts.map Value.ref).toArray.push _).size ≤ sizeLine + 1; simp; lia)
   have up : ∀ b o, b ≠ S → h'.get? b = some o → (h'.update S (Obj.mapSeq (·.push (Value.ref s.heap.objs.size)))).get? b = some o := fun b o hb e => (Heap.get?_update_other _ _ (Ne.symm hb)).trans e
   have hSS := Heap.get?_update_self (Obj.mapSeq (·.push (Value.ref s.heap.objs.size))) hS' rfl
   refine wpAny_pure ⟨plainId_quiet F.plain_extend_loop _, loop_zipL hh D hS4 hSl h4 hn m (k + 1) _ (Ts ++ [s.heap.objs.size]) (c + 1) (by lia) (by lia) ?_ ?_ ?_ ?_ ?_ (by simp; lia) ?_ ?_ ?_ ?_ ?_⟩
   ·show n0 ≤ (h'.update S _).objs.size
    rw [Heap.size_update]; lia
   ·intro q hq
    show q < (h'.update S _).objs.size
    rw [Heap.size_update]
    exact Nat.lt_trans (hlt q hq) hsz'
   ·obtain ⟨a1, a2, a3, a4⟩ := hz'
    refine ⟨?_, up _ _ (Ne.symm hSl.2.2) a2, a3.at fun o e => up _ _ (Ne.symm hS4.2.2.1) e, a4.at fun o e => up _ _ (Ne.symm hS4.2.2.2) e⟩
    rcases a1 with ⟨e, u, v, e2⟩ | ⟨T, bb, oT, e, e2, r⟩
    ·exact .inl ⟨up _ _ (Ne.symm hS4.1) e, u, v, up _ _ (Ne.symm hS4.2.1) e2⟩
    ·by_cases q : T = S
     ·subst q
      exact .inr ⟨T, bb, _, up _ _ (Ne.symm hS4.1) e, hSS, r⟩
     ·exact .inr ⟨T, bb, oT, up _ _ (Ne.symm hS4.1) e, up _ _ q e2, r⟩
   ·obtain ⟨o, e, r⟩ := hl1'; exact ⟨o, up _ _ (Ne.symm hSl.1) e, r⟩
   ·obtain ⟨o, e, r⟩ := hl2'; exact ⟨o, up _ _ (Ne.symm hSl.2.1) e, r⟩
   ·intro j T hT
    by_cases hj : j < Ts.length
    ·rw [List.getElem?_append_left hj] at hT
     obtain ⟨a, x, y, e1, e2, e3⟩ := hG j T hT
     obtain ⟨q1, q2, q3, q4, q5⟩ := hTs T (List.mem_of_getElem? hT)
     exact ⟨a, x, y, e1, e2, up _ _ q5 (kp _ _ q1 q2 q3 q4 e3)⟩
    ·rw [List.getElem?_append_right (by lia)] at hT
     have hj2 : j = k := by
      have := (List.getElem?_eq_some_iff.mp hT).1
      simp at this
      lia
     subst hj2
     rw [hTl, Nat.sub_self] at hT
     simp at hT
     subst hT
     exact ⟨hsz, xs[j], ys[j], by simp [hkx], by simp [hky], up _ _ (nT S (by simp)) hp'⟩
   ·intro T hT
    rcases List.mem_append.mp hT with q | q
    ·exact hTs T q
    ·simp at q
     subst q
     exact ⟨nT _ (by simp), nT _ (by simp), nT _ (by simp), nT _ (by simp), nT _ (by simp)⟩
   ·rw [List.nodup_append]
    refine ⟨hnd, by simp, fun a ha b hb => ?_⟩
    simp at hb
    subst hb
    intro e
    subst e
    obtain ⟨j, hj⟩ := List.mem_iff_getElem?.mp ha
    obtain ⟨_, x, y, _, _, e3⟩ := hG j _ hj
    exact Nat.lt_irrefl _ (Heap.lt_size e3)
   ·refine hSS.trans ?_
    simp [Obj.mapSeq]
   ·intro h2 Ts' c' kp2 hS2 hl hG2 hT2 hn2
    exact hR h2 Ts' c' (fun b o b1 b2 b3 b4 b5 e => kp2 b o b1 b2 b3 b4 b5 (up b o b5 (kp b o b1 b2 b3 b4 e))) hS2 hl hG2 hT2 hn2
end
theorem zip_no_len : typeLookup (.type "zip") "__len__" = pure none := by rw [typeLookup_type, builtinLookup_eq_fast]; kernel_rfl
theorem zip_no_hint : typeLookup (.type "zip") "__length_hint__" = pure none := by rw [typeLookup_type, builtinLookup_eq_fast]; kernel_rfl
section
variable {prog : Program} {w : World} {A : Around} {R : Result → Shared → Prop} {s : Shared}
theorem ZipL.ty {z TI TO i1 i2 l1 l2 : Addr} {k : Nat} (h : ZipL z TI TO i1 i2 l1 l2 k s.heap) : s.TypeIs (.ref z) "zip" := by
 rcases h.1 with ⟨e, _⟩ | ⟨_, _, _, e, _⟩
 ·exact ⟨_, e, rfl⟩
 ·exact ⟨_, e, rfl⟩
theorem ZipL.kept {z TI TO i1 i2 l1 l2 : Addr} {k : Nat} {h h' : Heap} (x : ZipL z TI TO i1 i2 l1 l2 k h) (up : ∀ b o, h.get? b = some o → (b = z ∨ b = TI ∨ b = TO ∨ b = i1 ∨ b = i2) → h'.get? b = some o) (upT : ∀ T bb, IsZipK h z TI TO T bb → ∀ o, h.get? T = some o → ∃ o', h'.get? T = some o') : ZipL z TI TO i1 i2 l1 l2 k h' := by
 obtain ⟨a1, a2, a3, a4⟩ := x
 refine ⟨?_, up _ _ a2 (by simp), a3.at fun o e => up _ _ e (by simp), a4.at fun o e => up _ _ e (by simp)⟩
 rcases a1 with ⟨e, u, v, e2⟩ | ⟨T, bb, oT, e, e2, r⟩
 ·exact .inl ⟨up _ _ e (by simp), u, v, up _ _ e2 (by simp)⟩
 ·obtain ⟨o', e3⟩ := upT T bb e oT e2
  exact .inr ⟨T, bb, o', up _ _ e (by simp), e3, r⟩
theorem extend_zipL {z TI TO i1 i2 l1 l2 S : Addr} {xs ys : Array Value} {n0 c₀ : Nat} {res : Value} (hh : A.in1.handled = none) (D : ZipApart z TI TO i1 i2 l1 l2) (hS4 : S ≠ z ∧ S ≠ TO ∧ S ≠ i1 ∧ S ≠ i2) (hSl : S ≠ l1 ∧ S ≠ l2 ∧ S ≠ TI) (h4 : n0 ≤ S)
 (hn : min xs.size ys.size ≤ sizeLine) (hsz : n0 ≤ s.heap.objs.size) (hlt : ∀ q ∈ [z, TO, i1, i2, S], q < s.heap.objs.size) (hz0 : IsZip s.heap z TI TO .none) (hz : ZipL z TI TO i1 i2 l1 l2 0 s.heap) (hl1 : s.heap.IsList l1 xs) (hl2 : s.heap.IsList l2 ys)
 (hS : s.heap.get? S = some { cls := .type "list", data := .seq #[] c₀ })
 (hR : ∀ h' Ts' c', (∀ b o, b ≠ z → b ≠ TO → b ≠ i1 → b ≠ i2 → b ≠ S → s.heap.get? b = some o → h'.get? b = some o) → h'.get? S = some { cls := .type "list", dict := none, data := .seq (Ts'.map Value.ref).toArray c', slots := #[] } → Ts'.length = min xs.size ys.size → Got n0 xs ys h' Ts' → (∀ T ∈ Ts', T ≠ S) → Ts'.Nodup → R (.ok (.ret res)) { s with heap := h' }) :
 wpAny (model prog w) A.in1 (Builtin.List.listExtendWith (.ref S) (.ref z) res)
  (fun fin s' => match fin with | .done f => R (.ok f) s' | .again c' => c'.quiet = true ∧ codeAny (model prog w) A c' R s') (fun e s' => R (.error e) s') s := by
 unfold Builtin.List.listExtendWith
 refine wpAny_bind (wpAny_typeOf hz.ty ?_)
 have h1 : Builtin.List.listSameRef (.ref S) (.ref z) = false := by simp [Builtin.List.listSameRef, hS4.1]
 have h2 : (Value.type "zip" == Value.type "list") = false := by decide
 have h3 : (Value.type "zip" == Value.type "tuple") = false := by decide
 simp only [h1, h2, h3, Bool.or_false, Bool.false_eq_true, if_false]
 refine wpAny_bind (wpAny_pyIter_zip hz0 ?_)
 refine wpAny_bind (wpAny_holding ?_)
 unfold Builtin.List.listLengthHint
 refine wpAny_bind (wpAny_specialOf hz.ty zip_no_len ?_)
 show wpAny _ A.in1 (specialOf (Value.ref z) (Str.ofString "__length_hint__") >>= _) _ _ _
 refine wpAny_bind (wpAny_specialOf hz.ty zip_no_hint ?_)
 refine wpAny_pure ?_
 show wpAny _ A.in1 (rule "list.extend.makes-room" >>= fun _ => Builtin.List.listTouch (.ref S) >>= fun _ =>
  again (.builtin "list.extend.loop" ⟨[.ref S, .ref z, res], []⟩)) _ _ _
 refine wpAny_bind (wpAny_rule ?_)
 refine wpAny_bind ?_
 show wpAny _ A.in1 (updateSeq S (·.push .none) >>= fun _ => updateSeq S (·.pop)) _ _ _
 refine wpAny_bind (wpAny_updateSeq hS rfl ?_)
 have hS₂ := Heap.get?_update_self (Obj.mapSeq (·.push Value.none)) hS rfl
 refine wpAny_updateSeq (hz := by seq_fits) hS₂ rfl ?_
 have hS₃ := Heap.get?_update_self (Obj.mapSeq (·.pop)) hS₂ rfl
 have oth : ∀ b o, b ≠ S → s.heap.get? b = some o → ((s.heap.update S (Obj.mapSeq (·.push Value.none))).update S (Obj.mapSeq (·.pop))).get? b = some o :=
  fun b o hb e => (Heap.get?_update_other _ _ (Ne.symm hb)).trans ((Heap.get?_update_other _ _ (Ne.symm hb)).trans e)
 have hsz2 : ((s.heap.update S (Obj.mapSeq (·.push Value.none))).update S (Obj.mapSeq (·.pop))).objs.size = s.heap.objs.size := by rw [Heap.size_update, Heap.size_update]
 refine wpAny_pure ⟨plainId_quiet F.plain_extend_loop _, loop_zipL hh D hS4 hSl h4 hn _ 0 _ [] _ rfl (Nat.zero_le _) (by show n0 ≤ _; rw [hsz2]; exact hsz) (fun q hq => by show q < _; rw [hsz2]; exact hlt q hq) ?_ ?_ ?_ rfl ?_ (fun T hT => absurd hT (by simp)) (by simp) hS₃ fun h' Ts' c' kp a1 a2 a3 a4 a5 => hR h' Ts' c' (fun b o b1 b2 b3 b4 b5 e => kp b o b1 b2 b3 b4 b5 (oth b o b5 e)) a1 a2 a3 a4 a5⟩
 ·refine hz.kept (fun b o e q => oth b o ?_ e) fun T bb e => by have e2 := hz0.symm.trans e; simp [rawInt] at e2
  rcases q with rfl | rfl | rfl | rfl | rfl
  ·exact hS4.1.symm
  ·exact hSl.2.2.symm
  ·exact hS4.2.1.symm
  ·exact hS4.2.2.1.symm
  ·exact hS4.2.2.2.symm
 ·obtain ⟨o, e, r⟩ := hl1; exact ⟨o, oth _ _ hSl.1.symm e, r⟩
 ·obtain ⟨o, e, r⟩ := hl2; exact ⟨o, oth _ _ hSl.2.1.symm e, r⟩
 ·intro j T hT; simp at hT
end
section
variable {prog : Program} {w : World} {A : Around} {E : Value → Shared → Prop} {s : Shared}
theorem call_list_zipL {z TI TO i1 i2 l1 l2 : Addr} {xs ys : Array Value} {n0 : Nat} {Q : Value → Shared → Prop} (hh : A.in1.in1.handled = none) (D : ZipApart z TI TO i1 i2 l1 l2) (hn : min xs.size ys.size ≤ sizeLine) (hsz : n0 ≤ s.heap.objs.size) (hTI : TI < s.heap.objs.size)
 (hlt : ∀ q ∈ [z, TO, i1, i2], q < s.heap.objs.size) (hz0 : IsZip s.heap z TI TO .none) (hz : ZipL z TI TO i1 i2 l1 l2 0 s.heap) (hl1 : s.heap.IsList l1 xs) (hl2 : s.heap.IsList l2 ys)
 (hQ : ∀ h' Ts' c', (∀ b o, b ≠ z → b ≠ TO → b ≠ i1 → b ≠ i2 → s.heap.get? b = some o → h'.get? b = some o) → h'.get? s.heap.objs.size = some { cls := .type "list", dict := none, data := .seq (Ts'.map Value.ref).toArray c', slots := #[] } → Ts'.length = min xs.size ys.size → Got n0 xs ys h' Ts' → (∀ T ∈ Ts', T ≠ s.heap.objs.size) → Ts'.Nodup → Q (.ref s.heap.objs.size) { s with heap := h' }) :
 wpAny (model prog w) A (call (.type "list") [.ref z]) Q E s := by
 refine callType_codes (Q₁ := fun obj s₁ => obj = .ref s.heap.objs.size ∧ s₁ = { s with heap := s.heap.push { cls := .type "list", data := .seq #[] } }) F.called_list (F.typeCall_list_1 _) F.entry_list_init
  (code_list_new _ ⟨rfl, rfl⟩) fun obj s₁ h₁ => ?_
 obtain ⟨rfl, rfl⟩ := h₁
 have hS : (s.heap.push { cls := .type "list", data := .seq #[] }).get? s.heap.objs.size = some { cls := .type "list", data := .seq #[] } := Heap.get?_push_size _ rfl
 refine ⟨⟨_, hS, rfl⟩, F.args_list_init_2 _ _, ?_⟩
 show wpAny _ A.in1.in1 (do let old ← Builtin.List.listItems (.ref s.heap.objs.size); Builtin.List.listUpdate (.ref s.heap.objs.size) (fun _ => #[]); letGo old.toList.reverse; Builtin.List.listExtendWith (.ref s.heap.objs.size) (.ref z) .none) _ _ _
 refine wpAny_bind ?_
 unfold Builtin.List.listItems
 refine wpAny_bind (wpAny_seqItems hS rfl (wpAny_pure ?_))
 show wpAny _ A.in1.in1 (updateSeq s.heap.objs.size (fun _ => #[]) >>= fun _ => letGo (#[] : Array Value).toList.reverse >>= fun _ => Builtin.List.listExtendWith (.ref s.heap.objs.size) (.ref z) .none) _ _ _
 refine wpAny_bind (wpAny_updateSeq hS rfl ?_)
 have hS₂ := Heap.get?_update_self (Obj.mapSeq (fun _ => (#[] : Array Value))) hS rfl
 have oth : ∀ b o, s.heap.get? b = some o → ((s.heap.push { cls := .type "list", data := .seq #[] }).update s.heap.objs.size (Obj.mapSeq (fun _ => (#[] : Array Value)))).get? b = some o :=
  fun b o e => (Heap.get?_update_other _ _ (Nat.ne_of_gt (Heap.lt_size e))).trans (Heap.get?_push_of_some _ e)
 have hsz2 : ((s.heap.push { cls := .type "list", data := .seq #[] }).update s.heap.objs.size (Obj.mapSeq (fun _ => (#[] : Array Value)))).objs.size = s.heap.objs.size + 1 := by rw [Heap.size_update, Heap.size_push]
 refine wpAny_bind (wpAny_letGo ?_)
 have ne : ∀ q ∈ [z, TO, i1, i2], s.heap.objs.size ≠ q := fun q hq => Nat.ne_of_gt (hlt q hq)
 have ltl1 : l1 < s.heap.objs.size := by obtain ⟨_, e, _⟩ := hl1; exact Heap.lt_size e
 have ltl2 : l2 < s.heap.objs.size := by obtain ⟨_, e, _⟩ := hl2; exact Heap.lt_size e
 refine extend_zipL (n0 := n0) (xs := xs) (ys := ys) hh D ⟨ne _ (by simp), ne _ (by simp), ne _ (by simp), ne _ (by simp)⟩ ⟨Nat.ne_of_gt ltl1, Nat.ne_of_gt ltl2, Nat.ne_of_gt hTI⟩ hsz hn (by show n0 ≤ _; rw [hsz2]; lia) (fun q hq => ?_) (oth _ _ hz0) (hz.kept (fun b o e _ => oth b o e) fun T bb e => by have e2 := hz0.symm.trans e; simp [rawInt] at e2) ?_ ?_ hS₂ fun h' Ts' c' kp a1 a2 a3 a4 a5 => ⟨rfl, hQ h' Ts' c' (fun b o b1 b2 b3 b4 e => kp b o b1 b2 b3 b4 (Nat.ne_of_lt (Heap.lt_size e)) (oth b o e)) a1 a2 a3 a4 a5⟩
 ·show q < _
  rw [hsz2]
  simp only [List.mem_cons, List.not_mem_nil, or_false] at hq
  rcases hq with rfl | rfl | rfl | rfl | rfl
  ·exact Nat.lt_succ_of_lt (hlt _ (by simp))
  ·exact Nat.lt_succ_of_lt (hlt _ (by simp))
  ·exact Nat.lt_succ_of_lt (hlt _ (by simp))
  ·exact Nat.lt_succ_of_lt (hlt _ (by simp))
  ·exact Nat.lt_succ_self _
 ·obtain ⟨o, e, r⟩ := hl1; exact ⟨o, oth _ _ e, r⟩
 ·obtain ⟨o, e, r⟩ := hl2; exact ⟨o, oth _ _ e, r⟩
end
def rListZip (K : PySem.W.Frag) : List V → Hp → VK → Prop := fun vs H Q => ∃ a b xs ys, vs = [.ref a, .ref b] ∧ SqL K H a xs ∧ SqL K H b ys ∧
 ∀ l ts H2, Same H H2 → H l = none → H2 l = some (.lst (ts.map V.ref)) → Paired (fun t (p : V × V) => H t = none ∧ H2 t = some (.tup [p.1, p.2])) ts (xs.zip ys) → ts.Nodup → l ∉ ts → Q (.ref l) H2
section
variable {X : Cx} {K : PySem.W.Frag} {a b : Expr} {t : TA} {p p2 pos pos2 : Pos}
theorem Inv.trackT {pins : List (Addr × Obj)} {σ : St} {s : Shared} {n0 : Nat} (hn0 : ∀ {H : Hp} {D : Addr}, n0 ≤ D → H D = none → Aside X pins H D) {Ts : List Addr} {ps : List (V × V)}
 (hP : Paired (fun T (p : V × V) => ∃ x y, RelV p.1 x ∧ RelV p.2 y ∧ IsPair s.heap T x y) Ts ps) : ∀ {H : Hp}, Inv X pins σ H s → (∀ T ∈ Ts, n0 ≤ T ∧ H T = none) → Ts.Nodup →
 ∃ H2, Inv X pins σ H2 s ∧ Same H H2 ∧ Paired (fun T (p : V × V) => H2 T = some (.tup [p.1, p.2])) Ts ps ∧ ∀ D, D ∉ Ts → H2 D = H D := by
 induction hP with
 | nil => exact fun {H} I _ _ => ⟨H, I, fun _ _ e => e, .nil, fun _ _ => rfl⟩
 | @cons T p Ts ps r hP ih =>
   intro H I hf hnd
   obtain ⟨x, y, r1, r2, hp⟩ := r
   obtain ⟨h1, h2⟩ := hf T List.mem_cons_self
   obtain ⟨n1, n2⟩ := List.nodup_cons.mp hnd
   have a := hn0 h1 h2
   have I1 : Inv X pins σ (upd H T (.tup [p.1, p.2])) s := I.track h2 a.ne a.ab a.cl a.pn ⟨szl (Nat.le_of_ble_eq_true rfl), [x, y], .cons r1 (.cons r2 .nil), ⟨_, hp, rfl, _, rfl⟩⟩
   obtain ⟨H2, I2, s2, P2, o2⟩ := ih I1 (fun T' hT' => ⟨(hf T' (List.mem_cons_of_mem _ hT')).1, by
    have ne : T' ≠ T := fun e => n1 (e ▸ hT')
    rw [upd_ne ne]
    exact (hf T' (List.mem_cons_of_mem _ hT')).2⟩) n2
   refine ⟨H2, I2, fun b o e => s2 b o (by rw [upd_ne (ne_of_none e h2)]; exact e), .cons (by rw [o2 T n1, upd_same]) P2, fun D hD => ?_⟩
   rw [o2 D fun z => hD (List.mem_cons_of_mem _ z), upd_ne fun z : D = T => hD (by rw [z]; exact List.mem_cons_self)]
theorem paired_of {α β : Type} {F : α → β → Prop} : ∀ {as : List α} {bs : List β}, as.length = bs.length → (∀ (k : Nat) a b, as[k]? = some a → bs[k]? = some b → F a b) → Paired F as bs
 | [], [], _, _ => .nil
 | a :: as, b :: bs, h, f => .cons (f 0 a b rfl rfl) (paired_of (by simpa using h) fun k a b h1 h2 => f (k + 1) a b (by simpa using h1) (by simpa using h2))
 | [], _ :: _, h, _ => by simp at h
 | _ :: _, [], h, _ => by simp at h
theorem pe_listZip (hK : X.K = K) (hc : X.calm = true) (hg : Gl X "list") (hm : X.mg "list" = none) (hg2 : Gl X "zip") (hm2 : X.mg "zip" = none) (ha : PA X [a, b] t)
 (hs : starEach [a, b] X.env = [(false, eval a X.env), (false, eval b X.env)] := by rfl) (hs2 : starEach [b] X.env = [(false, eval b X.env)] := by rfl)
 (hs3 : starEach [.Call (.Name "zip" p2) [a, b] [] pos2] X.env = [(false, eval (.Call (.Name "zip" p2) [a, b] [] pos2) X.env)] := by rfl) :
 PE X (.Call (.Name "list" p) [.Call (.Name "zip" p2) [a, b] [] pos2] [] pos) (tCB (rListZip K) t) := by
 subst hK
 walk_at "z0"
 refine wpAny_Call_Name_kw (ld_blt I hg hm bt_list ?_)
 refine PyProof.Rows.callWith_type1 (Q := EP X pins σ Q) ?_ (by rw [hs3]; rfl) (by rfl)
 rw [hs3]
 show wpAny _ _ (spliced [(false, eval (.Call (.Name "zip" p2) [a, b] [] pos2) X.env)]) _ _ _
 refine Calls.spliced_cons (Call_ (ld_blt I hg2 hm2 bt_zip (PyProof.Rows.callWith_type1 (thn (ha pos2 pins s σ H _ I h) fun us s1 ⟨vs, H1, I1, r1, q1⟩ => ?_) (by rw [hs, hs2]) (by rw [hs2]; rfl))))
 obtain ⟨x, y, xs, ys, e, hx, hy, q⟩ := q1
 subst e
 cases r1 with
 | cons r rr =>
   cases rr with
   | cons r' rr =>
     cases rr
     obtain ⟨its, rv, pl, hz⟩ := I1.list hx
     obtain ⟨jts, rw', ql, hz'⟩ := I1.list hy
     cases r
     cases r'
     have a1 : x < s1.heap.objs.size := by obtain ⟨_, e, _⟩ := pl.isList; exact Heap.lt_size e
     have a2 : y < s1.heap.objs.size := by obtain ⟨_, e, _⟩ := ql.isList; exact Heap.lt_size e
     refine call_zip_2 pl.isList ql.isList fun h' b1 b2 b3 b4 b5 b6 b7 => Calls.spliced_nil ?_
     have l1 := rv.length
     have l2 := rw'.length
     refine call_list_zipL (s := { s1 with heap := h' }) (n0 := s1.heap.objs.size) (xs := its.toArray) (ys := jts.toArray) (by exact I.ok.hd hc) (zipApart_new a1 a2) (by simp; lia) (by show _ ≤ h'.objs.size; lia) (by show _ < h'.objs.size; lia) (fun q hq => ?_) b1 ⟨.inl ⟨b1, _, _, b3⟩, b2, b4, b5⟩ (by obtain ⟨o, e, r⟩ := pl.isList; exact ⟨o, b7 _ _ e, r⟩) (by obtain ⟨o, e, r⟩ := ql.isList; exact ⟨o, b7 _ _ e, r⟩) fun h2 Ts c kp hS hTl hG hTS hnd => ?_
     ·show q < h'.objs.size
      simp only [List.mem_cons, List.not_mem_nil, or_false] at hq
      rw [b6]
      rcases hq with rfl | rfl | rfl | rfl <;> first | exact Nat.add_lt_add_left (by decide) _ | exact Nat.lt_add_of_pos_right (by decide)
     ·have hSize : ({ s1 with heap := h' } : Shared).heap.objs.size = s1.heap.objs.size + 5 := b6
      rw [hSize] at hS hTS ⊢
      have old : ∀ b o, s1.heap.get? b = some o → h2.get? b = some o := fun b o e => by
       have lt := Heap.lt_size e
       exact kp b o (Nat.ne_of_lt (Nat.lt_of_lt_of_le lt (Nat.le_add_right _ _))) (Nat.ne_of_lt (Nat.lt_of_lt_of_le lt (Nat.le_add_right _ _))) (Nat.ne_of_lt lt) (Nat.ne_of_lt (Nat.lt_of_lt_of_le lt (Nat.le_add_right _ _))) (b7 b o e)
      have I2 : Inv X pins σ H1 { s1 with heap := h2 } := I1.kept (t' := s1.toks) old
      have fresh : ∀ D, s1.heap.objs.size ≤ D → H1 D = none := fun D hD => I1.hok.fresh hD
      have hTl2 : Ts.length = (xs.zip ys).length := by
       rw [hTl, List.length_zip]
       simp
       lia
      have hPP : Paired (fun T (p : V × V) => ∃ x y, RelV p.1 x ∧ RelV p.2 y ∧ IsPair h2 T x y) Ts (xs.zip ys) := paired_of hTl2 fun k T pr h1 h3 => by
       obtain ⟨_, ux, uy, e1, e2, e3⟩ := hG k T h1
       rw [List.getElem?_zip_eq_some] at h3
       obtain ⟨h4, h5⟩ := h3
       obtain ⟨u1, f1, g1⟩ := rv.get h4
       obtain ⟨u2, f2, g2⟩ := rw'.get h5
       have z1 : ux = u1 := by
        have : its.toArray[k]? = some u1 := by simpa using f1
        rw [e1] at this
        exact Option.some.inj this
       have z2 : uy = u2 := by
        have : jts.toArray[k]? = some u2 := by simpa using f2
        rw [e2] at this
        exact Option.some.inj this
       subst z1 z2
       exact ⟨ux, uy, g1, g2, e3⟩
      have hTT : ∀ T ∈ Ts, s1.heap.objs.size ≤ T ∧ H1 T = none := fun T hT => by
       obtain ⟨k, hk⟩ := List.mem_iff_getElem?.mp hT
       obtain ⟨z, _⟩ := hG k T hk
       exact ⟨z, fresh T z⟩
      obtain ⟨H2, I3, s3, P3, o3⟩ := Inv.trackT (n0 := s1.heap.objs.size) (fun {H' D} hD hn => I1.aside hD hn) hPP I2 hTT hnd
      have hS0 : s1.heap.objs.size + 5 ∉ Ts := fun z => hTS _ z rfl
      have f5 : H1 (s1.heap.objs.size + 5) = none := fresh _ (by lia)
      have f6 : H2 (s1.heap.objs.size + 5) = none := by rw [o3 _ hS0]; exact f5
      have as := I1.aside (H' := H2) (show s1.heap.objs.size ≤ s1.heap.objs.size + 5 by lia) f6
      have vT : Vals (Ts.map V.ref) (Ts.map Value.ref) := paired_of (by simp) fun k a b h1 h2 => by
       rw [List.getElem?_map] at h1 h2
       obtain ⟨T, e1, rfl⟩ := Option.map_eq_some_iff.mp h1
       rw [e1] at h2
       cases h2
       exact rfl
      have lz : (Ts.map V.ref).length ≤ sizeLine := by
       rw [List.length_map, hTl]
       simp
       lia
      have I4 : Inv X pins σ (upd H2 (s1.heap.objs.size + 5) (.lst (Ts.map V.ref))) { s1 with heap := h2 } := I3.track f6 as.ne as.ab as.cl as.pn ⟨lz, Ts.map Value.ref, c, vT, hS⟩
      refine ⟨.ref (s1.heap.objs.size + 5), _, I4, rfl, q _ Ts _ (fun b o e => by rw [upd_ne (ne_of_none e f5)]; exact s3 b o e) f5 upd_same ?_ hnd hS0⟩
      refine paired_of hTl2 fun k T pr h1 h3 => ?_
      have hTm := List.mem_of_getElem? h1
      refine ⟨?_, ?_⟩
      ·obtain ⟨z, _⟩ := hG k T h1
       exact fresh T z
      ·have : T ≠ s1.heap.objs.size + 5 := hTS T hTm
       rw [upd_ne this]
       have go : ∀ {as : List Addr} {bs : List (V × V)} {k : Nat} {T : Addr} {pr : V × V}, Paired (fun T (p : V × V) => H2 T = some (.tup [p.1, p.2])) as bs → as[k]? = some T → bs[k]? = some pr → H2 T = some (.tup [pr.1, pr.2]) := by
        intro as bs k T pr P
        induction P generalizing k with
        | nil => intro z; simp at z
        | cons r _ ih =>
          cases k with
          | zero => intro z1 z2; simp at z1 z2; subst z1 z2; exact r
          | succ k => intro z1 z2; exact ih (k := k) (by simpa using z1) (by simpa using z2)
       exact go P3 h1 h3
end
end L2
namespace L2
open PySem PySem.Spec PyProof.Rows
def rListRng : List V → Hp → VK → Prop := fun xs H Q => ∃ n : Nat, xs = [.int n] ∧ n ≤ 100000 ∧ ∀ l, H l = none → Q (.ref l) (upd H l (.lst (iL ((List.range n).map fun i : Nat => (i : Int)))))
section
variable {X : Cx} {a : Expr} {t : TA} {p p2 pos pos2 : Pos}
theorem pe_listRng (hc : X.calm = true) (hg : Gl X "list") (hm : X.mg "list" = none) (hg2 : Gl X "range") (hm2 : X.mg "range" = none) (ha : PA X [a] t)
 (hs : starEach [a] X.env = [(false, eval a X.env)] := by rfl)
 (hs3 : starEach [.Call (.Name "range" p2) [a] [] pos2] X.env = [(false, eval (.Call (.Name "range" p2) [a] [] pos2) X.env)] := by rfl) :
 PE X (.Call (.Name "list" p) [.Call (.Name "range" p2) [a] [] pos2] [] pos) (tCB rListRng t) := by
 walk_at "z0"
 refine wpAny_Call_Name_kw (ld_blt I hg hm bt_list ?_)
 refine PyProof.Rows.callWith_type1 (Q := EP X pins σ Q) ?_ (by rw [hs3]; rfl) (by rfl)
 rw [hs3]
 show wpAny _ _ (spliced [(false, eval (.Call (.Name "range" p2) [a] [] pos2) X.env)]) _ _ _
 refine Calls.spliced_cons (Call_ (ld_blt I hg2 hm2 boot_range (PyProof.Rows.callWith_type1 (thn (ha pos2 pins s σ H _ I h) fun us s1 ⟨vs, H1, I1, r1, q1⟩ => ?_) hs rfl)))
 obtain ⟨n, e, hn, q⟩ := q1
 subst e
 cases r1 with
 | cons r rr =>
   cases rr
   obtain ⟨tk, rfl⟩ := r
   refine call_range_1 (Calls.spliced_nil ?_)
   have hsz : Builtin.Range.rangeSize 0 (n : Int) 1 = (n : Int) := by
    unfold Builtin.Range.rangeSize
    rw [if_pos (by decide)]
    by_cases z : (0 : Int) < n
    ·rw [if_pos z, Int.ediv_one]; lia
    ·rw [if_neg z]; lia
   refine call_list_range (n := n) (I.ok.hd hc) (Heap.get?_push_size _ rfl) ?_ hsz (by lia) fun h' tk' acc c' kp hS hI => ?_
   ·unfold Builtin.Range.small
    rw [hsz]
    have f : ∀ k : Int, 0 ≤ k → k ≤ 100000 → Builtin.Range.rangeFitsLong k = true := fun k h0 h1 => by
     unfold Builtin.Range.rangeFitsLong
     simp
     lia
    rw [f 0 (by lia) (by lia), f n (by lia) (by lia), f 1 (by lia) (by lia), if_pos (by decide), f ((n : Int) + (1 - 1)) (by lia) (by lia)]
    simp
   ·have hsz2 : (s1.heap.push { cls := .type "range", data := .fields #[.int 0 s1.toks, .int (n : Int) tk, .int 1 (s1.toks + 1)] }).objs.size = s1.heap.objs.size + 1 := by simp [Heap.push]
    have hS' : h'.get? (s1.heap.objs.size + 1) = some { cls := .type "list", data := .seq acc c' } := by rw [← hsz2]; exact hS
    have hn1 : H1 (s1.heap.objs.size + 1) = none := I1.hok.fresh (Nat.le_succ _)
    have I2 := I1.kept (t' := tk') (h' := h') (fun b o z => kp b o (Heap.get?_push_of_some _ z))
    have as := I1.aside (Nat.le_succ s1.heap.objs.size) hn1
    obtain ⟨hI1, hI2⟩ := hI
    have hv : Vals (iL ((List.range n).map fun i : Nat => (i : Int))) acc.toList := paired_of (by simp [iL, hI1]) fun k a b e1 e2 => by
     rw [List.getElem?_map, List.getElem?_map] at e1
     obtain ⟨z, e3, rfl⟩ := Option.map_eq_some_iff.mp e1
     obtain ⟨z', e4, rfl⟩ := Option.map_eq_some_iff.mp e3
     obtain ⟨k1, k2⟩ := List.getElem?_eq_some_iff.mp e4
     rw [List.getElem_range] at k2
     subst k2
     obtain ⟨t2, rfl⟩ := hI2 k b (by rw [← Array.getElem?_toList]; exact e2)
     exact ⟨t2, by simp⟩
    have hz : (iL ((List.range n).map fun i : Nat => (i : Int))).length ≤ sizeLine := by
     have := sizeLine_eq
     simp [iL]
     lia
    rw [hsz2]
    exact ⟨.ref (s1.heap.objs.size + 1), upd H1 (s1.heap.objs.size + 1) (.lst (iL ((List.range n).map fun i : Nat => (i : Int)))), I2.track hn1 as.ne as.ab as.cl as.pn ⟨hz, acc.toList, c', hv, by simpa using hS'⟩, rfl, q _ hn1⟩
end
end L2
namespace L2
open PySem PySem.Spec PyProof.Rows
section
variable {prog : Program} {w : World} {A : Around} {E : Value → Shared → Prop} {s : Shared}
theorem isList_ext {h h' : Heap} {l b : Addr} {items : Array Value} (x : h.IsList l items) (e : Heap.ExtBut b h h') (n : l ≠ b) : h'.IsList l items := by
 obtain ⟨o, ho, r⟩ := x
 exact ⟨o, e l o n ho, r⟩
theorem draw_list {it t : Addr} {items : Array Value} (hne : t ≠ it) : ∀ (n i : Nat) (s : Shared) (Q : List Value → Shared → Prop), s.heap.IsListIter it t i → s.heap.IsList t items → i + n ≤ items.size →
 (∀ h', h'.IsListIter it t (i + n) → Heap.SameBut it s.heap h' → Q ((items.toList.drop i).take n) { s with heap := h' }) → wpAny (model prog w) A (draw (.ref it) n) Q E s
 | 0, i, s, Q, hit, _, _, hQ => by
   show wpAny _ _ (pure []) Q E s
   exact wpAny_pure (by simpa using hQ s.heap hit (Heap.SameBut.refl ..))
 | n + 1, i, s, Q, hit, ht, hle, hQ => by
   have hlt : i < items.size := by lia
   show wpAny _ _ (pyNext (.ref it) >>= _) Q E s
   refine wpAny_bind (wpAny_pyNext_list_item hit ht (x := items[i]) (by simp [hlt]) fun h₁ hit₁ hs₁ => ?_)
   refine wpAny_bind (wpAny_holding (draw_list hne n (i + 1) _ _ hit₁ (isList_ext ht hs₁.extBut hne) (by lia) fun h₂ hit₂ hs₂ => wpAny_pure ?_))
   have hd : items.toList.drop i = items[i] :: items.toList.drop (i + 1) := by simp [List.drop_eq_getElem_cons, hlt]
   have := hQ h₂ (by rw [show i + (n + 1) = i + 1 + n by lia]; exact hit₂) (hs₁.trans hs₂)
   rw [hd, List.take_succ_cons] at this
   exact this
theorem unpackItems_list {t : Addr} {items : Array Value} {Q : List Value → Shared → Prop} (hh : A.handled = none) (ht : s.heap.IsList t items)
 (hQ : ∀ h', Heap.ExtBut s.heap.objs.size s.heap h' → Q items.toList { s with heap := h' }) : wpAny (model prog w) A (unpackItems (.ref t) items.size none) Q E s := by
 have hlt : t ≠ s.heap.objs.size := by obtain ⟨o, ho, _⟩ := ht; exact Nat.ne_of_lt (Heap.lt_size ho)
 have push : ∀ o, (s.heap.push o).IsList t items := fun o => by
  obtain ⟨ob, ho, r⟩ := ht
  exact ⟨ob, Heap.get?_push_of_some _ ho, r⟩
 unfold unpackItems
 refine wpAny_bind ?_
 ·unfold notIterableAtAll
  refine wpAny_bind (wpAny_specialOf ht.typeIs slot_list_iter.lookup ?_)
  refine wpAny_pure ?_
  simp only [Bool.false_eq_true, if_false]
  refine wpAny_bind (wpAny_holding (wpAny_pyIter_list ht ?_))
  refine wpAny_bind (wpAny_holding (draw_list hlt items.size 0 _ _ ⟨_, Heap.get?_push_size _ rfl, rfl, rfl⟩ (push _) (by lia) fun h₁ hit₁ hs₁ => ?_))
  have hall : List.take items.size (List.drop 0 items.toList) = items.toList := by
   rw [List.drop_zero]; exact List.take_of_length_le (by simp)
  rw [hall]
  rw [if_neg (by simp)]
  have ht₁ : h₁.IsList t items := isList_ext (push _) hs₁.extBut hlt
  refine wpAny_bind (wpAny_holding (wpAny_pyNext_list_end hh hit₁ ht₁ (by simp) fun h₂ he₂ => ?_))
  simp only [Option.isSome_none, Bool.false_eq_true, if_false]
  refine wpAny_pure (hQ h₂ fun b o hb e => he₂ b o hb (hs₁.extBut b o hb (Heap.get?_push_of_some _ e)))
theorem assign_Tuple_list {env : Env} {elts : List Expr} {x1} {pos : Pos} {t : Addr} {items : Array Value} {Q : Unit → Shared → Prop} (hh : A.handled = none) (ht : s.heap.IsList t items)
 (hn : (assignEach elts env).length = items.size) (hstar : (assignEach elts env).findIdx? (·.1) = none)
 (h : ∀ h', Heap.ExtBut s.heap.objs.size s.heap h' → wpAny (model prog w) A (assignInOrder ((assignEach elts env).map (·.2)) items.toList) Q E { s with heap := h' }) :
 wpAny (model prog w) A (assign (.Tuple elts x1 pos) env (.ref t)) Q E s := by
 rw [assign_Tuple]
 refine wpAny_bind (wpAny_standAt ?_)
 unfold unpack
 rw [hn, hstar]
 exact wpAny_bind (wpAny_holding (unpackItems_list hh ht h))
end
section
variable {X : Cx} {pos : Pos}
def gLst (K : PySem.W.Frag) (n : Nat) (t : TGs) : TG := fun v σ H Q => ∃ a xs, v = .ref a ∧ SqL K H a xs ∧ xs.length = n ∧ t xs σ H Q
theorem pg_lst {es : List Expr} {k : Nat} {t : TGs} {n : Nat} (hc : X.calm = true) (h : PGs X es t)
 (hn : (assignEach es X.env).length = n := by rfl) (hst : (assignEach es X.env).findIdx? (·.1) = none := by rfl) : PG X (.Tuple es k pos) (gLst X.K n t) := by
 intro pins s σ H v u Q I r hw
 obtain ⟨a, xs, e1, hq, hl, hw⟩ := hw
 subst e1
 cases r
 obtain ⟨its, rv, ht, hz⟩ := I.list hq
 refine assign_Tuple_list (I.ok.hd hc) ht.isList (by simp [hn, ← hl, rv.length]) hst fun h' hx => ?_
 have I1 : Inv X pins σ H { s with heap := h' } := I.kept (t' := s.toks) fun b o e => hx b o (Nat.ne_of_lt (Heap.lt_size e)) e
 exact h pins _ σ H xs _ Q I1 (by simpa using rv) hw
theorem pg_lstK (K : PySem.W.Frag) {es : List Expr} {k : Nat} {t : TGs} (n : Nat) (h : PGs X es t) (hc : X.calm = true := by rfl) (hn : (assignEach es X.env).length = n := by rfl) (hst : (assignEach es X.env).findIdx? (·.1) = none := by rfl) (hK : X.K = K := by rfl) : PG X (.Tuple es k pos) (gLst K n t) := by
 subst hK; exact pg_lst hc h hn hst
end
end L2
namespace L2
open PySem PySem.Spec PyProof.Rows
section
variable {prog : Program} {w : World} {A : Around} {E : Value → Shared → Prop} {s : Shared}
theorem unpackItems_star {t : Addr} {items : Array Value} {i : Nat} {Q : List Value → Shared → Prop} (hh : A.handled = none) (ht : s.heap.IsList t items) (hi : i ≤ items.size) (hz : items.size ≤ sizeLine)
 (hQ : ∀ h' tk, Heap.ExtBut s.heap.objs.size s.heap h' → Q (items.toList.take i ++ [.ref h'.objs.size]) { s with heap := h'.push { cls := .type "list", data := .seq (items.toList.drop i).toArray }, toks := tk }) :
 wpAny (model prog w) A (unpackItems (.ref t) (i + 1) (some i)) Q E s := by
 have hlt : t ≠ s.heap.objs.size := by obtain ⟨o, ho, _⟩ := ht; exact Nat.ne_of_lt (Heap.lt_size ho)
 have push : ∀ o, (s.heap.push o).IsList t items := fun o => by
  obtain ⟨ob, ho, r⟩ := ht
  exact ⟨ob, Heap.get?_push_of_some _ ho, r⟩
 unfold unpackItems
 refine wpAny_bind ?_
 unfold notIterableAtAll
 refine wpAny_bind (wpAny_specialOf ht.typeIs slot_list_iter.lookup ?_)
 refine wpAny_pure ?_
 simp only [Bool.false_eq_true, if_false]
 refine wpAny_bind (wpAny_holding (wpAny_pyIter_list ht ?_))
 refine wpAny_bind (wpAny_holding (draw_list hlt i 0 _ _ ⟨_, Heap.get?_push_size _ rfl, rfl, rfl⟩ (push _) (by lia) fun h₁ hit₁ hs₁ => ?_))
 have ht₁ : h₁.IsList t items := isList_ext (push _) hs₁.extBut hlt
 rw [Nat.zero_add] at hit₁
 obtain ⟨oi, hoi, _⟩ := id hit₁
 obtain ⟨ol, hol, _⟩ := id ht₁
 rw [List.drop_zero]
 have hfl : (items.toList.take i).length = i := by rw [List.length_take, Array.length_toList]; lia
 rw [if_neg (show ¬ ((items.toList.take i).length < i) by rw [hfl]; lia)]
 refine wpAny_bind (wpAny_holding (PySem.W.kun_collect (s := { s with heap := h₁ }) (T := "list_iterator") (.inr (.inr (.inl rfl))) (Walks.list (A := A.in1) hh s.heap.objs.size t hlt items) (fun j u st => st.1.typeIs) (k := i) (by lia) ⟨hit₁, ht₁⟩ (Heap.lt_size hoi) (Heap.lt_size hol) (fun h₂ tk hk => ?_) hz))
 have hrl : (items.toList.drop i).length = items.size - i := by rw [List.length_drop, Array.length_toList]
 show wpAny _ _ (if (items.toList.drop i).length < i + 1 - 1 - i then _ else _) _ _ _
 rw [if_neg (by lia)]
 show wpAny _ _ (newList ((items.toList.drop i).take ((items.toList.drop i).length - (i + 1 - 1 - i))) >>= fun d => pure (items.toList.take i ++ [d] ++ (items.toList.drop i).drop ((items.toList.drop i).length - (i + 1 - 1 - i)))) _ _ _
 have e0 : i + 1 - 1 - i = 0 := by lia
 rw [e0, Nat.sub_zero, List.take_length, List.drop_length]
 have he : Heap.ExtBut s.heap.objs.size s.heap h₂ := fun b o hb e => hk b o hb (hs₁.extBut b o hb (Heap.get?_push_of_some _ e))
 refine wpAny_bind (wpAny_newList (s := { s with heap := h₂, toks := tk }) (wpAny_pure ?_) (by rw [hrl]; lia))
 rw [List.append_nil]
 exact hQ h₂ tk he
theorem assign_Tuple_star {env : Env} {elts : List Expr} {x1} {pos : Pos} {t : Addr} {items : Array Value} {i : Nat} {Q : Unit → Shared → Prop} (hh : A.handled = none) (ht : s.heap.IsList t items) (hi : i ≤ items.size) (hz : items.size ≤ sizeLine)
 (hn : (assignEach elts env).length = i + 1) (hstar : (assignEach elts env).findIdx? (·.1) = some i)
 (h : ∀ h' tk, Heap.ExtBut s.heap.objs.size s.heap h' → wpAny (model prog w) A (assignInOrder ((assignEach elts env).map (·.2)) (items.toList.take i ++ [.ref h'.objs.size])) Q E { s with heap := h'.push { cls := .type "list", data := .seq (items.toList.drop i).toArray }, toks := tk }) :
 wpAny (model prog w) A (assign (.Tuple elts x1 pos) env (.ref t)) Q E s := by
 rw [assign_Tuple]
 refine wpAny_bind (wpAny_standAt ?_)
 unfold unpack
 rw [hn, hstar]
 exact wpAny_bind (wpAny_holding (unpackItems_star hh ht hi hz h))
end
section
variable {X : Cx} {pos : Pos}
def gStar (K : PySem.W.Frag) (n : Nat) (t : TGs) : TG := fun v σ H Q => ∃ a xs, v = .ref a ∧ SqL K H a xs ∧ n ≤ xs.length ∧ ∀ p, H p = none → t (xs.take n ++ [.ref p]) σ (upd H p (.lst (xs.drop n))) Q
theorem pg_star {es : List Expr} {k : Nat} {t : TGs} {n : Nat} (hc : X.calm = true) (h : PGs X es t)
 (hn : (assignEach es X.env).length = n + 1 := by rfl) (hst : (assignEach es X.env).findIdx? (·.1) = some n := by rfl) : PG X (.Tuple es k pos) (gStar X.K n t) := by
 intro pins s σ H v u Q I r hw
 obtain ⟨a, xs, e1, hq, hl, hw⟩ := hw
 subst e1
 cases r
 obtain ⟨its, rv, ht, hz⟩ := I.list hq
 have hlen : its.length = xs.length := rv.length.symm
 refine assign_Tuple_star (I.ok.hd hc) ht.isList (by rw [List.size_toArray]; lia) (by rw [List.size_toArray]; lia) hn hst fun h' tk hx => ?_
 have I1 : Inv X pins σ H { s with heap := h', toks := tk } := I.kept (t' := tk) fun b o e => hx b o (Nat.ne_of_lt (Heap.lt_size e)) e
 have I2 := I1.laid (t' := tk) (o := .lst (xs.drop n)) (h' := h'.push { cls := .type "list", data := .seq (its.drop n).toArray }) (fun b ob q => Heap.get?_push_of_some _ q) (Nat.le_refl _) ?_
 ·exact h pins _ σ _ _ _ Q I2 (by simpa using (rv.take n).append (.cons (show RelV (.ref h'.objs.size) (.ref h'.objs.size) from rfl) .nil)) (hw _ (I1.hok.fresh (Nat.le_refl _)))
 ·exact ⟨by rw [List.length_drop]; lia, _, 0, rv.drop n, Heap.get?_push_size _ rfl⟩
theorem pg_starK (K : PySem.W.Frag) {es : List Expr} {k : Nat} {t : TGs} (n : Nat) (h : PGs X es t) (hc : X.calm = true := by rfl) (hn : (assignEach es X.env).length = n + 1 := by rfl) (hst : (assignEach es X.env).findIdx? (·.1) = some n := by rfl) (hK : X.K = K := by rfl) : PG X (.Tuple es k pos) (gStar K n t) := by
 subst hK; exact pg_star hc h hn hst
theorem pgs_star {e : Expr} {es : List Expr} {t : TG} {u : TGs} {p : Pos} (h1 : PG X e t) (h2 : PGs X es u) : PGs X (.Starred e p :: es) (gCons t u) := by
 intro pins s σ H vs us Q I r h
 obtain ⟨v, vr, e1, h⟩ := h
 subst e1
 cases r with
 | cons r rr =>
   show wpAny _ _ (assignInOrder (assign e X.env :: (assignEach es X.env).map (·.2)) _) _ _ s
   refine assignInOrder_cons (thn (h1 pins s σ H _ _ _ I r h) fun _ s1 ⟨σ1, H1, I1, q1⟩ => ?_)
   exact h2 pins s1 σ1 H1 _ _ Q I1 rr q1
end
end L2
namespace M
def gAll (ps L : List Int) (m : Nat) (c : Int) : List Int := (dragAll (ps.take m).reverse (L.take m).reverse c).reverse ++ c :: dragAll (ps.drop m) (L.drop (m + 1)) c
section
variable {ps L : List Int} {m : Nat} {c : Int}
theorem gA_len (hl : L.length = ps.length + 1) (hm : m ≤ ps.length) : (dragAll (ps.take m).reverse (L.take m).reverse c).reverse.length = m := by
 simp only [List.length_reverse, dragAll_length, List.length_take]
 lia
theorem gB_len (hl : L.length = ps.length + 1) (hm : m ≤ ps.length) : (dragAll (ps.drop m) (L.drop (m + 1)) c).length = ps.length - m := by
 rw [dragAll_length, List.length_drop, List.length_drop]
 lia
theorem gAll_len (hl : L.length = ps.length + 1) (hm : m ≤ ps.length) : (gAll ps L m c).length = L.length := by
 unfold gAll
 rw [List.length_append, gA_len hl hm, List.length_cons, gB_len hl hm]
 lia
end
def gRun (ps : List Int) : List Int → List (Int × Int) → List (List Int)
 | _, [] => []
 | L, g :: r => gAll ps L (g.1 + 1).toNat g.2 :: gRun ps (gAll ps L (g.1 + 1).toNat g.2) r
def gEnd (ps : List Int) : List Int → List (Int × Int) → List Int
 | L, [] => L
 | L, g :: r => gEnd ps (gAll ps L (g.1 + 1).toNat g.2) r
theorem gEnd_app (ps : List Int) : ∀ (r1 r2 : List (Int × Int)) (L : List Int), gEnd ps L (r1 ++ r2) = gEnd ps (gEnd ps L r1) r2
 | [], _, _ => rfl
 | g :: r1, r2, L => by simp only [List.cons_append, gEnd, gEnd_app ps r1 r2]
theorem gRun_app (ps : List Int) : ∀ (r1 r2 : List (Int × Int)) (L : List Int), gRun ps L (r1 ++ r2) = gRun ps L r1 ++ gRun ps (gEnd ps L r1) r2
 | [], _, _ => rfl
 | g :: r1, r2, L => by simp only [List.cons_append, gRun, gEnd, gRun_app ps r1 r2]
theorem gEnd_len {ps : List Int} : ∀ {r : List (Int × Int)} {L : List Int}, L.length = ps.length + 1 → (∀ g ∈ r, -1 ≤ g.1 ∧ g.1 < ps.length) → (gEnd ps L r).length = ps.length + 1
 | [], L, h, _ => h
 | g :: r, L, h, hv => by
   have := hv g List.mem_cons_self
   exact gEnd_len (r := r) (L := gAll ps L (g.1 + 1).toNat g.2) (by rw [gAll_len h (by lia)]; exact h) fun x hx => hv x (List.mem_cons_of_mem _ hx)
end M
namespace M
def tn : Int → Int → List Int → List Int
 | _, b, [] => [b]
 | a, b, c :: r => if decide (a < b) = decide (c < b) then b :: tn b c r else tn b c r
def tl (h : Int) : List Int → List Int
 | [] => []
 | c :: m => tn h c m
def turn : List Int → List Int
 | [] => []
 | a :: m => a :: tl a m
def ch : Int → List Int → Prop
 | _, [] => True
 | a, b :: r => b ≠ a ∧ ch b r
def rep (n : Nat) : List Int → List Int
 | [] => []
 | x :: r => List.replicate n x ++ rep n r
end M
namespace M
def btw (a c p : Int) : Prop := (a ≤ p ∧ p ≤ c) ∨ (c ≤ p ∧ p ≤ a)
def fo {σ : Type} (f : Int → σ → σ) (x : σ) (L : List Int) : σ := L.foldl (fun y p => f p y) x
structure Sys {σ : Type} (f : Int → σ → σ) : Prop where
 idem : ∀ p x, f p (f p x) = f p x
 wipe : ∀ (a c : Int) (L0 L1 : List Int) (x : σ), (∀ p ∈ L0, btw a c p) → (∀ p ∈ L1, btw a c p) → fo f x (L0 ++ a :: (L1 ++ [c])) = f c (f a x)
def LastT (row : List Int) (c : Int) (t : Nat) : Prop := row[t]? = some c ∧ ∀ k, t < k → row[k]? ≠ some c
structure Told (row S : List Int) (c : Int) (t : Nat) (b : Bool) : Prop where
 lt : LastT row c t
 en : ∃ ini, S = ini ++ [c]
 sub : ∀ p ∈ S, p ∈ row
 len : S.length ≤ t + 1
 side : ∀ p ∈ row.drop (t + 1), if b then p < c else c < p
 fold : ∀ (σ : Type) (f : Int → σ → σ), Sys f → ∀ x, fo f x (row.take (t + 1)) = fo f x S
end M
namespace M
inductive Gen (row : List Int) : List Int → Int → Nat → Bool → Prop
 | up {m M : Int} {tm tM : Nat} : LastT row m tm → LastT row M tM → (∀ p ∈ row, m ≤ p ∧ p ≤ M) → m ≠ M → tm < tM → Gen row [m, M] M tM true
 | down {m M : Int} {tm tM : Nat} : LastT row m tm → LastT row M tM → (∀ p ∈ row, m ≤ p ∧ p ≤ M) → m ≠ M → ¬ tm < tM → Gen row [M, m] m tm false
 | next {S : List Int} {c d : Int} {t u : Nat} {b : Bool} : Gen row S c t b → d ∈ row.drop (t + 1) → LastT row d u → (∀ p ∈ row.drop (t + 1), if b then d ≤ p else p ≤ d) → Gen row (S ++ [d]) d u (!b)
structure Other (O S : List Int) : Prop where
 rng : ∀ a c, S[0]? = some a → S[1]? = some c → ∀ p ∈ O, btw a c p
 mark : ∀ j c, S[j]? = some c → ∃ P R, O = P ++ c :: R ∧ (∀ d, S[j + 1]? = some d → d ∈ R ∧ ∀ p ∈ R, btw c d p) ∧ (S[j + 1]? = none → R = [])
def cl (l u y : Int) : Int := if y < l then l else if u < y then u else y
structure Grow (O S : List Int) (n : Nat) : Prop where
 rng : ∀ a c, S[0]? = some a → S[1]? = some c → ∀ p ∈ O, btw a c p
 mark : ∀ j c, j < n → S[j]? = some c → ∃ P R, O = P ++ c :: R ∧ (∀ d, S[j + 1]? = some d → (j + 1 < n → d ∈ R) ∧ ∀ p ∈ R, btw c d p) ∧ (j + 1 = n → R = [])
end M
namespace M
end M
set_option maxHeartbeats 2000000
namespace M
def gw (d a : Int) (row : List Int) : Int := way a (hung d a row)
end M
namespace M
section
variable {n : Nat} {D F G F' G' : Fn} {b : Int}
end
section
variable {ps ws gs : List Int} {h e : Int}
end
end M
namespace HT
open PySem PySem.Spec PyProof.Rows
section
variable {prog : Program} {w : World}
def IsStandKey (prog : Program) (w : World) (h : Heap) (p : Int × List Int) (a : Addr) : Prop :=
 ∃ o b t n, h.get? a = some o ∧ o.cls = .type "tuple" ∧ o.data = .seq #[.int p.1 t, .ref b] n ∧ IsTupleKey (intKind prog w) h p.2 b
theorem IsStandKey.typeIs {s : Shared} {p : Int × List Int} {a : Addr} (x : IsStandKey prog w s.heap p a) : s.TypeIs (.ref a) "tuple" := let ⟨o, _, _, _, ho, hc, _⟩ := x; ⟨o, ho, hc⟩
theorem IsStandKey.inj {h : Heap} {a : Addr} {x y : Int × List Int} (hx : IsStandKey prog w h x a) (hy : IsStandKey prog w h y a) : x = y := by
 obtain ⟨o, b, t, n, ho, _, hd, hi⟩ := hx
 obtain ⟨o', b', t', n', ho', _, hd', hi'⟩ := hy
 obtain rfl : o = o' := Option.some.inj (ho.symm.trans ho')
 rw [hd] at hd'
 injection hd' with h1 _
 have h2 : x.1 = y.1 ∧ b = b' := by
  have := congrArg Array.toList h1
  simp at this
  exact ⟨this.1.1, this.2⟩
 obtain ⟨h3, rfl⟩ := h2
 exact Prod.ext h3 (hi.inj hi')
theorem IsStandKey.keeps {h h' : Heap} {k : Int × List Int} {a d : Addr} {o : Obj} {es ep} (x : IsStandKey prog w h k a) (ho : h.get? d = some o) (hd : o.data = .dict es ep) (hs : Heap.SameBut d h h') :
 IsStandKey prog w h' k a := by
 obtain ⟨o', b, t, n, ho', hc, hd', hi⟩ := x
 have hne : a ≠ d := by
  rintro rfl
  obtain rfl : o' = o := Option.some.inj (ho'.symm.trans ho)
  rw [hd] at hd'; exact nomatch hd'
 exact ⟨o', b, t, n, (hs.2 a hne).trans ho', hc, hd', hi.keeps ho hd hs⟩
variable {A : Around} {E : Value → Shared → Prop} {s : Shared}
def standHash (prog : Program) (w : World) (p : Int × List Int) : Int := reduceHash (Builtin.Tuple.tupleHashOf [(intKind prog w).hash p.1, tupleKeyHash (intKind prog w) p.2])
theorem wpAny_pyHash_stand {p : Int × List Int} {a : Addr} {Q : Int → Shared → Prop} (hu : A.units + 1 < cLine) (hk : IsStandKey prog w s.heap p a) (h : Q (standHash prog w p) { s with toks := s.toks + (p.2.length + 3) }) :
 wpAny (model prog w) A (PySem.pyHash (.ref a)) Q E s := by
 have hT := hk.typeIs
 obtain ⟨o, b, t, n, ho, _, hd, hi⟩ := hk
 unfold PySem.pyHash
 first | unfold pyHashByItsType | skip
 first | refine wpAny_bind (wpAny_cRoomFor_or (.inr (by lia)) ?_) | skip
 refine wpAny_bind (wpAny_specialOf hT F.slot_tuple_hash.lookup ?_)
 show wpAny _ _ (if (some (Value.builtin "tuple.__hash__") == some Value.none) = true then _ else _) Q E s
 rw [if_neg (by rw [beq_builtin_none]; exact Bool.false_ne_true)]
 refine wpAny_bind (wpAny_specialOf hT F.slot_tuple_hash.lookup ?_)
 show wpAny _ _ (callSpecialIfBoundUnlessNone? (.ref a) "__hash__" _ >>= _) Q E s
 refine wpAny_bind (wpAny_callSpecialIfBoundUnlessNone?_slot hT F.slot_tuple_hash (wpAny_call_entry F.slot_tuple_hash hT F.entry_tuple_hash ?_ (F.args_tuple_hash_1 _)))
 show wpAny _ _ (Builtin.Tuple.tupleItemsOf (.ref a) >>= _) _ _ s
 refine wpAny_bind (wpAny_tupleItemsOf ho hd ?_)
 refine wpAny_bind ?_
 rw [← Array.forIn_toList]
 refine wpAny_forIn_list _
  (fun rest (bb : Array Int) s' => (rest = [Value.int p.1 t, Value.ref b] ∧ bb.toList = [] ∧ s' = s) ∨ (rest = [Value.ref b] ∧ bb.toList = [(intKind prog w).hash p.1] ∧ s' = { s with toks := s.toks + 1 }) ∨
   (rest = [] ∧ bb.toList = [(intKind prog w).hash p.1, tupleKeyHash (intKind prog w) p.2] ∧ s' = { s with toks := s.toks + 1 + (p.2.length + 1) }))
  _ ?_ ?_ _ _ (.inl ⟨rfl, rfl, rfl⟩)
 ·rintro x rest bb s' (⟨hr, hb, rfl⟩ | ⟨hr, hb, rfl⟩ | ⟨hr, _⟩)
  ·simp only [List.cons.injEq] at hr
   obtain ⟨rfl, rfl⟩ := hr
   refine wpAny_bind ((intKind prog w).pyHash (intKind_is prog w p.1 t) ?_)
   first
    | exact wpAny_pure (.inr (.inl ⟨rfl, by simp [hb], rfl⟩))
    | exact wpAny_bind (wpAny_pure (wpAny_pure (.inr (.inl ⟨rfl, by simp [hb], rfl⟩))))
  ·simp only [List.cons.injEq] at hr
   obtain ⟨rfl, rfl⟩ := hr
   refine wpAny_bind (wpAny_pyHash_tuple (knd := intKind prog w) (ks := p.2) (s := { s with toks := s.toks + 1 }) (by show A.units + 1 < cLine; lia) hi ?_)
   first
    | exact wpAny_pure (.inr (.inr ⟨rfl, by simp [hb], rfl⟩))
    | exact wpAny_bind (wpAny_pure (wpAny_pure (.inr (.inr ⟨rfl, by simp [hb], rfl⟩))))
  ·cases hr
 ·rintro bb s' (⟨hr, _⟩ | ⟨hr, _⟩ | ⟨_, hb, rfl⟩)
  ·cases hr
  ·cases hr
  show wpAny _ _ (retInt (Builtin.Tuple.tupleHashOf bb.toList)) _ _ _
  rw [hb]
  refine wpAny_ret_mkInt ?_
  unfold standHash reduceHash at h
  generalize Builtin.Tuple.tupleHashOf [(intKind prog w).hash p.1, tupleKeyHash (intKind prog w) p.2] = hv at h ⊢
  have e : s.toks + 1 + (p.2.length + 1) + 1 = s.toks + (p.2.length + 3) := by lia
  rw [← e] at h
  show wpAny _ _ (if (decide (-(2 : Int) ^ 63 ≤ hv) && decide (hv < 2 ^ 63)) = true then _ else _) Q E _
  by_cases hr : (decide (-(2 : Int) ^ 63 ≤ hv) && decide (hv < 2 ^ 63)) = true
  ·rw [if_pos hr]
   rw [if_pos hr] at h
   exact wpAny_pure h
  ·rw [if_neg hr]
   rw [if_neg hr] at h
   exact wpAny_bind (wpAny_rule (wpAny_pure h))
theorem stand_eq_tree {x y : Int × List Int} {a b : Addr} {P : Fin → Shared → Prop} (hu : A.units < cLine) (hx : IsStandKey prog w s.heap x a) (hy : IsStandKey prog w s.heap y b) (h : P (.done (.ret (.bool (decide (x = y))))) s) :
 wpAny (model prog w) A (Builtin.«tuple.__eq__» ⟨[.ref a, .ref b], []⟩) P E s := by
 have hTb := hy.typeIs
 obtain ⟨oa, b1, t1, n1, hoa, _, hda, hia⟩ := hx
 obtain ⟨ob, b2, t2, n2, hob, _, hdb, hib⟩ := hy
 show wpAny _ _ (isInstance (.ref b) (.type "tuple") >>= _) _ _ s
 refine wpAny_bind (wpAny_isInstance hTb isSubtype_tuple_tuple ?_)
 walk_at "z2"
 refine wpAny_bind (wpAny_tupleItemsOf hoa hda ?_)
 refine wpAny_bind (wpAny_tupleItemsOf hob hdb ?_)
 refine wpAny_bind ?_
 refine wpAny_forIn_list _
  (fun rest r s' => r.1 = none ∧ s' = s ∧ (rest = [(Value.int x.1 t1, Value.int y.1 t2), (Value.ref b1, Value.ref b2)] ∨ (rest = [(Value.ref b1, Value.ref b2)] ∧ x.1 = y.1) ∨ (rest = [] ∧ x = y)))
  _ ?_ ?_ _ _ ⟨rfl, rfl, .inl rfl⟩
 ·rintro ⟨u, v⟩ rest r s' ⟨hr, rfl, hz | ⟨hz, h1⟩ | ⟨hz, _⟩⟩
  ·simp only [List.cons.injEq, Prod.mk.injEq] at hz
   obtain ⟨⟨rfl, rfl⟩, rfl⟩ := hz
   refine wpAny_bind ((intKind prog w).eqBool (a := x.1) (b := y.1) (intKind_is prog w x.1 t1) (intKind_is prog w y.1 t2) ?_)
   by_cases hk : x.1 = y.1
   ·rw [decide_eq_true hk]
    walk_at "z2"
    exact wpAny_pure ⟨by first | rfl | trivial, by first | rfl | trivial, .inr (.inl ⟨by first | rfl | trivial, hk⟩)⟩
   ·rw [decide_eq_false hk]
    simp only [Bool.not_false, if_true]
    have hf : decide (x = y) = false := decide_eq_false fun e => hk (by rw [e])
    rw [hf] at h
    exact wpAny_bind (wpAny_pure (wpAny_pure (wpAny_pure h)))
  ·simp only [List.cons.injEq, Prod.mk.injEq] at hz
   obtain ⟨⟨rfl, rfl⟩, rfl⟩ := hz
   refine wpAny_bind (wpAny_eqBool_tuple (knd := intKind prog w) (x := x.2) (y := y.2) hu hia hib ?_)
   by_cases hk : x.2 = y.2
   ·rw [decide_eq_true hk]
    walk_at "z2"
    exact wpAny_pure ⟨by first | rfl | trivial, by first | rfl | trivial, .inr (.inr ⟨by first | rfl | trivial, Prod.ext h1 hk⟩)⟩
   ·rw [decide_eq_false hk]
    simp only [Bool.not_false, if_true]
    have hf : decide (x = y) = false := decide_eq_false fun e => hk (by rw [e])
    rw [hf] at h
    exact wpAny_bind (wpAny_pure (wpAny_pure (wpAny_pure h)))
  ·cases hz
 ·rintro ⟨r1, r2⟩ s' ⟨hr, rfl, hz | ⟨hz, _⟩ | ⟨_, hxy⟩⟩
  ·cases hz
  ·cases hz
  simp only at hr
  subst hr
  refine wpAny_pure ?_
  rw [decide_eq_true hxy] at h
  exact h
theorem wpAny_eqBool_stand {x y : Int × List Int} {a b : Addr} {Q : Bool → Shared → Prop} (hu : A.units + 1 < cLine) (hx : IsStandKey prog w s.heap x a) (hy : IsStandKey prog w s.heap y b) (h : Q (decide (x = y)) s) :
 wpAny (model prog w) A (PySem.eqBool (.ref a) (.ref b)) Q E s := by
 unfold PySem.eqBool
 try with_reducible refine wpAny_holding ?_
 show wpAny _ _ (if (Value.ref a == Value.ref b) = true then _ else _) Q E s
 by_cases hab : (Value.ref a == Value.ref b) = true
 ·rw [if_pos hab]
  have e : a = b := by have := eq_of_beq hab; injection this
  subst e
  obtain rfl := hx.inj hy
  exact wpAny_bind (wpAny_rule (wpAny_pure (by simpa using h)))
 ·rw [if_neg hab]
  exact wpAny_bind (wpAny_richCompare_same_room (op := .Eq) hx.typeIs hy.typeIs F.slot_tuple_eq
   (wpAny_call_entry F.slot_tuple_eq hx.typeIs F.entry_tuple_eq (stand_eq_tree (by show A.units + 1 < cLine; lia) hx hy ⟨_, rfl, (fun e => nomatch e), wpAny_truthy_bool h⟩) (F.args_tuple_eq_2 _ _)) (by lia))
theorem wpAny_quiet_tuple {n : Nat} {ks : List Int} {a : Addr} {Q : Bool → Shared → Prop} (hk : IsTupleKey (intKind prog w) s.heap ks a) (h : Q true s) : wpAny (model prog w) A (eqIsQuiet (n + 1) (.ref a)) Q E s := by
 have hT := hk.typeIs
 obtain ⟨o, items, n, ho, _, hd, hi⟩ := hk
 unfold eqIsQuiet
 refine wpAny_bind (wpAny_specialOf hT F.slot_tuple_eq.lookup ?_)
 show wpAny _ _ (isInstance (.ref a) (.type "tuple") >>= _) _ _ s
 refine wpAny_bind (wpAny_isInstance hT isSubtype_tuple_tuple ?_)
 walk_at "z2"
 refine wpAny_bind (wpAny_seqItems ho hd ?_)
 refine wpAny_bind ?_
 show wpAny _ _ (forIn items _ _) _ _ s
 rw [← Array.forIn_toList]
 refine wpAny_forIn_list _ (fun rest r s' => r.1 = none ∧ s' = s ∧ ∀ v ∈ rest, carriedByValue v = true) _ ?_ ?_ _ _ ⟨rfl, rfl, hi.byValue⟩
 ·rintro v rest r s' ⟨hr, rfl, hall⟩
  rw [eqIsQuiet_byValue _ (hall v List.mem_cons_self)]
  refine wpAny_bind (wpAny_pure ?_)
  walk_at "z2"
  exact wpAny_pure ⟨rfl, rfl, fun u hu' => hall u (List.mem_cons_of_mem _ hu')⟩
 ·rintro ⟨r1, r2⟩ s' ⟨hr, rfl, _⟩
  simp only at hr
  subst hr
  exact wpAny_pure h
theorem wpAny_quiet_stand {p : Int × List Int} {a : Addr} {Q : Bool → Shared → Prop} (hk : IsStandKey prog w s.heap p a) (h : Q true s) : wpAny (model prog w) A (eqIsQuiet 8 (.ref a)) Q E s := by
 have hT := hk.typeIs
 obtain ⟨o, b, t, n, ho, _, hd, hi⟩ := hk
 unfold eqIsQuiet
 refine wpAny_bind (wpAny_specialOf hT F.slot_tuple_eq.lookup ?_)
 show wpAny _ _ (isInstance (.ref a) (.type "tuple") >>= _) _ _ s
 refine wpAny_bind (wpAny_isInstance hT isSubtype_tuple_tuple ?_)
 walk_at "z2"
 refine wpAny_bind (wpAny_seqItems ho hd ?_)
 refine wpAny_bind ?_
 show wpAny _ _ (forIn _ _ _) _ _ s
 rw [← Array.forIn_toList]
 refine wpAny_forIn_list _ (fun rest r s' => r.1 = none ∧ s' = s ∧ ∀ v ∈ rest, v = Value.int p.1 t ∨ v = Value.ref b) _ ?_ ?_ _ _ ⟨rfl, rfl, by simp⟩
 ·rintro v rest r s' ⟨hr, rfl, hall⟩
  have hrest : ∀ v ∈ rest, v = Value.int p.1 t ∨ v = Value.ref b := fun u hu => hall u (List.mem_cons_of_mem _ hu)
  rcases hall v List.mem_cons_self with rfl | rfl
  ·rw [eqIsQuiet_byValue _ rfl]
   refine wpAny_bind (wpAny_pure ?_)
   walk_at "z2"
   exact wpAny_pure ⟨rfl, rfl, hrest⟩
  ·refine wpAny_bind (wpAny_quiet_tuple hi ?_)
   walk_at "z2"
   exact wpAny_pure ⟨rfl, rfl, hrest⟩
 ·rintro ⟨r1, r2⟩ s' ⟨hr, rfl, _⟩
  simp only at hr
  subst hr
  exact wpAny_pure h
end
def standKind (prog : Program) (w : World) : HeapKind prog w (Int × List Int) where
 is := IsStandKey prog w
 hash := standHash prog w
 draws := fun p => p.2.length + 3
 room := fun A => A.units + 1 < cLine
 inj := fun hx hy => hx.inj hy
 keeps := fun x ho hd hs => x.keeps ho hd hs
 pyHash := fun hu hk h => wpAny_pyHash_stand hu hk h
 eqBool := fun hu hx hy h => wpAny_eqBool_stand hu hx hy h
 quiet := fun hk h => wpAny_quiet_stand hk h
end HT
namespace L2
open PySem PySem.Spec PyProof.Rows
section
variable {prog : Program} {w : World} {A : Around} {E : Value → Shared → Prop} {s : Shared}
def RunsTo (prog : Program) (w : World) (A : Around) (vs : List Value) (s : Shared) (R : List Value → Prop) : Prop :=
 ∀ {E : Value → Shared → Prop} {P : SortSt → Shared → Prop}, (∀ (st : SortSt) (out : List Value), failedOf st = none → (arrOf st).map (·.2) = out.toArray → out.length = vs.length → R out → P st s) →
  wpAny (model prog w) A (do let kind ← keyKind' vs.toArray; let ((), st) ← (sortRuns').run (SortSt.mk' kind (vs.toArray.zip vs.toArray) #[] 7 none); pure st) P E s
theorem list_sort_raw {a : Addr} {vs : List Value} {n : Nat} {P : Fin → Shared → Prop} {R : List Value → Prop} (ho : s.heap.get? a = some (seqObj "list" vs.toArray n)) (h2 : 2 ≤ vs.length) (hz : vs.length ≤ sizeLine)
 (hr : ∀ h' : Heap, (∀ b o, b ≠ a → s.heap.get? b = some o → h'.get? b = some o) → RunsTo prog w A vs { s with heap := h' } R)
 (h : ∀ out : List Value, out.length = vs.length → R out → P (.done (.ret .none)) { s with heap := sortedHeap s.heap a vs out.toArray }) :
 wpAny (model prog w) A (Builtin.«list.sort» ⟨[.ref a], []⟩) P E s := by
 rw [list_sort_plain]
 have ha : a < s.heap.objs.size := Heap.lt_size ho
 refine wpAny_bind (listItems_at ho rfl ?_)
 refine wpAny_bind (listUpdate_at ho rfl ?_ (by rw [List.size_toArray]; exact hz) (Nat.zero_le _))
 obtain ⟨e1, ho1⟩ : ∃ e1, (s.heap.update a (Obj.mapSeq fun _ => #[])).get? a = some (seqObj "list" #[] e1) := ⟨_, get?_update_seq ho (fun _ => #[])⟩
 refine wpAny_bind (seqEpoch_at ho1 rfl ?_)
 refine wpAny_bind (wpAny_newTuple ?_ (by show vs.length ≤ _; exact hz))
 refine wpAny_bind (wpAny_newList ?_ (Nat.zero_le _))
 refine wpAny_holding ?_
 have ho6 : (((s.heap.update a (Obj.mapSeq fun _ => #[])).push (seqObj "tuple" vs.toArray 0)).push (seqObj "list" #[] 0)).get? a = some (seqObj "list" #[] e1) := by
  rw [Heap.get?_push_ne _ _ _ (by rw [size_push', Heap.size_update]; exact Nat.ne_of_lt (Nat.lt_succ_of_lt ha)), Heap.get?_push_ne _ _ _ (by rw [Heap.size_update]; exact Nat.ne_of_lt ha)]
  exact ho1
 have keep : ∀ b o, b ≠ a → s.heap.get? b = some o → (((s.heap.update a (Obj.mapSeq fun _ => #[])).push (seqObj "tuple" vs.toArray 0)).push (seqObj "list" #[] 0)).get? b = some o := fun b o hb q => by
  have hlt := Heap.lt_size q
  rw [Heap.get?_push_ne _ _ _ (by rw [size_push', Heap.size_update]; exact Nat.ne_of_lt (Nat.lt_succ_of_lt hlt)), Heap.get?_push_ne _ _ _ (by rw [Heap.size_update]; exact Nat.ne_of_lt hlt), Heap.get?_update_ne _ _ _ _ hb]
  exact q
 show wpAny (model prog w) A _ P E { s with heap := ((s.heap.update a (Obj.mapSeq fun _ => #[])).push (seqObj "tuple" vs.toArray 0)).push (seqObj "list" #[] 0) }
 dsimp only
 have hn2 : ¬ vs.toArray.size < 2 := by rw [List.size_toArray]; lia
 rw [if_neg hn2, if_neg hn2]
 have run := hr _ keep (E := E) (P := fun st s' => wpAny (model prog w) A (do
  let sorted := (arrOf st).map (·.2)
  let touched := (← seqEpoch a) != e1
  Builtin.List.listUpdate (.ref a) fun _ => sorted
  if let some e := failedOf st then rule "list.sort.comparison-raised"; throw e
  if touched then rule "list.sort.modified"; raiseError "ValueError" "list modified during sort"
  ret .none) P E s') (fun st out hf har hl hR => ?_)
 ·have := wpAny_bind run
  simp only [bind_assoc, pure_bind] at this
  exact this
 ·rw [har]
  refine wpAny_bind (seqEpoch_at ho6 rfl ?_)
  refine wpAny_bind (listUpdate_at ho6 rfl ?_ (Nat.zero_le _) (by show out.toArray.size ≤ _; rw [List.size_toArray]; lia))
  rw [hf]
  simp only [bne_self_eq_false, Bool.false_eq_true, if_false]
  exact wpAny_pure (h out hl hR)
end
section
variable {X : Cx}
end
end L2
namespace L2
open PySem PySem.Spec PyProof.Rows
def gallop' : Bool → Keyed → Array Keyed → Nat → Nat → Nat → StateT SortSt Sem (Option Nat) := sortPriv% PySem.Builtin.gallop
local macro_rules | `(tactic| walk_at "gallop") => do
 let n := Lean.mkIdent ((Lean.Name.num `_private.PySem.Builtin.List.W1All 0) ++ `PySem.Builtin.gallop)
 `(tactic| (delta gallop'; delta $n:ident; dsimp only))
def R (ρ : Keyed → Int) (xs : Array Keyed) (i : Nat) : Int := (xs[i]?).elim 0 ρ
section
variable {prog : Program} {w : World} {A : Around} {E : Value → Shared → Prop} {s : Shared} {a₀ : Array Keyed} {ρ : Keyed → Int} {k0 : SortKind}
def bey (ρ : Keyed → Int) (left : Bool) (key : Keyed) (v : Int) : Bool := if left then decide (v < ρ key) else !decide (ρ key < v)
end
end L2
namespace L2
open PySem PySem.Spec PyProof.Rows
section
variable {ρ : Keyed → Int} {a b out : Array Keyed} {ia ib k : Nat}
def Ls (ρ : Keyed → Int) (l : List Keyed) : Prop := l.Pairwise fun x y => ρ x ≤ ρ y
structure MI (ρ : Keyed → Int) (a b out : Array Keyed) (ia ib : Nat) : Prop where
 la : ia ≤ a.size
 lb : ib ≤ b.size
 pm : out.toList.Perm (a.toList.take ia ++ b.toList.take ib)
 so : Ls ρ out.toList
 le : ∀ x ∈ out.toList, ∀ y ∈ a.toList.drop ia ++ b.toList.drop ib, ρ x ≤ ρ y
end
end L2
namespace L2
open PySem PySem.Spec PyProof.Rows
def mergeLo' : Array Keyed → Array Keyed → StateT SortSt Sem (Array Keyed) := sortPriv% PySem.Builtin.mergeLo
def setMinGallop' : Nat → StateT SortSt Sem Unit := sortPriv% PySem.Builtin.setMinGallop
local macro_rules | `(tactic| walk_at "mergeLo") => do
 let n := Lean.mkIdent ((Lean.Name.num `_private.PySem.Builtin.List.W1All 0) ++ `PySem.Builtin.mergeLo)
 `(tactic| (delta mergeLo'; delta $n:ident; dsimp only))
local macro_rules | `(tactic| walk_at "setMin") => do
 let n := Lean.mkIdent ((Lean.Name.num `_private.PySem.Builtin.List.W1All 0) ++ `PySem.Builtin.setMinGallop)
 `(tactic| (delta setMinGallop'; delta $n:ident))
structure GS (st st' : SortSt) : Prop where
 kd : kindOf st' = kindOf st
 ar : arrOf st' = arrOf st
 pe : pendingOf st' = pendingOf st
 fl : failedOf st' = failedOf st
section
variable {prog : Program} {w : World} {A : Around} {E : Value → Shared → Prop} {s : Shared} {a₀ : Array Keyed} {ρ : Keyed → Int} {k0 : SortKind} {a b : Array Keyed}
end
end L2
namespace L2
open PySem PySem.Spec PyProof.Rows
section
variable {ρ : Keyed → Int} {a b out : Array Keyed} {na nb k : Nat}
structure MH (ρ : Keyed → Int) (a b out : Array Keyed) (na nb : Nat) : Prop where
 la : na ≤ a.size
 lb : nb ≤ b.size
 pm : out.toList.Perm (a.toList.drop na ++ b.toList.drop nb)
 so : Ls ρ out.toList.reverse
 le : ∀ y ∈ out.toList, ∀ x ∈ a.toList.take na ++ b.toList.take nb, ρ x ≤ ρ y
end
end L2
namespace L2
open PySem PySem.Spec PyProof.Rows
def mergeHi' : Array Keyed → Array Keyed → StateT SortSt Sem (Array Keyed) := sortPriv% PySem.Builtin.mergeHi
local macro_rules | `(tactic| walk_at "mergeHi") => do
 let n := Lean.mkIdent ((Lean.Name.num `_private.PySem.Builtin.List.W1All 0) ++ `PySem.Builtin.mergeHi)
 `(tactic| (delta mergeHi'; delta $n:ident; dsimp only))
section
variable {prog : Program} {w : World} {A : Around} {E : Value → Shared → Prop} {s : Shared} {a₀ : Array Keyed} {ρ : Keyed → Int} {k0 : SortKind} {a b : Array Keyed}
end
end L2
namespace L2
open PySem PySem.Spec PyProof.Rows
section
variable {prog : Program} {w : World} {A : Around} {E : Value → Shared → Prop} {s : Shared} {a₀ : Array Keyed} {ρ : Keyed → Int} {k0 : SortKind}
structure SB (a₀ : Array Keyed) (k0 : SortKind) (st : SortSt) : Prop where
 pm : (arrOf st).Perm a₀
 kd : kindOf st = k0
 fl : failedOf st = none
structure Ch (lo hi : Nat) (st st' : SortSt) : Prop where
 kd : kindOf st' = kindOf st
 pe : pendingOf st' = pendingOf st
 fl : failedOf st' = failedOf st
 pm : (arrOf st').Perm (arrOf st)
 ke : ∀ j, j < lo ∨ hi ≤ j → (arrOf st')[j]? = (arrOf st)[j]?
end
end L2
namespace L2
open PySem PySem.Spec PyProof.Rows
section
variable {prog : Program} {w : World} {A : Around} {E : Value → Shared → Prop} {s : Shared} {a₀ : Array Keyed} {ρ : Keyed → Int} {k0 : SortKind}
end
end L2
namespace L2
open PySem PySem.Spec PyProof.Rows
local macro_rules | `(tactic| walk_at "mergeAt") => do
 let n := Lean.mkIdent ((Lean.Name.num `_private.PySem.Builtin.List.W1All 0) ++ `PySem.Builtin.mergeAt)
 `(tactic| (delta mergeAt'; delta $n:ident; dsimp only))
section
variable {prog : Program} {w : World} {A : Around} {E : Value → Shared → Prop} {s : Shared} {a₀ : Array Keyed} {ρ : Keyed → Int} {k0 : SortKind}
end
end L2
namespace L2
open PySem PySem.Spec PyProof.Rows
section
variable {prog : Program} {w : World} {A : Around} {E : Value → Shared → Prop} {s : Shared} {a₀ : Array Keyed} {ρ : Keyed → Int} {k0 : SortKind}
end
end L2
namespace L2
open PySem PySem.Spec PyProof.Rows
section
variable {prog : Program} {w : World} {A : Around} {E : Value → Shared → Prop} {s : Shared}
end
section
variable {X : Cx}
end
end L2
namespace L2
open PySem PySem.Spec PyProof.Rows
def IsPair (h : Heap) (v : Value) : Prop := ∃ x o n i j ti tj, v = .ref x ∧ h.get? x = some o ∧ o.cls = .type "tuple" ∧ o.data = .seq #[.int i ti, .int j tj] n
section
variable {prog : Program} {w : World} {A : Around} {E : Value → Shared → Prop} {s : Shared}
end
end L2
namespace L2
open PySem PySem.Spec PyProof.Rows HT
section
variable {prog : Program} {w : World} {A : Around} {E : Value → Shared → Prop} {s : Shared}
end
end L2
namespace L2
open PySem PySem.Spec PyProof.Rows
def DRaw (h : Heap) (d : Addr) (es : Array DictEntry) (ep : Nat) : Prop := ∃ o, h.get? d = some o ∧ o.ExactDict ∧ o.data = .dict es ep
theorem DRaw.typeIs {s : Shared} {d : Addr} {es : Array DictEntry} {ep : Nat} (x : DRaw s.heap d es ep) : s.TypeIs (.ref d) "dict" := by
 obtain ⟨o, g, c, _⟩ := x
 exact ⟨o, g, c.1⟩
section
variable {prog : Program} {w : World} {A : Around} {E : Value → Shared → Prop} {s : Shared} {it d : Addr} {i ep : Nat} {es : Array DictEntry}
theorem raw_iter {Q : Value → Shared → Prop} (ns : (d == sysModules) = false) (x : DRaw s.heap d es ep)
 (q : Q (.ref s.heap.objs.size) { s with heap := s.heap.push { cls := .type "dict_keyiterator", data := .fields #[.ref d, .int 0 0, .int es.size 0, .int ep 0] } }) :
 wpAny (model prog w) A (pyIter (.ref d)) Q E s := by
 have tD := x.typeIs
 obtain ⟨o, g, c, e⟩ := x
 refine wpAny_pyIter_slot tD F.slot_dict_iter ?_
 refine wpAny_call_entry F.slot_dict_iter tD F.entry_dict_iter ?_ (F.args_dict_iter_1 _)
 unfold Builtin.«dict.__iter__»
 refine wpAny_bind ?_
 unfold Builtin.Dict.dictSlotNone
 refine wpAny_bind (wpAny_notOrdered_dict tD (wpAny_pure ?_))
 refine wpAny_bind ?_
 refine (wpAny_pure ?_ : wpAny _ _ (pure d) _ _ s)
 unfold Builtin.Dict.showsAll
 refine wpAny_bind ?_
 rw [if_neg (fun z => by rw [ns] at z; cases z)]
 refine wpAny_pure (wpAny_bind (wpAny_dictEntries g e (wpAny_bind (wpAny_dictEpoch g e ?_))))
 have lk := F.slot_dict_keyiterator_next.lookup
 refine wpAny_bind (wpAny_newObj_type (wpAny_pure ⟨_, rfl, "dict_keyiterator", _, ⟨_, Heap.get?_push_size _ rfl, rfl⟩, lk, ?_⟩))
 simpa [rawInt] using q
theorem raw_item {en : DictEntry} {Q : Option Value → Shared → Prop} (k : s.heap.IsKeyIter it d i es.size ep) (x : DRaw s.heap d es ep) (hx : es[i]? = some en)
 (q : ∀ h', h'.IsKeyIter it d (i + 1) es.size ep → Heap.SameBut it s.heap h' → Q (some en.key) { s with heap := h' }) :
 wpAny (model prog w) A (pyNext (.ref it)) Q E s := by
 have tI := k.typeIs
 obtain ⟨oI, gI, cI, dI⟩ := id k
 obtain ⟨oD, gD, cD, dD⟩ := x
 obtain ⟨lt, rfl⟩ := Array.getElem?_eq_some_iff.mp hx
 unfold pyNext
 refine wpAny_bind (wpAny_attempt (wpAny_callSpecial?_slot (name := Str.ofString "__next__") tI F.slot_dict_keyiterator_next ?_))
 refine wpAny_call_entry F.slot_dict_keyiterator_next tI F.entry_dict_keyiterator_next ?_ (F.args_dict_keyiterator_next_1 _)
 refine wpAny_bind (wpAny_pure (wpAny_bind (wpAny_bind ?_)))
 first | refine wpAny_bind (wpAny_typeNameOfWhole_keyiter tI (wpAny_pure ?_)) | refine wpAny_bind (wpAny_typeNameOf_keyiter tI (wpAny_pure ?_))
 refine wpAny_bind (wpAny_fieldsOf gI dI ?_)
 simp only [show Builtin.Dict_items.ownsTuple "dict_keyiterator" = false by decide, Bool.false_eq_true, if_false]
 refine (?_ : wpAny _ _ (ite ((Value.ref d == Value.none) = true) _ _) _ _ s)
 rw [if_neg (fun z : (Value.ref d == Value.none) = true => Bool.false_ne_true z)]
 refine wpAny_bind (wpAny_pure (wpAny_bind (wpAny_dictEntries gD dD ?_)))
 rw [if_neg (by simp)]
 refine wpAny_bind (wpAny_pure (wpAny_bind (wpAny_dictEpoch gD dD ?_)))
 rw [if_neg (by simp)]
 refine wpAny_pure ?_
 simp only [show ¬ ((i : Int) < 0) by lia, if_false, Int.toNat_natCast, Array.getElem?_eq_getElem lt]
 refine wpAny_bind ?_
 first | refine wpAny_bind (wpAny_typeNameOfWhole_keyiter tI (wpAny_pure ?_)) | refine wpAny_bind (wpAny_typeNameOf_keyiter tI (wpAny_pure ?_))
 refine wpAny_bind (wpAny_isOneOf_keyiter tI ?_)
 refine (?_ : wpAny _ _ (setField (.ref it) 1 (rawInt ((i : Int) + 1)) >>= _) _ _ s)
 refine wpAny_bind (wpAny_setField gI dI (by simp) ?_)
 have k2 : (s.heap.update it (Obj.mapFields (·.setIfInBounds 1 (rawInt ((i : Int) + 1))))).IsKeyIter it d (i + 1) es.size ep := by
  refine ⟨_, Heap.get?_update_self _ gI (Obj.isFreed_of_fields (Obj.data_mapFields dI _)), (Obj.cls_mapFields ..).trans cI, ?_⟩
  rw [Obj.data_mapFields dI]
  simp [rawInt]
 refine wpAny_bind (wpAny_holding (wpAny_bind (wpAny_isOneOf_keyiter k2.typeIs ?_)))
 exact wpAny_pure (wpAny_pure ⟨_, rfl, wpAny_pure (q _ k2 (Heap.SameBut.update ..))⟩)
theorem raw_end {Q : Option Value → Shared → Prop} (hh : A.handled = none) (k : s.heap.IsKeyIter it d i es.size ep) (x : DRaw s.heap d es ep) (hx : es.size ≤ i)
 (q : ∀ h', Heap.ExtBut it s.heap h' → Q none { s with heap := h' }) : wpAny (model prog w) A (pyNext (.ref it)) Q E s := by
 have tI := k.typeIs
 obtain ⟨oI, gI, cI, dI⟩ := id k
 obtain ⟨oD, gD, cD, dD⟩ := x
 unfold pyNext
 refine wpAny_bind (wpAny_attempt (wpAny_callSpecial?_slot (name := Str.ofString "__next__") tI F.slot_dict_keyiterator_next ?_))
 refine wpAny_call_entry F.slot_dict_keyiterator_next tI F.entry_dict_keyiterator_next ?_ (F.args_dict_keyiterator_next_1 _)
 refine wpAny_bind (wpAny_pure (wpAny_bind (wpAny_bind ?_)))
 first | refine wpAny_bind (wpAny_typeNameOfWhole_keyiter tI (wpAny_pure ?_)) | refine wpAny_bind (wpAny_typeNameOf_keyiter tI (wpAny_pure ?_))
 refine wpAny_bind (wpAny_fieldsOf gI dI ?_)
 simp only [show Builtin.Dict_items.ownsTuple "dict_keyiterator" = false by decide, Bool.false_eq_true, if_false]
 refine (?_ : wpAny _ _ (ite ((Value.ref d == Value.none) = true) _ _) _ _ s)
 rw [if_neg (fun z : (Value.ref d == Value.none) = true => Bool.false_ne_true z)]
 refine wpAny_bind (wpAny_pure (wpAny_bind (wpAny_dictEntries gD dD ?_)))
 rw [if_neg (by simp)]
 refine wpAny_bind (wpAny_pure (wpAny_bind (wpAny_dictEpoch gD dD ?_)))
 rw [if_neg (by simp)]
 refine wpAny_pure ?_
 simp only [show ¬ ((i : Int) < 0) by lia, if_false, Int.toNat_natCast, Array.getElem?_eq_none hx]
 refine wpAny_bind ?_
 first | refine wpAny_bind (wpAny_typeNameOfWhole_keyiter tI (wpAny_pure ?_)) | refine wpAny_bind (wpAny_typeNameOf_keyiter tI (wpAny_pure ?_))
 refine (?_ : wpAny _ _ (setField (.ref it) 0 .none >>= _) _ _ s)
 refine wpAny_bind (wpAny_setField gI dI (by simp) (wpAny_bind ?_))
 simp only [newExc, newTuple]
 refine wpAny_bind (wpAny_newObj_type ?_ (by size_fits))
 refine wpAny_bind (m := firstArgMember _ _) (wpAny_of_eq (a := Value.none) (by first | rfl | (simp only [firstArgMember]; rfl)) (wpAny_newObj_type ?_ (by size_fits)))
 simp only [raiseNew]
 refine wpAny_bind (wpAny_handled ?_)
 rw [show A.in1.handled = none by exact hh]
 refine wpAny_bind (wpAny_pure (wpAny_throw (wpAny_bind ?_)))
 refine wpAny_isInstance (b := true) (T := "StopIteration") ⟨_, Heap.get?_push_size _ rfl, rfl⟩ isSubtype_stop (wpAny_pure ?_)
 exact q _ (((Heap.SameBut.update ..).extBut.push _).push _)
theorem DRaw.at_ {h h' : Heap} (x : DRaw h d es ep) (e : ∀ o, h.get? d = some o → h'.get? d = some o) : DRaw h' d es ep := let ⟨o, g, r⟩ := x; ⟨o, e _ g, r⟩
theorem raw_walks (hh : A.handled = none) (I d : Addr) (hne : d ≠ I) (es : Array DictEntry) (ep : Nat) :
 Walks prog w A I [I, d] [I] es.size (fun i v => ∃ en, es[i]? = some en ∧ v = en.key) (fun i h => h.IsKeyIter I d i es.size ep ∧ DRaw h d es ep) where
 sub := fun b hb => by simp at hb; simp [hb]
 frame := fun i h h' st hk => ⟨st.1.at fun o e => hk I (by simp) o e, st.2.at_ fun o e => hk d (by simp) o e⟩
 item := fun i s Q E hi st hQ => by
  refine raw_item st.1 st.2 (Array.getElem?_eq_getElem hi) fun h' k' sb => ?_
  exact hQ _ h' s.toks ⟨_, Array.getElem?_eq_getElem hi, rfl⟩ ⟨k', st.2.at_ fun o e => sb.extBut d o hne e⟩ fun b o nb e => sb.extBut b o (fun z => nb (by simp [z])) e
 done := fun s Q E st hQ => raw_end hh st.1 st.2 (Nat.le_refl _) fun h' x => hQ h' s.toks fun b o nb e => x b o (fun z => nb (by simp [z])) e
 self := fun i s Q E st hQ => wpAny_pyIter_keyiter st.1 hQ
theorem raw_src (ns : (d == sysModules) = false) : PySem.W.KdlSrc prog w "dict" d d es.size (fun i v => ∃ en, es[i]? = some en ∧ v = en.key) (fun h => DRaw h d es ep) where
 type := fun _ x => x.typeIs
 there := fun _ ⟨_, g, _⟩ => ⟨Heap.lt_size g, Heap.lt_size g⟩
 keep := fun _ _ x hk => x.at_ fun o e => hk d (.inl rfl) o e
 notList := by decide
 notTuple := by decide
 hint := fun _ _ _ _ x q => PySem.W.kdl_hint_dict x.typeIs q
 iter := fun A s hh x => by
  obtain ⟨o, g, c, e⟩ := id x
  exact ⟨_, _, fun E Q q => raw_iter ns x q, raw_walks hh _ d (Nat.ne_of_lt (Heap.lt_size g)) es ep, ⟨⟨_, Heap.get?_push_size _ rfl, rfl, rfl⟩, x.at_ fun o' e' => Heap.get?_push_of_some _ e'⟩⟩
end
end L2
namespace L2
open PySem PySem.Spec PyProof.Rows
section
variable {prog : Program} {w : World} {A : Around} {E : Value → Shared → Prop} {s : Shared}
theorem list_sort_short {a : Addr} {vs : List Value} {n : Nat} {P : Fin → Shared → Prop} (ho : s.heap.get? a = some (seqObj "list" vs.toArray n)) (h2 : vs.length < 2)
 (h : P (.done (.ret .none)) { s with heap := sortedHeap s.heap a vs vs.toArray }) :
 wpAny (model prog w) A (Builtin.«list.sort» ⟨[.ref a], []⟩) P E s := by
 have hz : vs.length ≤ sizeLine := szl (by lia)
 rw [list_sort_plain]
 have ha : a < s.heap.objs.size := Heap.lt_size ho
 refine wpAny_bind (listItems_at ho rfl ?_)
 refine wpAny_bind (listUpdate_at ho rfl ?_ (by rw [List.size_toArray]; exact hz) (Nat.zero_le _))
 obtain ⟨e1, ho1⟩ : ∃ e1, (s.heap.update a (Obj.mapSeq fun _ => #[])).get? a = some (seqObj "list" #[] e1) := ⟨_, get?_update_seq ho (fun _ => #[])⟩
 refine wpAny_bind (seqEpoch_at ho1 rfl ?_)
 refine wpAny_bind (wpAny_newTuple ?_ (by show vs.length ≤ _; exact hz))
 refine wpAny_bind (wpAny_newList ?_ (Nat.zero_le _))
 refine wpAny_holding ?_
 have ho6 : (((s.heap.update a (Obj.mapSeq fun _ => #[])).push (seqObj "tuple" vs.toArray 0)).push (seqObj "list" #[] 0)).get? a = some (seqObj "list" #[] e1) := by
  rw [Heap.get?_push_ne _ _ _ (by rw [size_push', Heap.size_update]; exact Nat.ne_of_lt (Nat.lt_succ_of_lt ha)), Heap.get?_push_ne _ _ _ (by rw [Heap.size_update]; exact Nat.ne_of_lt ha)]
  exact ho1
 show wpAny (model prog w) A _ P E { s with heap := ((s.heap.update a (Obj.mapSeq fun _ => #[])).push (seqObj "tuple" vs.toArray 0)).push (seqObj "list" #[] 0) }
 dsimp only
 have hn2 : vs.toArray.size < 2 := by rw [List.size_toArray]; lia
 rw [if_pos hn2, if_pos hn2]
 refine wpAny_bind (wpAny_pure ?_)
 simp only [StateT.run_pure]
 refine wpAny_bind (wpAny_pure ?_)
 dsimp only
 have har : (vs.toArray.zip vs.toArray).map (·.2) = vs.toArray := by
  apply Array.ext'
  rw [Array.toList_map, Array.toList_zip]
  simp [List.map_snd_zip]
 refine wpAny_bind (seqEpoch_at ho6 rfl ?_)
 refine wpAny_bind (listUpdate_at ho6 rfl ?_ (Nat.zero_le _) (by show ((vs.toArray.zip vs.toArray).map (·.2)).size ≤ _; rw [har, List.size_toArray]; lia))
 simp only [bne_self_eq_false, Bool.false_eq_true, if_false]
 rw [har]
 exact wpAny_pure h
theorem sorted_dict {d : Addr} {es : Array DictEntry} {ep : Nat} {Q : Value → Shared → Prop} {R : List Value → Prop} (hh : A.handled = none) (ns : (d == sysModules) = false) (x : DRaw s.heap d es ep) (hz : es.size ≤ sizeLine)
 (hr : 2 ≤ es.size → ∀ (h' : Heap) (tk : Nat), (∀ b o, s.heap.get? b = some o → h'.get? b = some o) → RunsTo prog w A.in1.in1 (es.toList.map (·.key)) { s with heap := h', toks := tk } R)
 (h : ∀ (h' : Heap) (tk : Nat) (l : Addr) (out : List Value) (n : Nat), (∀ b o, s.heap.get? b = some o → h'.get? b = some o) → s.heap.get? l = none → h'.get? l = some (seqObj "list" out.toArray n) → out.length = es.size → (2 ≤ es.size → R out) → (es.size < 2 → out = es.toList.map (·.key)) → Q (.ref l) { s with heap := h', toks := tk }) :
 wpAny (model prog w) A (call (.builtin "sorted") [.ref d]) Q E s := by
 refine Calls.call_function_entry kind_sorted plain_sorted entry_sorted (args_sorted1 _) ?_
 unfold Builtin.«sorted»
 refine wpAny_bind (m := checkCount "sorted" 1 1 _) (wpAny_pure ?_)
 refine wpAny_bind (PySem.W.kdu_collect (raw_src (prog := prog) (w := w) (es := es) (ep := ep) ns) hh x hz fun h1 tk acc k1 it => ?_)
 have hacc : acc.toList = es.toList.map (·.key) := by
  refine List.ext_getElem? fun j => ?_
  rw [Array.getElem?_toList, List.getElem?_map, Array.getElem?_toList]
  cases hj : acc[j]? with
  | none =>
    have : acc.size ≤ j := by simpa using hj
    rw [Array.getElem?_eq_none (by rw [← it.1]; exact this)]
    rfl
  | some v =>
    obtain ⟨en, e1, e2⟩ := it.2 j v hj
    rw [e1, e2]
    rfl
 rw [hacc]
 have hlen : (es.toList.map (·.key)).length = es.size := by simp
 generalize es.toList.map (·.key) = vs at *
 have hz' : vs.length ≤ sizeLine := by lia
 refine wpAny_bind (wpAny_newList ?_ hz')
 have hoL : (h1.push (seqObj "list" vs.toArray 0)).get? h1.objs.size = some (seqObj "list" vs.toArray 0) := Heap.get?_push_size _ rfl
 have hnl : s.heap.get? h1.objs.size = none := by
  cases q : s.heap.get? h1.objs.size with
  | none => rfl
  | some o => exact absurd (Heap.lt_size (k1 _ _ q)) (Nat.lt_irrefl _)
 have keep : ∀ b o, s.heap.get? b = some o → (h1.push (seqObj "list" vs.toArray 0)).get? b = some o := fun b o q => Heap.get?_push_of_some _ (k1 b o q)
 have neq : ∀ b o, s.heap.get? b = some o → b ≠ h1.objs.size := fun b o q z => by rw [z, hnl] at q; cases q
 have hlt : h1.objs.size < (h1.push (seqObj "list" vs.toArray 0)).objs.size := Heap.lt_size hoL
 generalize h1.push (seqObj "list" vs.toArray 0) = h2 at *
 generalize h1.objs.size = l at *
 have sAt : ∀ out : Array Value, ∃ n, (sortedHeap h2 l vs out).get? l = some (seqObj "list" out n) := fun out => by
  obtain ⟨e1, ho1⟩ : ∃ e1, (h2.update l (Obj.mapSeq fun _ => #[])).get? l = some (seqObj "list" #[] e1) := ⟨_, get?_update_seq hoL (fun _ => #[])⟩
  have ho2 : (((h2.update l (Obj.mapSeq fun _ => #[])).push (seqObj "tuple" vs.toArray 0)).push (seqObj "list" #[] 0)).get? l = some (seqObj "list" #[] e1) := Heap.get?_push_of_some _ (Heap.get?_push_of_some _ ho1)
  exact ⟨_, get?_update_seq ho2 (fun _ => out)⟩
 have sOld : ∀ (out : Array Value) b o, b ≠ l → h2.get? b = some o → (sortedHeap h2 l vs out).get? b = some o := fun out b o nb q => by
  unfold sortedHeap
  rw [Heap.get?_update_ne _ _ _ _ nb]
  refine Heap.get?_push_of_some _ (Heap.get?_push_of_some _ ?_)
  rw [Heap.get?_update_ne _ _ _ _ nb]
  exact q
 by_cases h2' : 2 ≤ vs.length
 ·refine wpAny_bind (wpAny_holding (wpAny_call_entry slot_list_sort ⟨_, hoL, rfl⟩ entry_list_sort (list_sort_raw (R := R) hoL h2' hz' (fun h' k => ?_) fun out a1 a2 => ⟨_, rfl, ?_⟩) (args_list_sort _)))
  ·exact hr (by lia) h' tk fun b o q => k b o (neq b o q) (keep b o q)
  ·obtain ⟨n, e⟩ := sAt out.toArray
   exact wpAny_pure ⟨_, rfl, h _ tk l out n (fun b o q => sOld _ b o (neq b o q) (keep b o q)) hnl e (by lia) (fun _ => a2) (fun z => by lia)⟩
 ·refine wpAny_bind (wpAny_holding (wpAny_call_entry slot_list_sort ⟨_, hoL, rfl⟩ entry_list_sort (list_sort_short hoL (by lia) ⟨_, rfl, ?_⟩) (args_list_sort _)))
  obtain ⟨n, e⟩ := sAt vs.toArray
  exact wpAny_pure ⟨_, rfl, h _ tk l vs n (fun b o q => sOld _ b o (neq b o q) (keep b o q)) hnl e (by lia) (fun z => by lia) (fun _ => rfl)⟩
end
end L2
namespace L2
open PySem PySem.Spec PyProof.Rows
section
variable {κ : Type} [DecidableEq κ]
end
section
variable {P : Program} {w : World} {H : Hp} {h : Heap} {a : Addr}
end
section
variable {X : Cx} {pins : List (Addr × Obj)} {σ : St} {H : Hp} {s : Shared} {a : Addr} {y v : V} {u r : Value} {o : Option V} {A : Around} {E : Value → Shared → Prop}
theorem Inv.big (I : Inv X pins σ H s) : sysModules < s.heap.objs.size := by
 have h : mainGlobals < s.heap.objs.size := (I.mod.glob.keeps I.bk).lt
 exact Nat.lt_trans (by decide) h
theorem d_write {h' : Heap} {t' : Nat} {ob : HO} (I : Inv X pins σ H s) (mu : Mut (H a)) (hs : Heap.SameBut a s.heap h') (he : ∃ q, h'.get? a = some q) (new : ObjOk X.prog X.w (upd H a ob) h' a ob) :
 Inv X pins σ (upd H a ob) { s with heap := h', toks := t' } :=
 I.write (x := a) (e := a) mu (.inl rfl) (fun b q hb z => (hs.2 b hb).trans z) he new
end
section
variable {X : Cx} {pins : List (Addr × Obj)} {σ : St} {H : Hp} {s : Shared} {a : Addr} {kvs : List (Key × V)} {k : Key} {u : Value} {A : Around} {E : Value → Shared → Prop}
end
section
variable {X : Cx} {o i e value : Expr} {pos pos' tpos : Pos} {td ty tv : TE}
end
end L2
namespace L2
open PySem PySem.Spec PyProof.Rows
def kk (k : Int × Int) : List Key := [Sum.inl k.1, Sum.inl k.2]
section
variable {X : Cx} {pins : List (Addr × Obj)} {σ : St} {H : Hp} {s : Shared}
end
end L2
namespace L2
open PySem PySem.Spec PyProof.Rows
section
variable {X : Cx} {pos : Pos}
end
structure M1 (X : Cx) (o : Expr) (m : Str) (apos : Pos) (e : Expr) (cpos : Pos) : Prop where
 base : attributeBase o m X.env (eval o X.env) = eval o X.env
 few : ((backTo cpos (starEach [e] X.env)).all (fun x => !x.1) && (backToKw cpos (keywordEach [] X.env)).all (fun x => x.1.isSome)
  && decide (([e] : List Expr).length + ([] : List Keyword).length + (if ([] : List Keyword).isEmpty then 0 else 1) < 30)) = true
 line : (apos.endLine == cpos.line) = true
 trees : backTo cpos (starEach [e] X.env) = [(false, eval e X.env)]
structure M2 (X : Cx) (o : Expr) (m : Str) (apos : Pos) (e f : Expr) (cpos : Pos) : Prop where
 base : attributeBase o m X.env (eval o X.env) = eval o X.env
 few : ((backTo cpos (starEach [e, f] X.env)).all (fun x => !x.1) && (backToKw cpos (keywordEach [] X.env)).all (fun x => x.1.isSome)
  && decide (([e, f] : List Expr).length + ([] : List Keyword).length + (if ([] : List Keyword).isEmpty then 0 else 1) < 30)) = true
 line : (apos.endLine == cpos.line) = true
 trees : backTo cpos (starEach [e, f] X.env) = [(false, eval e X.env), (false, eval f X.env)]
section
variable {X : Cx} {pins : List (Addr × Obj)} {σ : St} {H : Hp} {s : Shared} {a : Addr} {y d : V} {u r : Value} {o : Option V} {A : Around} {E : Value → Shared → Prop}
end
section
variable {X : Cx} {o e f : Expr} {apos cpos : Pos} {td ty tx : TE}
end
end L2
namespace L2
open PySem PySem.Spec PyProof.Rows HT
def fullS (x : (Int × List Int) × Addr) : (Int × List Int) × Addr × Value := (x.1, x.2, .bool true)
def DStO (P : Program) (w : World) (d : Addr) (xs : List ((Int × List Int) × Addr)) (h : Heap) : Prop :=
 xs.length ≤ sizeLine ∧ (d == sysModules) = false ∧ (xs.map (·.1)).Nodup ∧ ∃ o es ep, h.get? d = some o ∧ o.ExactDict ∧ o.data = .dict es ep ∧ es.toList = (xs.map fullS).map (entryOfKey (standKind P w))
def DSt (P : Program) (w : World) (d : Addr) (xs : List ((Int × List Int) × Addr)) : HO := .ext (DStO P w d xs)
def StAt (H : Hp) (p : Int × List Int) (a : Addr) : Prop := ∃ b, H a = some (.tup [.int p.1, .ref b]) ∧ H b = some (.tup (p.2.map V.int))
theorem DStO.stable {P : Program} {w : World} {d : Addr} {xs : List ((Int × List Int) × Addr)} (h1 h2 : Heap) (x : DStO P w d xs h1) (k : ∀ o, h1.get? d = some o → h2.get? d = some o) : DStO P w d xs h2 := by
 obtain ⟨a, b, c, o, es, ep, e1, e2, e3, e4⟩ := x
 exact ⟨a, b, c, o, es, ep, k _ e1, e2, e3, e4⟩
theorem dst_ok {P : Program} {w : World} {d : Addr} {xs : List ((Int × List Int) × Addr)} {H : Hp} {h : Heap} (x : DStO P w d xs h) : ObjOk P w H h d (DSt P w d xs) :=
 ⟨x, let ⟨_, _, _, o, _, _, e, _⟩ := x; ⟨o, e⟩, fun h1 h2 y k => y.stable h1 h2 k⟩
section
variable {X : Cx} {pins : List (Addr × Obj)} {σ : St} {H : Hp} {s : Shared} {a d : Addr} {p : Int × List Int} {xs : List ((Int × List Int) × Addr)} {A : Around} {E : Value → Shared → Prop}
theorem items_ints {P : Program} {w : World} : ∀ {ns : List Int} {its : List Value}, Vals (ns.map V.int) its → ItemsAre (intKind P w) ns its
 | [], _, r => by rw [List.map_nil] at r; cases r; exact .nil
 | n :: ns, _, r => by
   rw [List.map_cons] at r
   cases r with
   | cons h t =>
     obtain ⟨tt, rfl⟩ := (show ∃ t, _ = Value.int n t from h)
     exact .cons (intKind_is P w n tt) (items_ints t)
theorem st_key (I : Inv X pins σ H s) (h : StAt H p a) : IsStandKey X.prog X.w s.heap p a := by
 obtain ⟨b, h1, h2⟩ := h
 obtain ⟨_, its, r, o, e1, e2, n, e3⟩ := (show ObjOk X.prog X.w H s.heap a (.tup [.int p.1, .ref b]) from I.hok a _ h1)
 obtain ⟨_, jts, q, o', f1, f2, n', f3⟩ := (show ObjOk X.prog X.w H s.heap b (.tup (p.2.map V.int)) from I.hok b _ h2)
 cases r with
 | cons r1 r =>
   cases r with
   | cons r2 r =>
     cases r
     obtain ⟨t, rfl⟩ := (show ∃ t, _ = Value.int p.1 t from r1)
     obtain rfl : _ = Value.ref b := r2
     exact ⟨o, b, t, n, e1, e2, e3, o', jts.toArray, n', f1, f2, f3, by simpa using items_ints q⟩
theorem dst_of (I : Inv X pins σ H s) (h : H d = some (DSt X.prog X.w d xs)) : DStO X.prog X.w d xs s.heap :=
 (show ObjOk X.prog X.w H s.heap d (DSt X.prog X.w d xs) from I.hok d _ h).1
theorem dst_dict (I : Inv X pins σ H s) (h : H d = some (DSt X.prog X.w d xs)) (hk : ∀ x ∈ xs, StAt H x.1 x.2) : s.heap.DictOfH (standKind X.prog X.w) d (xs.map fullS) := by
 obtain ⟨_, _, c, o, es, ep, e1, e2, e3, e4⟩ := dst_of I h
 refine ⟨o, es, ep, e1, e2, e3, e4, fun x hx => ?_, by rw [List.map_map]; exact c⟩
 obtain ⟨y, hy, rfl⟩ := List.mem_map.mp hx
 exact st_key I (hk y hy)
theorem at_full : ∀ {xs : List ((Int × List Int) × Addr)} {p : Int × List Int}, (atKey (xs.map fullS) p).isSome = decide (p ∈ xs.map (·.1))
 | [], p => by simp [atKey]
 | x :: xs, p => by
   have ih := at_full (xs := xs) (p := p)
   unfold atKey at ih ⊢
   rw [List.map_cons, List.find?_cons]
   by_cases z : x.1 = p
   ·simp [fullS, z]
   ·have : (decide ((fullS x).1 = p)) = false := decide_eq_false z
    rw [this]
    simp only [List.map_cons, List.mem_cons]
    rw [ih]
    simp [Ne.symm z]
theorem ds_notIn {Q : Value → Shared → Prop} (hu : A.units + 2 < cLine) (I : Inv X pins σ H s) (h : H d = some (DSt X.prog X.w d xs)) (hk : ∀ x ∈ xs, StAt H x.1 x.2) (ha : StAt H p a) (q : ∀ s', Inv X pins σ H s' → Q (.bool (!decide (p ∈ xs.map (·.1)))) s') :
 wpAny (model X.prog X.w) A (compareOp .NotIn (.ref a) (.ref d)) Q E s := by
 refine wpAny_notIn_heap (knd := standKind X.prog X.w) (show A.units + 1 + 1 < cLine by lia) (st_key I ha) (dst_of I h).2.1 (dst_dict I h hk) ?_
 rw [at_full]
 exact q _ (I.tok _)
theorem ds_put {Q : Unit → Shared → Prop} (hu : A.units + 2 < cLine) (I : Inv X pins σ H s) (h : H d = some (DSt X.prog X.w d xs)) (hk : ∀ x ∈ xs, StAt H x.1 x.2) (ha : StAt H p a) (hn : p ∉ xs.map (·.1)) (hz : xs.length < sizeLine)
 (q : ∀ s', Inv X pins σ (upd H d (DSt X.prog X.w d (xs ++ [(p, a)]))) s' → Q () s') : wpAny (model X.prog X.w) A (setItem (.ref d) (.ref a) (.bool true)) Q E s := by
 refine wpAny_setItem_heap (knd := standKind X.prog X.w) (hsz := by rw [List.length_map]; lia) (show A.units + 1 + 1 < cLine by lia) (st_key I ha) (dst_dict I h hk) fun h' dd' hs => q _ ?_
 obtain ⟨o, es, ep, hq, h2, h3, h4, _, h5⟩ := dd'
 have hnone : atKey (xs.map fullS) p = none := by
  cases z : atKey (xs.map fullS) p with
  | none => rfl
  | some u =>
    have := at_full (xs := xs) (p := p)
    rw [z, decide_eq_false hn] at this
    cases this
 rw [storedH_new hnone] at h4 h5
 refine d_write I (by rw [h]; exact True.intro) hs ⟨o, hq⟩ (dst_ok ⟨by simp; lia, (dst_of I h).2.1, ?_, o, es, ep, hq, h2, h3, by rw [h4]; simp [fullS]⟩)
 have e : (xs ++ [(p, a)]).map (·.1) = (xs.map fullS ++ [(p, a, Value.bool true)]).map (·.1) := by simp [fullS, Function.comp_def]
 rw [e]
 exact h5
theorem ds_len {Q : Value → Shared → Prop} (I : Inv X pins σ H s) (h : H d = some (DSt X.prog X.w d xs)) (q : ∀ t s', Inv X pins σ H s' → Q (.int xs.length t) s') : wpAny (model X.prog X.w) A (call (.builtin "len") [.ref d]) Q E s := by
 obtain ⟨hz, hd, c, o, es, ep, e1, e2, e3, e4⟩ := dst_of I h
 have hsz : es.size = xs.length := by rw [← Array.length_toList, e4, List.length_map, List.length_map]
 rw [sizeLine_eq] at hz
 have hT : s.TypeIs (.ref d) "dict" := ⟨o, e1, e2.1⟩
 have M : MeetsIn X.prog X.w (Builtin.«dict.__len__» ⟨[.ref d], []⟩) (fun _ R s' => s' = s ∧ R (.ok (.ret (.int xs.length s.toks))) { s with toks := s.toks + 1 }) := by
  refine .of_wp fun A R s' ⟨es', h'⟩ => ?_
  subst es'
  show wpAny _ _ (dictSize d >>= _) _ _ s'
  unfold dictSize
  refine wpAny_bind (wpAny_bind (wpAny_dictEntries e1 e3 (wpAny_pure ?_)))
  show wpAny _ _ (Builtin.Dict.pendingCount d >>= _) _ _ s'
  refine wpAny_bind (wpAny_pendingCount_other hd ?_)
  refine wpAny_ret_mkInt ?_
  rw [Nat.add_zero, hsz]; exact h'
 refine Calls.call_function_entry kind_len plain_len entry_len (args_len1 _) ?_
 unfold Builtin.«len»
 refine wpAny_bind (m := oneArg "len" _) (wpAny_pure ?_)
 refine wpAny_bind (m := callSpecial? (.ref d) (Str.ofString "__len__")) (wpAny_callSpecial?_slot (name := Str.ofString "__len__") hT F.slot_dict_len
  (call_meetsIn F.slot_dict_len hT F.entry_dict_len (F.args_dict_len_1 _) M ⟨rfl, ?_⟩))
 show wpAny _ _ _ _ _ { s with toks := s.toks + 1 }
 refine wpAny_bind (wpAny_holding (wpAny_pure ?_))
 refine wpAny_bind (wpAny_letGo ?_)
 show wpAny _ _ (if ((xs.length : Nat) : Int) < 0 then _ else _) _ _ _
 rw [if_neg (by lia)]
 show wpAny _ _ (if ((xs.length : Nat) : Int) ≥ 2 ^ 63 then _ else _) _ _ _
 rw [if_neg (by lia)]
 exact wpAny_bind (wpAny_mkInt (wpAny_pure ⟨_, rfl, q _ _ ((I.tok _).tok _)⟩))
end
end L2
namespace L2
open PySem PySem.Spec PyProof.Rows HT
open Classical in
def StAll (H : Hp) (ts : List Addr) (ms : List (Int × List Int)) : Prop := Paired (fun t p => StAt H p t) ts ms
section
variable {X : Cx}
def tDispS (P : Program) (w : World) (tk tv : TE) : TE := fun σ H Q => ∀ d, H d = none → tk σ (upd H d (DSt P w d [])) fun x H1 => tv σ H1 fun y H2 => y = .bl true ∧ ∃ a p, x = .ref a ∧ H2 d = some (DSt P w d []) ∧ StAt H2 p a ∧ Q (.ref d) (upd H2 d (DSt P w d [(p, a)]))
theorem pe_dispS {pos : Pos} {k v : Expr} {tk tv : TE} (hu : X.A.units + 64 < cLine) (hk : PE X k tk) (hv : PE X v tv) : PE X (.Dict [some k] [v] pos) (tDispS X.prog X.w tk tv) := by
 intro pins s σ H Q I q
 have hn := I.hok.fresh (Nat.le_refl s.heap.objs.size)
 have hd0 : (s.heap.objs.size == sysModules) = false := beq_eq_false_iff_ne.mpr (Ne.symm (Nat.ne_of_lt I.big))
 have I1 := I.laid (a := s.heap.objs.size) (o := DSt X.prog X.w s.heap.objs.size []) (h' := s.heap.push { cls := .type "dict", data := .dict #[] }) (t' := s.toks) (fun _ _ q => Heap.get?_push_of_some _ q) (Nat.le_refl _)
  (dst_ok ⟨Nat.zero_le _, hd0, List.nodup_nil, _, #[], 0, Heap.get?_push_size _ rfl, ⟨rfl, rfl, rfl⟩, rfl, rfl⟩)
 have hp := zip_pairTrees [some k] [v] X.env pos rfl rfl
 have hlen := pairTrees_length [some k] [v] X.env pos rfl rfl
 have hne : pairTrees [some k] [v] X.env pos ≠ [] := fun e => by rw [e] at hlen; cases hlen
 rw [arm_eval_Dict, hp, dictDisplay_pairs _ hne (by rw [hlen]; show 1 < 17; decide)]
 refine wpAny_bind (wpAny_standAt (wpAny_bind ?_))
 unfold subDict
 refine wpAny_bind (wpAny_alloc ?_)
 refine wpAny_bind (wpAny_holding ?_)
 rw [if_pos (by rw [hlen]; show 1 ≤ 15; decide)]
 refine wpAny_bind (pairTrees_cons_walk (thn (hk pins _ σ _ _ I1 (q _ hn)) fun u s1 ⟨x, H1, I2, rx, q1⟩ => thn (hv pins s1 σ H1 _ I2 q1) fun w2 s2 ⟨y, H2, I3, ry, e1, a, p, ex, e2, e3, q2⟩ => pairTrees_nil_walk ?_))
 subst e1 ex
 obtain rfl : u = Value.ref a := rx
 obtain rfl : w2 = Value.bool true := ry
 refine wpAny_holding ?_
 rw [List.forIn_cons]
 have dd := dst_dict I3 e2 (by simp)
 refine wpAny_bind (wpAny_bind (wpAny_bind (wpAny_dictSet_heap (knd := standKind X.prog X.w) (hsz := Nat.zero_le _) (show X.A.units + 1 < cLine by lia) (st_key I3 e3) dd fun h' dd' hs => wpAny_pure ?_)))
 show wpAny _ _ (forIn ([] : List (Value × Value)) PUnit.unit _) _ _ _
 rw [List.forIn_nil]
 refine wpAny_pure (wpAny_pure (wpAny_pure (wpAny_pure ?_)))
 obtain ⟨o, es, ep, hq, h2, h3, h4, _, h5⟩ := dd'
 rw [storedH_new rfl] at h4 h5
 refine ⟨.ref s.heap.objs.size, _, d_write I3 (by rw [e2]; exact True.intro) hs ⟨o, hq⟩ (dst_ok ⟨by simp [sizeLine_eq], hd0, by simp, o, es, ep, hq, h2, h3, by rw [h4]; simp [fullS]⟩), rfl, q2⟩
end
end L2
namespace L2
open PySem PySem.Spec PyProof.Rows HT
def tNotInS (P : Program) (w : World) (ty td : TE) : TE := fun σ H Q => ty σ H fun y H1 => td σ H1 fun x H2 => ∃ a d p xs, y = .ref a ∧ x = .ref d ∧ H2 d = some (DSt P w d xs) ∧ (∀ x ∈ xs, StAt H2 x.1 x.2) ∧ StAt H2 p a ∧ Q (.bl (!decide (p ∈ xs.map (·.1)))) H2
def sPutS (P : Program) (w : World) (td ty tv : TE) : TS := fun D σ H => tv σ H fun v H1 => td σ H1 fun x H2 => ty σ H2 fun y H3 => v = .bl true ∧ ∃ a d p xs, y = .ref a ∧ x = .ref d ∧ H3 d = some (DSt P w d xs) ∧ (∀ x ∈ xs, StAt H3 x.1 x.2) ∧ StAt H3 p a ∧ p ∉ xs.map (·.1) ∧ xs.length < sizeLine ∧ D.nx σ (upd H3 d (DSt P w d (xs ++ [(p, a)])))
def rLenS (P : Program) (w : World) : List V → Hp → VK → Prop := fun vs H Q => ∃ d xs, vs = [.ref d] ∧ H d = some (DSt P w d xs) ∧ Q (.int xs.length) H
section
variable {X : Cx} {o i e value : Expr} {pos pos' tpos : Pos} {td ty tv : TE}
theorem pc_notinS (hu : X.A.units + 64 < cLine) (hi : PE X i ty) (ho : PE X o td) : PC X .NotIn i o (tNotInS X.prog X.w ty td) := by
 walk_at "z0"
 refine thn (hi pins s σ H _ I h) fun iv s1 ⟨y, H1, I1, ry, q1⟩ => thn (ho pins s1 σ H1 _ I1 q1) fun u s2 ⟨x, H2, I2, rx, a, d, p, xs, ey, ex, hd, hk, ha, q2⟩ => ?_
 subst ex ey
 obtain rfl : u = Value.ref d := rx
 obtain rfl : iv = Value.ref a := ry
 exact ds_notIn (by lia) I2 hd hk ha fun s3 I3 => ⟨V.bl _, H2, I3, rfl, q2⟩
theorem ps_dputS (hu : X.A.units + 64 < cLine) (ho : PE X o td) (hi : PE X i ty) (hv : PE X value tv) (hs : swapsWith value (some (.Subscript o i pos')) pos.line X.env = pure false) :
 PS X (.Assign [.Subscript o i pos'] value pos) (sPutS X.prog X.w td ty tv) := by
 intro pins s σ H D I h
 refine wpAny_Assign_Subscript (thn (hv pins s σ H _ I h) fun r s1 ⟨v, H1, I1, rv, q1⟩ => thn (ho pins s1 σ H1 _ I1 q1) fun u s2 ⟨x, H2, I2, rx, q2⟩ => thn (hi pins s2 σ H2 _ I2 q2) fun iv s3 ⟨y, H3, I3, ry, ev, a, d, p, xs, ey, ex, hd, hk, ha, hn, hz, q3⟩ => ?_) hs
 subst ex ey ev
 obtain rfl : u = Value.ref d := rx
 obtain rfl : iv = Value.ref a := ry
 obtain rfl : r = Value.bool true := rv
 exact ds_put (by lia) I3 hd hk ha hn hz fun s4 I4 => ⟨σ, _, I4, q3⟩
theorem call_lenS : CallR X (.builtin "len") (rLenS X.prog X.w) := by
 intro pins s σ H vs us Q I r h
 obtain ⟨d, xs, rfl, hd, q⟩ := h
 obtain ⟨u, rfl, ru⟩ := vals1 r
 cases ru
 exact ds_len I hd fun t s' I' => ⟨.int xs.length, H, I', ⟨t, rfl⟩, q⟩
theorem pe_dispSK {k v : Expr} {tk tv : TE} (P : Program) (w : World) (hu : X.A.units + 64 < cLine) (hk : PE X k tk) (hv : PE X v tv) (hP : X.prog = P := by rfl) (hw : X.w = w := by rfl) : PE X (.Dict [some k] [v] pos) (tDispS P w tk tv) := by subst hP hw; exact pe_dispS hu hk hv
theorem pc_notinSK (P : Program) (w : World) (hu : X.A.units + 64 < cLine) (hi : PE X i ty) (ho : PE X o td) (hP : X.prog = P := by rfl) (hw : X.w = w := by rfl) : PC X .NotIn i o (tNotInS P w ty td) := by subst hP hw; exact pc_notinS hu hi ho
theorem ps_dputSK (P : Program) (w : World) (hu : X.A.units + 64 < cLine) (ho : PE X o td) (hi : PE X i ty) (hv : PE X value tv) (hs : swapsWith value (some (.Subscript o i pos')) pos.line X.env = pure false) (hP : X.prog = P := by rfl) (hw : X.w = w := by rfl) :
 PS X (.Assign [.Subscript o i pos'] value pos) (sPutS P w td ty tv) := by subst hP hw; exact ps_dputS hu ho hi hv hs
theorem call_lenSK (P : Program) (w : World) (hP : X.prog = P := by rfl) (hw : X.w = w := by rfl) : CallR X (.builtin "len") (rLenS P w) := by subst hP hw; exact call_lenS
end
end L2
namespace L2
open PySem PySem.Spec PyProof.Rows HT
def rSortO (P : Program) (w : World) : List V → Hp → VK → Prop := fun vs H Q => ∃ d xs, vs = [.ref d] ∧ H d = some (DSt P w d xs) ∧ xs.length ≤ 1 ∧ ∀ l, H l = none → Q (.ref l) (upd H l (.lst ((xs.map (·.2)).map V.ref)))
section
variable {X : Cx}
theorem refsO : ∀ ts : List Addr, Vals (ts.map V.ref) (ts.map Value.ref)
 | [] => .nil
 | t :: ts => .cons rfl (refsO ts)
theorem call_sortedO (hc : X.calm = true) (hex : X.ex = []) : CallR X (.builtin "sorted") (rSortO X.prog X.w) := by
 walk_at "z5"
 obtain ⟨d, xs, rfl, hd, h1, q⟩ := h
 obtain ⟨u, rfl, ru⟩ := vals1 r
 cases ru
 obtain ⟨z, ns, g5, o, es, ep, g1, g2, g3, g4⟩ := dst_of I hd
 have hkey : es.toList.map (·.key) = (xs.map (·.2)).map Value.ref := by
  rw [g4, List.map_map, List.map_map, List.map_map]
  rfl
 have hsz : es.size = xs.length := by rw [← Array.length_toList, g4, List.length_map, List.length_map]
 refine sorted_dict (R := fun _ => True) (I.ok.hd hc) ns ⟨o, g1, g2, g3⟩ (by lia) (fun h2 => absurd h2 (by lia)) (fun h' tk l out n keep hl e hlen hR hS => ?_)
 obtain rfl := hS (by lia)
 rw [hkey] at e
 have hHl : H l = none := by
  cases q' : H l with
  | none => rfl
  | some u =>
    obtain ⟨ob, z'⟩ := (I.hok l u q').there
    rw [hl] at z'
    cases z'
 have hs0 : X.s₀.heap.get? l = none := by
  cases z' : X.s₀.heap.get? l with
  | none => rfl
  | some ob =>
    obtain ⟨o', z2⟩ := I.base.there l ob z' (by rw [hex]; simp)
    rw [hl] at z2
    cases z2
 have I1 := I.kept (t' := tk) (h' := h') keep
 have lz : ((xs.map (·.2)).map V.ref).length ≤ sizeLine := by
  simp only [List.length_map]
  exact szl (by lia)
 refine ⟨.ref l, upd H l (.lst ((xs.map (·.2)).map V.ref)), I1.trackN hHl (fun z' => ?_) hs0 (fun y c hy z' => ?_) (fun p hp z' => ?_) ⟨lz, _, n, refsO _, ?_⟩, rfl, q l hHl⟩
 ·obtain ⟨m, hm, _⟩ := I.loc
  obtain ⟨ob, _, _, hb, _⟩ := hm
  rw [← z', hl] at hb
  cases hb
 ·obtain ⟨v', ob, hb, _⟩ := I.cell y c hy
  rw [z', hl] at hb
  cases hb
 ·have := (I.pin p hp).1
  rw [z', hl] at this
  cases this
 ·simpa [seqObj] using e
theorem call_sortedOK (P : Program) (w : World) (hc : X.calm = true) (hex : X.ex = []) (hP : X.prog = P := by rfl) (hw : X.w = w := by rfl) : CallR X (.builtin "sorted") (rSortO P w) := by subst hP hw; exact call_sortedO hc hex
end
end L2
namespace My
open PySem L2 M
local macro_rules | `(tactic| walk_at "s1") => `(tactic| first
 | with_reducible refine i_var rfl ?_
 | with_reducible refine i_I0 ?_
 | with_reducible refine iteF ?_
 | with_reducible refine iteNT ?_
 | with_reducible refine iteNF ?_
 | with_reducible refine iteT ?_
 | with_reducible refine i_truB ?_
 | with_reducible refine i_addI ?_
 | with_reducible refine i_U ?_
 | with_reducible refine i_isB ?_
 | with_reducible refine i_isNotB ?_
 | with_reducible refine i_eqI ?_
 | with_reducible refine i_neI ?_
 | with_reducible refine i_intB ?_
 | with_reducible refine i_abs ?_
 | with_reducible refine i_isiII ?_
 | with_reducible refine i_isiIB ?_
 | with_reducible refine i_isiIL ?_
 | with_reducible refine i_isiID ?_
 | with_reducible refine i_isiIT ?_
 | with_reducible refine i_isiBB ?_
 | with_reducible refine i_div (by lia) (by lia) ?_
 | with_reducible refine i_mod (by lia) ?_
 | with_reducible refine And.intro (szl (Nat.le_of_ble_eq_true rfl)) ?_
 | with_reducible refine ⟨_, rfl, ?_⟩)
local macro_rules | `(tactic| walk_at "un") => `(tactic| try dsimp only [tSeq, tAsg, gName, tOp, tUn, tTest, tB, tAnd, tOr, tNot, tAndV, tOrV, tNotV, tIf, tIfS, tRet, tRetN, tDrop, tNext, tCons, tNil, tCB, tCall, tMenu, tComp, tComp2, msk, List.zipWith, tMakeS, tDispS, tNotInS, sPutS, iZip2, iEnum, tNoIf, tTru, tJoin, cxOf_K, tLst, tTup, tSl, tPart, tNoPart, tBM, tBM0, tChain, tC, tFor_eq, gTup, gStar, gLst, gCons, gNil, gSub, iList, iRng1, iRng2, iRng3, iTup, iZip3, tWhile, tRev, tFld, sFld, tMeth, tMethS, tMake, tRaise, tCallS, tTry, tAug, tPar, tNever, ipI, List.append_nil])
local macro_rules | `(tactic| walk_at "s") => `(tactic| (walk_at "un"; repeat walk_at "s1"))
abbrev BdOk (a b : String) (st : Stmt) (ps : List Str) : Prop := ∀ (kV doc pm : Value) (an : Option Addr) (cdv ct : Value) (us : List Value) (hl : us.length = ps.length), bindArgs (PySem.W.fnOf a b (defArgs st) (defBody st) (defScope st) .none kV doc pm an cdv ct) ⟨us, []⟩ = pure (ps.zip us)
theorem len1 {us : List Value} (h : us.length = 1) : ∃ a0 : Value, us = [a0] := by
 rcases us with _ | ⟨a0, us⟩ <;> simp at h
 subst h
 exact ⟨a0, rfl⟩
theorem len2 {us : List Value} (h : us.length = 2) : ∃ a0 a1 : Value, us = [a0, a1] := by
 rcases us with _ | ⟨a0, us⟩ <;> simp at h
 rcases us with _ | ⟨a1, us⟩ <;> simp at h
 subst h
 exact ⟨a0, a1, rfl⟩
theorem len3 {us : List Value} (h : us.length = 3) : ∃ a0 a1 a2 : Value, us = [a0, a1, a2] := by
 rcases us with _ | ⟨a0, us⟩ <;> simp at h
 rcases us with _ | ⟨a1, us⟩ <;> simp at h
 rcases us with _ | ⟨a2, us⟩ <;> simp at h
 subst h
 exact ⟨a0, a1, a2, rfl⟩
theorem len4 {us : List Value} (h : us.length = 4) : ∃ a0 a1 a2 a3 : Value, us = [a0, a1, a2, a3] := by
 rcases us with _ | ⟨a0, us⟩ <;> simp at h
 rcases us with _ | ⟨a1, us⟩ <;> simp at h
 rcases us with _ | ⟨a2, us⟩ <;> simp at h
 rcases us with _ | ⟨a3, us⟩ <;> simp at h
 subst h
 exact ⟨a0, a1, a2, a3, rfl⟩
theorem len5 {us : List Value} (h : us.length = 5) : ∃ a0 a1 a2 a3 a4 : Value, us = [a0, a1, a2, a3, a4] := by
 rcases us with _ | ⟨a0, us⟩ <;> simp at h
 rcases us with _ | ⟨a1, us⟩ <;> simp at h
 rcases us with _ | ⟨a2, us⟩ <;> simp at h
 rcases us with _ | ⟨a3, us⟩ <;> simp at h
 rcases us with _ | ⟨a4, us⟩ <;> simp at h
 subst h
 exact ⟨a0, a1, a2, a3, a4, rfl⟩
local macro_rules | `(tactic| walk_at "c") => `(tactic| exact ⟨rfl, rfl, rfl, by decide +kernel, rfl, by decide +kernel, by decide +kernel⟩)
def top (i : Nat) : Stmt := PySem.Challenge.pw_lugtrain_k45_refused_at_all_new_doors.main.body.getD i (.Pass ⟨0, 0, 0, 0⟩)
abbrev s_is_train : Stmt := top 17
theorem sc_is_train : FnScope ["plays"] ["plays"] (defScope s_is_train) := by walk_at "c"
theorem bd_is_train : BdOk "is_train" "is_train" s_is_train ["plays"] := fun _ _ _ _ _ _ us hl => by obtain ⟨a0, rfl⟩ := len1 hl; rfl
abbrev s_refuse_no_train : Stmt := top 18
theorem sc_refuse_no_train : FnScope ["plays"] ["plays"] (defScope s_refuse_no_train) := by walk_at "c"
theorem bd_refuse_no_train : BdOk "refuse_no_train" "refuse_no_train" s_refuse_no_train ["plays"] := fun _ _ _ _ _ _ us hl => by obtain ⟨a0, rfl⟩ := len1 hl; rfl
abbrev s_keeps_plays : Stmt := top 19
theorem sc_keeps_plays : FnScope ["plays", "handle", "wheels", "ahead", "play", "at"] ["plays", "handle", "wheels"] (defScope s_keeps_plays) := by walk_at "c"
theorem bd_keeps_plays : BdOk "keeps_plays" "keeps_plays" s_keeps_plays ["plays", "handle", "wheels"] := fun _ _ _ _ _ _ us hl => by obtain ⟨a0, a1, a2, rfl⟩ := len3 hl; rfl
abbrev s_is_stand : Stmt := top 20
theorem sc_is_stand : FnScope ["plays", "handle", "wheels"] ["plays", "handle", "wheels"] (defScope s_is_stand) := by walk_at "c"
theorem bd_is_stand : BdOk "is_stand" "is_stand" s_is_stand ["plays", "handle", "wheels"] := fun _ _ _ _ _ _ us hl => by obtain ⟨a0, a1, a2, rfl⟩ := len3 hl; rfl
abbrev s_refuse_no_stand : Stmt := top 21
theorem sc_refuse_no_stand : FnScope ["plays", "handle", "wheels"] ["plays", "handle", "wheels"] (defScope s_refuse_no_stand) := by walk_at "c"
theorem bd_refuse_no_stand : BdOk "refuse_no_stand" "refuse_no_stand" s_refuse_no_stand ["plays", "handle", "wheels"] := fun _ _ _ _ _ _ us hl => by obtain ⟨a0, a1, a2, rfl⟩ := len3 hl; rfl
abbrev s_dragged : Stmt := top 22
theorem sc_dragged : FnScope ["play", "ahead", "at"] ["play", "ahead", "at"] (defScope s_dragged) := by walk_at "c"
theorem bd_dragged : BdOk "dragged" "dragged" s_dragged ["play", "ahead", "at"] := fun _ _ _ _ _ _ us hl => by obtain ⟨a0, a1, a2, rfl⟩ := len3 hl; rfl
abbrev s_all_dragged : Stmt := top 23
theorem sc_all_dragged : FnScope ["plays", "wheels", "place", "places", "ahead", "play", "at"] ["plays", "wheels", "place"] (defScope s_all_dragged) := by walk_at "c"
theorem bd_all_dragged : BdOk "all_dragged" "all_dragged" s_all_dragged ["plays", "wheels", "place"] := fun _ _ _ _ _ _ us hl => by obtain ⟨a0, a1, a2, rfl⟩ := len3 hl; rfl
abbrev s_refuse_no_piece : Stmt := top 25
theorem sc_refuse_no_piece : FnScope ["plays", "piece"] ["plays", "piece"] (defScope s_refuse_no_piece) := by walk_at "c"
theorem bd_refuse_no_piece : BdOk "refuse_no_piece" "refuse_no_piece" s_refuse_no_piece ["plays", "piece"] := fun _ _ _ _ _ _ us hl => by obtain ⟨a0, a1, rfl⟩ := len2 hl; rfl
abbrev s_moved : Stmt := top 26
theorem sc_moved : FnScope ["plays", "handle", "wheels", "piece", "place", "pieces", "many", "ahead", "behind", "end", "places"] ["plays", "handle", "wheels", "piece", "place"] (defScope s_moved) := by walk_at "c"
theorem bd_moved : BdOk "moved" "moved" s_moved ["plays", "handle", "wheels", "piece", "place"] := fun _ _ _ _ _ _ us hl => by obtain ⟨a0, a1, a2, a3, a4, rfl⟩ := len5 hl; rfl
abbrev s_grabbed : Stmt := top 27
theorem sc_grabbed : FnScope ["plays", "handle", "wheels", "piece", "place"] ["plays", "handle", "wheels", "piece", "place"] (defScope s_grabbed) := by walk_at "c"
theorem bd_grabbed : BdOk "grabbed" "grabbed" s_grabbed ["plays", "handle", "wheels", "piece", "place"] := fun _ _ _ _ _ _ us hl => by obtain ⟨a0, a1, a2, a3, a4, rfl⟩ := len5 hl; rfl
abbrev s_grabs_of : Stmt := top 28
theorem sc_grabs_of : FnScope ["plays", "handle", "wheels", "row", "piece", "place", "stands"] ["plays", "handle", "wheels", "row"] (defScope s_grabs_of) := by walk_at "c"
theorem bd_grabs_of : BdOk "grabs_of" "grabs_of" s_grabs_of ["plays", "handle", "wheels", "row"] := fun _ _ _ _ _ _ us hl => by obtain ⟨a0, a1, a2, a3, rfl⟩ := len4 hl; rfl
abbrev s_depths_of : Stmt := top 30
theorem sc_depths_of : FnScope ["plays", "depths", "depth", "play"] ["plays"] (defScope s_depths_of) := by walk_at "c"
theorem bd_depths_of : BdOk "depths_of" "depths_of" s_depths_of ["plays"] := fun _ _ _ _ _ _ us hl => by obtain ⟨a0, rfl⟩ := len1 hl; rfl
abbrev s_way_of : Stmt := top 31
theorem sc_way_of : FnScope ["places"] ["places"] (defScope s_way_of) := by walk_at "c"
theorem bd_way_of : BdOk "way_of" "way_of" s_way_of ["places"] := fun _ _ _ _ _ _ us hl => by obtain ⟨a0, rfl⟩ := len1 hl; rfl
abbrev s_refuse_no_bounds : Stmt := top 34
theorem sc_refuse_no_bounds : FnScope ["plays", "handle", "wheels", "low", "high"] ["plays", "handle", "wheels", "low", "high"] (defScope s_refuse_no_bounds) := by walk_at "c"
theorem bd_refuse_no_bounds : BdOk "refuse_no_bounds" "refuse_no_bounds" s_refuse_no_bounds ["plays", "handle", "wheels", "low", "high"] := fun _ _ _ _ _ _ us hl => by obtain ⟨a0, a1, a2, a3, a4, rfl⟩ := len5 hl; rfl
abbrev s_ranges_of : Stmt := top 35
theorem sc_ranges_of : FnScope ["plays", "handle", "wheels", "low", "high"] ["plays", "handle", "wheels", "low", "high"] (defScope s_ranges_of) := by walk_at "c"
theorem bd_ranges_of : BdOk "ranges_of" "ranges_of" s_ranges_of ["plays", "handle", "wheels", "low", "high"] := fun _ _ _ _ _ _ us hl => by obtain ⟨a0, a1, a2, a3, a4, rfl⟩ := len5 hl; rfl
abbrev s_stands_beside : Stmt := top 36
theorem sc_stands_beside : FnScope ["plays", "handle", "wheels", "low", "high"] ["plays", "handle", "wheels", "low", "high"] (defScope s_stands_beside) := by walk_at "c"
theorem bd_stands_beside : BdOk "stands_beside" "stands_beside" s_stands_beside ["plays", "handle", "wheels", "low", "high"] := fun _ _ _ _ _ _ us hl => by obtain ⟨a0, a1, a2, a3, a4, rfl⟩ := len5 hl; rfl
abbrev s_stands_within : Stmt := top 37
theorem sc_stands_within : FnScope ["plays", "handle", "wheels", "low", "high", "first", "found", "waiting", "at", "places", "stand"] ["plays", "handle", "wheels", "low", "high"] (defScope s_stands_within) := by walk_at "c"
theorem bd_stands_within : BdOk "stands_within" "stands_within" s_stands_within ["plays", "handle", "wheels", "low", "high"] := fun _ _ _ _ _ _ us hl => by obtain ⟨a0, a1, a2, a3, a4, rfl⟩ := len5 hl; rfl
abbrev s_refuse_no_errand : Stmt := top 39
theorem sc_refuse_no_errand : FnScope ["plays", "handle", "wheels", "end", "goal"] ["plays", "handle", "wheels", "end", "goal"] (defScope s_refuse_no_errand) := by walk_at "c"
theorem bd_refuse_no_errand : BdOk "refuse_no_errand" "refuse_no_errand" s_refuse_no_errand ["plays", "handle", "wheels", "end", "goal"] := fun _ _ _ _ _ _ us hl => by obtain ⟨a0, a1, a2, a3, a4, rfl⟩ := len5 hl; rfl
abbrev s_pieces_of : Stmt := top 40
theorem sc_pieces_of : FnScope ["handle", "wheels"] ["handle", "wheels"] (defScope s_pieces_of) := by walk_at "c"
theorem bd_pieces_of : BdOk "pieces_of" "pieces_of" s_pieces_of ["handle", "wheels"] := fun _ _ _ _ _ _ us hl => by obtain ⟨a0, a1, rfl⟩ := len2 hl; rfl
abbrev s_must_place : Stmt := top 41
theorem sc_must_place : FnScope ["plays", "end", "goal", "must", "wheel", "side"] ["plays", "end", "goal", "must"] (defScope s_must_place) := by walk_at "c"
theorem bd_must_place : BdOk "must_place" "must_place" s_must_place ["plays", "end", "goal", "must"] := fun _ _ _ _ _ _ us hl => by obtain ⟨a0, a1, a2, a3, rfl⟩ := len4 hl; rfl
abbrev s_side_to_go : Stmt := top 42
theorem sc_side_to_go : FnScope ["handle", "wheels", "end", "goal", "wheel", "first", "last"] ["handle", "wheels", "end", "goal", "wheel"] (defScope s_side_to_go) := by walk_at "c"
theorem bd_side_to_go : BdOk "side_to_go" "side_to_go" s_side_to_go ["handle", "wheels", "end", "goal", "wheel"] := fun _ _ _ _ _ _ us hl => by obtain ⟨a0, a1, a2, a3, a4, rfl⟩ := len5 hl; rfl
abbrev s_is_beyond : Stmt := top 43
theorem sc_is_beyond : FnScope ["plays", "end", "goal", "ahead", "wheel", "depth", "last"] ["plays", "end", "goal", "ahead", "wheel"] (defScope s_is_beyond) := by walk_at "c"
theorem bd_is_beyond : BdOk "is_beyond" "is_beyond" s_is_beyond ["plays", "end", "goal", "ahead", "wheel"] := fun _ _ _ _ _ _ us hl => by obtain ⟨a0, a1, a2, a3, a4, rfl⟩ := len5 hl; rfl
abbrev s_first_musts : Stmt := top 45
theorem sc_first_musts : FnScope ["handle", "wheels", "end", "goal", "wheel", "side"] ["handle", "wheels", "end", "goal"] (defScope s_first_musts) := by walk_at "c"
theorem bd_first_musts : BdOk "first_musts" "first_musts" s_first_musts ["handle", "wheels", "end", "goal"] := fun _ _ _ _ _ _ us hl => by obtain ⟨a0, a1, a2, a3, rfl⟩ := len4 hl; rfl
abbrev s_paper_of : Stmt := top 46
theorem sc_paper_of : FnScope ["plays", "handle", "wheels", "end", "goal", "paper", "ahead", "wheel"] ["plays", "handle", "wheels", "end", "goal"] (defScope s_paper_of) := by walk_at "c"
theorem bd_paper_of : BdOk "paper_of" "paper_of" s_paper_of ["plays", "handle", "wheels", "end", "goal"] := fun _ _ _ _ _ _ us hl => by obtain ⟨a0, a1, a2, a3, a4, rfl⟩ := len5 hl; rfl
abbrev s_least_row : Stmt := top 47
theorem sc_least_row : FnScope ["plays", "handle", "wheels", "end", "goal", "paper"] ["plays", "handle", "wheels", "end", "goal"] (defScope s_least_row) := by walk_at "c"
theorem bd_least_row : BdOk "least_row" "least_row" s_least_row ["plays", "handle", "wheels", "end", "goal"] := fun _ _ _ _ _ _ us hl => by obtain ⟨a0, a1, a2, a3, a4, rfl⟩ := len5 hl; rfl
abbrev s_least_of : Stmt := top 48
theorem sc_least_of : FnScope ["plays", "handle", "wheels", "end", "goal"] ["plays", "handle", "wheels", "end", "goal"] (defScope s_least_of) := by walk_at "c"
theorem bd_least_of : BdOk "least_of" "least_of" s_least_of ["plays", "handle", "wheels", "end", "goal"] := fun _ _ _ _ _ _ us hl => by obtain ⟨a0, a1, a2, a3, a4, rfl⟩ := len5 hl; rfl
abbrev s_refuse_no_round : Stmt := top 50
theorem sc_refuse_no_round : FnScope ["plays", "handle", "wheels", "stands", "end", "goal"] ["plays", "handle", "wheels", "stands"] (defScope s_refuse_no_round) := by walk_at "c"
theorem bd_refuse_no_round : BdOk "refuse_no_round" "refuse_no_round" s_refuse_no_round ["plays", "handle", "wheels", "stands"] := fun _ _ _ _ _ _ us hl => by obtain ⟨a0, a1, a2, a3, rfl⟩ := len4 hl; rfl
abbrev s_round_way : Stmt := top 51
theorem sc_round_way : FnScope ["plays", "handle", "wheels", "stands", "legs"] ["plays", "handle", "wheels", "stands"] (defScope s_round_way) := by walk_at "c"
theorem bd_round_way : BdOk "round_way" "round_way" s_round_way ["plays", "handle", "wheels", "stands"] := fun _ _ _ _ _ _ us hl => by obtain ⟨a0, a1, a2, a3, rfl⟩ := len4 hl; rfl
abbrev s_ways_between : Stmt := top 52
theorem sc_ways_between : FnScope ["plays", "handle", "wheels", "stands"] ["plays", "handle", "wheels", "stands"] (defScope s_ways_between) := by walk_at "c"
theorem bd_ways_between : BdOk "ways_between" "ways_between" s_ways_between ["plays", "handle", "wheels", "stands"] := fun _ _ _ _ _ _ us hl => by obtain ⟨a0, a1, a2, a3, rfl⟩ := len4 hl; rfl
abbrev s_best_from : Stmt := top 53
theorem sc_best_from : FnScope ["ways", "last", "numbers", "rounds", "number", "way", "order"] ["ways", "last", "numbers"] (defScope s_best_from) := by walk_at "c"
theorem bd_best_from : BdOk "best_from" "best_from" s_best_from ["ways", "last", "numbers"] := fun _ _ _ _ _ _ us hl => by obtain ⟨a0, a1, a2, rfl⟩ := len3 hl; rfl
abbrev s_best_round : Stmt := top 54
theorem sc_best_round : FnScope ["plays", "handle", "wheels", "stands", "ways", "way", "order"] ["plays", "handle", "wheels", "stands"] (defScope s_best_round) := by walk_at "c"
theorem bd_best_round : BdOk "best_round" "best_round" s_best_round ["plays", "handle", "wheels", "stands"] := fun _ _ _ _ _ _ us hl => by obtain ⟨a0, a1, a2, a3, rfl⟩ := len4 hl; rfl
abbrev s_Walker___init__ : Stmt := inClass (top 56) 0
theorem sc_Walker___init__ : FnScope ["self", "plays", "handle", "wheels"] ["self", "plays", "handle", "wheels"] (defScope s_Walker___init__) := by walk_at "c"
theorem bd_Walker___init__ : BdOk "__init__" "Walker.__init__" s_Walker___init__ ["self", "plays", "handle", "wheels"] := fun _ _ _ _ _ _ us hl => by obtain ⟨a0, a1, a2, a3, rfl⟩ := len4 hl; rfl
abbrev s_law_cell_at : Stmt := top 58
theorem sc_law_cell_at : FnScope ["script", "k"] ["script", "k"] (defScope s_law_cell_at) := by walk_at "c"
theorem bd_law_cell_at : BdOk "_law_cell_at" "_law_cell_at" s_law_cell_at ["script", "k"] := fun _ _ _ _ _ _ us hl => by obtain ⟨a0, a1, rfl⟩ := len2 hl; rfl
abbrev s_law_draws : Stmt := top 59
theorem sc_law_draws : FnScope ["cell", "many", "base", "found", "rest", "stirred", "k"] ["cell", "many", "base"] (defScope s_law_draws) := by walk_at "c"
theorem bd_law_draws : BdOk "_law_draws" "_law_draws" s_law_draws ["cell", "many", "base"] := fun _ _ _ _ _ _ us hl => by obtain ⟨a0, a1, a2, rfl⟩ := len3 hl; rfl
abbrev s_law_a_train : Stmt := top 60
theorem sc_law_a_train : FnScope ["script", "heads", "many", "far", "picks", "plays", "wheels", "handle", "ahead", "k", "play", "side"] ["script"] (defScope s_law_a_train) := by walk_at "c"
theorem bd_law_a_train : BdOk "_law_a_train" "_law_a_train" s_law_a_train ["script"] := fun _ _ _ _ _ _ us hl => by obtain ⟨a0, rfl⟩ := len1 hl; rfl
abbrev s_law_a_kin : Stmt := top 61
theorem sc_law_a_kin : FnScope ["e", "kin"] ["e"] (defScope s_law_a_kin) := by walk_at "c"
theorem bd_law_a_kin : BdOk "_law_a_kin" "_law_a_kin" s_law_a_kin ["e"] := fun _ _ _ _ _ _ us hl => by obtain ⟨a0, rfl⟩ := len1 hl; rfl
abbrev s_law_due_kin : Stmt := top 62
theorem sc_law_due_kin : FnScope ["name", "names"] ["name"] (defScope s_law_due_kin) := by walk_at "c"
theorem bd_law_due_kin : BdOk "_law_due_kin" "_law_due_kin" s_law_due_kin ["name"] := fun _ _ _ _ _ _ us hl => by obtain ⟨a0, rfl⟩ := len1 hl; rfl
abbrev s_law_a_door : Stmt := top 63
theorem sc_law_a_door : FnScope ["door", "plays", "handle", "wheels", "odd", "bad"] ["door", "plays", "handle", "wheels", "odd"] (defScope s_law_a_door) := by walk_at "c"
theorem bd_law_a_door : BdOk "_law_a_door" "_law_a_door" s_law_a_door ["door", "plays", "handle", "wheels", "odd"] := fun _ _ _ _ _ _ us hl => by obtain ⟨a0, a1, a2, a3, a4, rfl⟩ := len5 hl; rfl
abbrev s_law_asked : Stmt := top 64
theorem sc_law_asked : FnScope ["door", "train", "odd", "kin", "e"] ["door", "train", "odd"] (defScope s_law_asked) := by walk_at "c"
theorem bd_law_asked : BdOk "_law_asked" "_law_asked" s_law_asked ["door", "train", "odd"] := fun _ _ _ _ _ _ us hl => by obtain ⟨a0, a1, a2, rfl⟩ := len3 hl; rfl
abbrev s_law_a_spoilt : Stmt := top 65
theorem sc_law_a_spoilt : FnScope ["train", "picks", "plays", "handle", "wheels", "at", "form", "three"] ["train", "picks"] (defScope s_law_a_spoilt) := by walk_at "c"
theorem bd_law_a_spoilt : BdOk "_law_a_spoilt" "_law_a_spoilt" s_law_a_spoilt ["train", "picks"] := fun _ _ _ _ _ _ us hl => by obtain ⟨a0, a1, rfl⟩ := len2 hl; rfl
abbrev s_law : Stmt := top 66
theorem sc_law : FnScope ["script", "train", "cell", "plays", "handle", "wheels", "due", "handed", "door", "kin"] ["script"] (defScope s_law) := by walk_at "c"
structure Txt (mg : Str → Option Value) : Prop where
 z_ValueError : mg "ValueError" = none
 z_abs : mg "abs" = none
 z_int : mg "int" = none
 z_isinstance : mg "isinstance" = none
 z_len : mg "len" = none
 z_list : mg "list" = none
 z_max : mg "max" = none
 z_min : mg "min" = none
 z_range : mg "range" = none
 z_sorted : mg "sorted" = none
 z_sum : mg "sum" = none
 z_tuple : mg "tuple" = none
 z_zip : mg "zip" = none
 g_MOST_PLAYS : ∃ t, mg "MOST_PLAYS" = some (.int 12 t)
 g_MOST_STANDS : ∃ t, mg "MOST_STANDS" = some (.int 500 t)
structure Cls (K : PySem.W.Frag) (mg : Str → Option Value) where
 c_TrainError : Addr
 c_NoTrain : Addr
 c_NoStand : Addr
 c_NoPaper : Addr
 c_NoBox : Addr
 c_NoSwitch : Addr
 c_NoPlace : Addr
 c_NoTable : Addr
 c_NoText : Addr
 c_NoRow : Addr
 c_NoPiece : Addr
 c_NothingLeft : Addr
 c_TooMany : Addr
 m_TrainError : mg "TrainError" = some (.ref c_TrainError)
 m_NoTrain : mg "NoTrain" = some (.ref c_NoTrain)
 m_NoStand : mg "NoStand" = some (.ref c_NoStand)
 m_NoPaper : mg "NoPaper" = some (.ref c_NoPaper)
 m_NoBox : mg "NoBox" = some (.ref c_NoBox)
 m_NoSwitch : mg "NoSwitch" = some (.ref c_NoSwitch)
 m_NoPlace : mg "NoPlace" = some (.ref c_NoPlace)
 m_NoTable : mg "NoTable" = some (.ref c_NoTable)
 m_NoText : mg "NoText" = some (.ref c_NoText)
 m_NoRow : mg "NoRow" = some (.ref c_NoRow)
 m_NoPiece : mg "NoPiece" = some (.ref c_NoPiece)
 m_NothingLeft : mg "NothingLeft" = some (.ref c_NothingLeft)
 m_TooMany : mg "TooMany" = some (.ref c_TooMany)
 x_NoTrain : PySem.W.excIn K c_NoTrain [.type "ValueError", .type "Exception", .type "BaseException", .type "object"] "ValueError.__new__" = true
 e_NoTrain : PySem.W.exmOne K (.ref c_NoTrain) (.ref c_TrainError) = some true
 i_NoTrain_ga : PySem.W.findIn K (.ref c_NoTrain) "__getattribute__" = some (some (.builtin "BaseException.__getattribute__"))
 i_NoTrain_gt : PySem.W.findIn K (.ref c_NoTrain) "__getattr__" = some none
 i_NoTrain_mb : PySem.W.mroIn K c_NoTrain (.type "BaseException") = some true
 i_NoTrain_hd : PySem.W.hasDictIn K c_NoTrain = true
 i_NoTrain_ca : PySem.W.findIn K (.ref c_NoTrain) "__class__" = some (some (.builtin "object.__class__"))
 i_NoTrain_sp : PySem.W.specialIn K (.builtin "object.__class__") "__get__" = some (some (.builtin "getset_descriptor.__get__"))
 i_NoTrain_tk : PySem.W.takesIn K (.builtin "object.__class__") = some true
 i_NoTrain_mr : PySem.W.mroIn K c_NoTrain (.type "object") = some true
 k_NoTrain_NoTrain : PySem.W.kitOne K (.ref c_NoTrain) (.ref c_NoTrain) = some true
 k_NoTrain_NoStand : PySem.W.kitOne K (.ref c_NoTrain) (.ref c_NoStand) = some false
 k_NoTrain_NoPaper : PySem.W.kitOne K (.ref c_NoTrain) (.ref c_NoPaper) = some false
 k_NoTrain_NoBox : PySem.W.kitOne K (.ref c_NoTrain) (.ref c_NoBox) = some false
 k_NoTrain_NoSwitch : PySem.W.kitOne K (.ref c_NoTrain) (.ref c_NoSwitch) = some false
 k_NoTrain_NoPlace : PySem.W.kitOne K (.ref c_NoTrain) (.ref c_NoPlace) = some false
 k_NoTrain_NoTable : PySem.W.kitOne K (.ref c_NoTrain) (.ref c_NoTable) = some false
 k_NoTrain_NoText : PySem.W.kitOne K (.ref c_NoTrain) (.ref c_NoText) = some false
 k_NoTrain_NoRow : PySem.W.kitOne K (.ref c_NoTrain) (.ref c_NoRow) = some false
 k_NoTrain_NoPiece : PySem.W.kitOne K (.ref c_NoTrain) (.ref c_NoPiece) = some false
 k_NoTrain_NothingLeft : PySem.W.kitOne K (.ref c_NoTrain) (.ref c_NothingLeft) = some false
 k_NoTrain_TooMany : PySem.W.kitOne K (.ref c_NoTrain) (.ref c_TooMany) = some false
 k_NoTrain_ValueError : PySem.W.kitOne K (.ref c_NoTrain) (.type "ValueError") = some true
 x_NoStand : PySem.W.excIn K c_NoStand [.type "ValueError", .type "Exception", .type "BaseException", .type "object"] "ValueError.__new__" = true
 e_NoStand : PySem.W.exmOne K (.ref c_NoStand) (.ref c_TrainError) = some true
 i_NoStand_ga : PySem.W.findIn K (.ref c_NoStand) "__getattribute__" = some (some (.builtin "BaseException.__getattribute__"))
 i_NoStand_gt : PySem.W.findIn K (.ref c_NoStand) "__getattr__" = some none
 i_NoStand_mb : PySem.W.mroIn K c_NoStand (.type "BaseException") = some true
 i_NoStand_hd : PySem.W.hasDictIn K c_NoStand = true
 i_NoStand_ca : PySem.W.findIn K (.ref c_NoStand) "__class__" = some (some (.builtin "object.__class__"))
 i_NoStand_sp : PySem.W.specialIn K (.builtin "object.__class__") "__get__" = some (some (.builtin "getset_descriptor.__get__"))
 i_NoStand_tk : PySem.W.takesIn K (.builtin "object.__class__") = some true
 i_NoStand_mr : PySem.W.mroIn K c_NoStand (.type "object") = some true
 k_NoStand_NoTrain : PySem.W.kitOne K (.ref c_NoStand) (.ref c_NoTrain) = some false
 k_NoStand_NoStand : PySem.W.kitOne K (.ref c_NoStand) (.ref c_NoStand) = some true
 k_NoStand_NoPaper : PySem.W.kitOne K (.ref c_NoStand) (.ref c_NoPaper) = some false
 k_NoStand_NoBox : PySem.W.kitOne K (.ref c_NoStand) (.ref c_NoBox) = some false
 k_NoStand_NoSwitch : PySem.W.kitOne K (.ref c_NoStand) (.ref c_NoSwitch) = some false
 k_NoStand_NoPlace : PySem.W.kitOne K (.ref c_NoStand) (.ref c_NoPlace) = some false
 k_NoStand_NoTable : PySem.W.kitOne K (.ref c_NoStand) (.ref c_NoTable) = some false
 k_NoStand_NoText : PySem.W.kitOne K (.ref c_NoStand) (.ref c_NoText) = some false
 k_NoStand_NoRow : PySem.W.kitOne K (.ref c_NoStand) (.ref c_NoRow) = some false
 k_NoStand_NoPiece : PySem.W.kitOne K (.ref c_NoStand) (.ref c_NoPiece) = some false
 k_NoStand_NothingLeft : PySem.W.kitOne K (.ref c_NoStand) (.ref c_NothingLeft) = some false
 k_NoStand_TooMany : PySem.W.kitOne K (.ref c_NoStand) (.ref c_TooMany) = some false
 k_NoStand_ValueError : PySem.W.kitOne K (.ref c_NoStand) (.type "ValueError") = some true
 x_NoPiece : PySem.W.excIn K c_NoPiece [.type "ValueError", .type "Exception", .type "BaseException", .type "object"] "ValueError.__new__" = true
 e_NoPiece : PySem.W.exmOne K (.ref c_NoPiece) (.ref c_TrainError) = some true
 i_NoPiece_ga : PySem.W.findIn K (.ref c_NoPiece) "__getattribute__" = some (some (.builtin "BaseException.__getattribute__"))
 i_NoPiece_gt : PySem.W.findIn K (.ref c_NoPiece) "__getattr__" = some none
 i_NoPiece_mb : PySem.W.mroIn K c_NoPiece (.type "BaseException") = some true
 i_NoPiece_hd : PySem.W.hasDictIn K c_NoPiece = true
 i_NoPiece_ca : PySem.W.findIn K (.ref c_NoPiece) "__class__" = some (some (.builtin "object.__class__"))
 i_NoPiece_sp : PySem.W.specialIn K (.builtin "object.__class__") "__get__" = some (some (.builtin "getset_descriptor.__get__"))
 i_NoPiece_tk : PySem.W.takesIn K (.builtin "object.__class__") = some true
 i_NoPiece_mr : PySem.W.mroIn K c_NoPiece (.type "object") = some true
 k_NoPiece_NoTrain : PySem.W.kitOne K (.ref c_NoPiece) (.ref c_NoTrain) = some false
 k_NoPiece_NoStand : PySem.W.kitOne K (.ref c_NoPiece) (.ref c_NoStand) = some false
 k_NoPiece_NoPaper : PySem.W.kitOne K (.ref c_NoPiece) (.ref c_NoPaper) = some false
 k_NoPiece_NoBox : PySem.W.kitOne K (.ref c_NoPiece) (.ref c_NoBox) = some false
 k_NoPiece_NoSwitch : PySem.W.kitOne K (.ref c_NoPiece) (.ref c_NoSwitch) = some false
 k_NoPiece_NoPlace : PySem.W.kitOne K (.ref c_NoPiece) (.ref c_NoPlace) = some false
 k_NoPiece_NoTable : PySem.W.kitOne K (.ref c_NoPiece) (.ref c_NoTable) = some false
 k_NoPiece_NoText : PySem.W.kitOne K (.ref c_NoPiece) (.ref c_NoText) = some false
 k_NoPiece_NoRow : PySem.W.kitOne K (.ref c_NoPiece) (.ref c_NoRow) = some false
 k_NoPiece_NoPiece : PySem.W.kitOne K (.ref c_NoPiece) (.ref c_NoPiece) = some true
 k_NoPiece_NothingLeft : PySem.W.kitOne K (.ref c_NoPiece) (.ref c_NothingLeft) = some false
 k_NoPiece_TooMany : PySem.W.kitOne K (.ref c_NoPiece) (.ref c_TooMany) = some false
 k_NoPiece_ValueError : PySem.W.kitOne K (.ref c_NoPiece) (.type "ValueError") = some true
 x_TooMany : PySem.W.excIn K c_TooMany [.type "ValueError", .type "Exception", .type "BaseException", .type "object"] "ValueError.__new__" = true
 e_TooMany : PySem.W.exmOne K (.ref c_TooMany) (.ref c_TrainError) = some true
 i_TooMany_ga : PySem.W.findIn K (.ref c_TooMany) "__getattribute__" = some (some (.builtin "BaseException.__getattribute__"))
 i_TooMany_gt : PySem.W.findIn K (.ref c_TooMany) "__getattr__" = some none
 i_TooMany_mb : PySem.W.mroIn K c_TooMany (.type "BaseException") = some true
 i_TooMany_hd : PySem.W.hasDictIn K c_TooMany = true
 i_TooMany_ca : PySem.W.findIn K (.ref c_TooMany) "__class__" = some (some (.builtin "object.__class__"))
 i_TooMany_sp : PySem.W.specialIn K (.builtin "object.__class__") "__get__" = some (some (.builtin "getset_descriptor.__get__"))
 i_TooMany_tk : PySem.W.takesIn K (.builtin "object.__class__") = some true
 i_TooMany_mr : PySem.W.mroIn K c_TooMany (.type "object") = some true
 k_TooMany_NoTrain : PySem.W.kitOne K (.ref c_TooMany) (.ref c_NoTrain) = some false
 k_TooMany_NoStand : PySem.W.kitOne K (.ref c_TooMany) (.ref c_NoStand) = some false
 k_TooMany_NoPaper : PySem.W.kitOne K (.ref c_TooMany) (.ref c_NoPaper) = some false
 k_TooMany_NoBox : PySem.W.kitOne K (.ref c_TooMany) (.ref c_NoBox) = some false
 k_TooMany_NoSwitch : PySem.W.kitOne K (.ref c_TooMany) (.ref c_NoSwitch) = some false
 k_TooMany_NoPlace : PySem.W.kitOne K (.ref c_TooMany) (.ref c_NoPlace) = some false
 k_TooMany_NoTable : PySem.W.kitOne K (.ref c_TooMany) (.ref c_NoTable) = some false
 k_TooMany_NoText : PySem.W.kitOne K (.ref c_TooMany) (.ref c_NoText) = some false
 k_TooMany_NoRow : PySem.W.kitOne K (.ref c_TooMany) (.ref c_NoRow) = some false
 k_TooMany_NoPiece : PySem.W.kitOne K (.ref c_TooMany) (.ref c_NoPiece) = some false
 k_TooMany_NothingLeft : PySem.W.kitOne K (.ref c_TooMany) (.ref c_NothingLeft) = some false
 k_TooMany_TooMany : PySem.W.kitOne K (.ref c_TooMany) (.ref c_TooMany) = some true
 k_TooMany_ValueError : PySem.W.kitOne K (.ref c_TooMany) (.type "ValueError") = some true
theorem Cls.exc_NoTrain {K : PySem.W.Frag} {mg : Str → Option Value} (Z : Cls K mg) : ExcCls K mg "NoTrain" Z.c_NoTrain [.type "ValueError", .type "Exception", .type "BaseException", .type "object"] "ValueError.__new__" := ⟨Z.m_NoTrain, Z.x_NoTrain⟩
theorem Cls.isi_NoTrain {K : PySem.W.Frag} {mg : Str → Option Value} (Z : Cls K mg) : IsiCls K Z.c_NoTrain := ⟨Z.i_NoTrain_ga, Z.i_NoTrain_gt, Z.i_NoTrain_mb, Z.i_NoTrain_hd, Z.i_NoTrain_ca, Z.i_NoTrain_sp, Z.i_NoTrain_tk, Z.i_NoTrain_mr⟩
theorem Cls.exc_NoStand {K : PySem.W.Frag} {mg : Str → Option Value} (Z : Cls K mg) : ExcCls K mg "NoStand" Z.c_NoStand [.type "ValueError", .type "Exception", .type "BaseException", .type "object"] "ValueError.__new__" := ⟨Z.m_NoStand, Z.x_NoStand⟩
theorem Cls.isi_NoStand {K : PySem.W.Frag} {mg : Str → Option Value} (Z : Cls K mg) : IsiCls K Z.c_NoStand := ⟨Z.i_NoStand_ga, Z.i_NoStand_gt, Z.i_NoStand_mb, Z.i_NoStand_hd, Z.i_NoStand_ca, Z.i_NoStand_sp, Z.i_NoStand_tk, Z.i_NoStand_mr⟩
theorem Cls.exc_NoPiece {K : PySem.W.Frag} {mg : Str → Option Value} (Z : Cls K mg) : ExcCls K mg "NoPiece" Z.c_NoPiece [.type "ValueError", .type "Exception", .type "BaseException", .type "object"] "ValueError.__new__" := ⟨Z.m_NoPiece, Z.x_NoPiece⟩
theorem Cls.exc_TooMany {K : PySem.W.Frag} {mg : Str → Option Value} (Z : Cls K mg) : ExcCls K mg "TooMany" Z.c_TooMany [.type "ValueError", .type "Exception", .type "BaseException", .type "object"] "ValueError.__new__" := ⟨Z.m_TooMany, Z.x_TooMany⟩
structure Own (K : PySem.W.Frag) (mg : Str → Option Value) where
 c_Walker : Addr
 m_Walker : mg "Walker" = some (.ref c_Walker)
 pg_Walker : PySem.W.plainGet K c_Walker Str.empty = true
 hd_Walker : PySem.W.hasDictIn K c_Walker = true
 po_Walker : PySem.W.plainOver K c_Walker = true
 sa_Walker : PySem.W.findIn K (.ref c_Walker) "__setattr__" = some (some (.builtin "object.__setattr__"))
 mk_Walker : PySem.W.makesIn K c_Walker = true
 kc_Walker : PySem.W.keepIn K (.ref c_Walker) = true
 na_Walker_plays : PySem.W.findIn K (.ref c_Walker) "plays" = some none
 na_Walker_states : PySem.W.findIn K (.ref c_Walker) "states" = some none
theorem Own.cl_Walker {K : PySem.W.Frag} {mg : Str → Option Value} (Y : Own K mg) : L2.Cls K Y.c_Walker := ⟨Y.pg_Walker, Y.hd_Walker, Y.po_Walker, Y.sa_Walker⟩
section
variable {P : Program} {w : World} {K : PySem.W.Frag} {mg : Str → Option Value} {base : Heap}
structure NewI (H H' : Hp) (l : Addr) (xs : List Int) : Prop where
 fr : H l = none
 sm : Same H H'
 at_ : H' l = some (.lst (iL xs))
theorem NewI.app {H H' : Hp} {l : Addr} {xs : List Int} {x : Int} (N : NewI H H' l xs) : NewI H (upd H' l (.lst (iL xs ++ [V.int x]))) l (xs ++ [x]) :=
 ⟨N.fr, fun b o e => by rw [upd_ne (ne_of_none e N.fr)]; exact N.sm b o e, by rw [upd_same]; simp [iL]⟩
theorem NewI.more {H H' H2 : Hp} {l : Addr} {xs : List Int} (N : NewI H H' l xs) (s : Same H' H2) : NewI H H2 l xs := ⟨N.fr, N.sm.trans s, s _ _ N.at_⟩
def spLaw (K : PySem.W.Frag) : Sp := fun vs H Q _ => ∃ (a : Addr) (ns : List Int), vs = [.ref a] ∧ SqL K H a (ns.map V.int) ∧ ns.length ≤ 63 ∧ ∀ H', Q (.bl true) H'
theorem calm_of {x : Str} {k : Nat} {spE sp : Sp} (C : CalleeE P w K mg base x k spE) (h : ∀ vs H Q E, sp vs H Q E → spE vs H Q (fun _ _ _ => False)) : Callee P w K mg base x k sp := by
 obtain ⟨f, fd, ps, F, r⟩ := C
 refine ⟨f, fd, ps, ⟨fun vs H Q E hs => F.len vs H Q _ (h vs H Q E hs), fun A outer s H args us vs Q E hr he hb hv hs => codeAny_mono (F.run A outer s H args us vs Q _ hr he hb hv (h vs H Q E hs)) fun r s' z => ?_⟩, r⟩
 cases r with
 | ok x => cases x <;> exact z
 | error e =>
   obtain ⟨_, _, _, _, _, _, _, _, _, _, _, _, q⟩ := z
   exact q.elim
def Exs (E : XK) (H : Hp) (CT CS : Addr) (tr st : Prop) : Prop := (¬ tr → ∀ H', Same H H' → E (.ref CT) none H') ∧ (tr → ¬ st → ∀ H', Same H H' → E (.ref CS) none H')
theorem Exs.on {E : XK} {H H1 : Hp} {CT CS : Addr} {tr st : Prop} (x : Exs E H CT CS tr st) (s : Same H H1) : Exs E H1 CT CS tr st := ⟨fun h H' s' => x.1 h H' (s.trans s'), fun h1 h2 H' s' => x.2 h1 h2 H' (s.trans s')⟩
theorem Exs.imp {E : XK} {H : Hp} {CT CS : Addr} {tr st st2 : Prop} (x : Exs E H CT CS tr st) (h : tr → st → st2) : Exs E H CT CS tr st2 := ⟨x.1, fun h1 h2 => x.2 h1 fun z => h2 (h h1 z)⟩
theorem Exs.no {H : Hp} {CT CS : Addr} {tr st : Prop} (h1 : tr) (h2 : st) : Exs (fun _ _ _ => False) H CT CS tr st := ⟨fun h => absurd h1 h, fun _ h => absurd h2 h⟩
def spCellAt (K : PySem.W.Frag) : Sp := fun vs H Q _ => ∃ (a : Addr) (ns : List Int) (k : Int), vs = [.ref a, .int k] ∧ SqL K H a (iL ns) ∧ 0 ≤ k ∧ ∀ v, Q (.int v) H
theorem ok_law_cell_at (T : Txt mg) (D : Def K mg "_law_cell_at" s_law_cell_at) : Callee P w K mg base "_law_cell_at" 1 (spCellAt K) := by
 refine D.ok sc_law_cell_at bd_law_cell_at (fun vs H Q E h => ?len) (fun f cdv A outer s H vs Q E hr h => ?body)
 case len => obtain ⟨a, ns, k, rfl, _⟩ := h; rfl
 case body =>
  obtain ⟨a, ns, kk, rfl, hS, h0, k⟩ := h
  have hu := hr.units
  refine ⟨_, (pss_cons (ps_if (pt_cmpR op_lt (pv 1) (pe_callB (call_lenK K) (by rfl) T.z_len bt_len (pa_cons (pv 0) pa_nil)) (nomark _))
 (pss_one (ps_ret (pe_ix (ix_K K) (pv 0) (pv 1) (by exact fun _ _ => rfl))))
 pss_nil)
 (pss_one (ps_ret pe_int))), ?_⟩
  walk_at "un"
  try clear hu
  walk_at "s"
  refine i_lenI hS ?_
  walk_at "s"
  refine i_if (fun g => ?_) (fun g => ?_)
  ·walk_at "s"
   exact i_ixL hS h0 g (fun v _ _ => k v)
  ·walk_at "s"
   exact k 0
def spDraws : Sp := fun vs H Q _ => ∃ cell many bas : Int, vs = [.int cell, .int many, .int bas] ∧ 0 ≤ many ∧ many ≤ 5000 ∧ 0 < bas ∧ bas < 1073741824 ∧
 ∀ l H' xs, NewI H H' l xs → (xs.length : Int) = many → (∀ x ∈ xs, 0 ≤ x ∧ x < bas) → Q (.ref l) H'
theorem ok_law_draws (T : Txt mg) (D : Def K mg "_law_draws" s_law_draws) : Callee P w K mg base "_law_draws" 1 spDraws := by
 refine D.ok sc_law_draws bd_law_draws (fun vs H Q E h => ?len) (fun f cdv A outer s H vs Q E hr h => ?body)
 case len => obtain ⟨p, a, x, rfl, _⟩ := h; rfl
 case body =>
  obtain ⟨cell, many, bas, rfl, h1, h2, h3, h4, k⟩ := h
  refine ⟨_, (pss_cons (ps_set (i := 3) sc_law_draws.nd rfl (Or.inl rfl) (pe_lst pa_nil))
 (pss_cons (ps_set (i := 4) sc_law_draws.nd rfl (Or.inl rfl) (pe_op op_mulP (pv 0) (pe_callTy call_intK (by rfl) T.z_int bt_int (pa_cons (pe_cmpR op_ge (pv 0) (pe_powK (r := 1000000000000000000) (by decide)) (nomark _)) pa_nil))))
 (pss_cons (ps_set (i := 5) sc_law_draws.nd rfl (Or.inl rfl) (pe_op op_mod (pv 0) pe_int))
 (pss_cons (ps_for PassesOwn.never rfl (pi_range1 (by rfl) T.z_range (pa_cons (pe_op op_addP (pv 1) pe_int) pa_nil)) (pg_name (i := 6) sc_law_draws.nd rfl (Or.inl rfl))
 (pss_cons (ps_set (i := 5) sc_law_draws.nd rfl (Or.inl rfl) (pe_op op_mod (pe_op op_addP (pe_op op_addP (pe_op op_addP (pe_op op_mulP (pv 5) (pv 5)) (pe_op op_mulP pe_int (pv 5))) (pv 6)) pe_int) pe_int))
 (pss_one (ps_if (PW.pt (pw_and (pt_cmpR op_gt (pv 6) pe_int (nomark _)) (pw_and1 (pt_cmpR op_gt (pv 4) pe_int (nomark _)))))
 (pss_cons (ps_expr (pe_bmK K PySem.F.plainAttrs_list PySem.F.slot_list_append PySem.F.type_list_append mt_append (pv 3) (pa_cons (pe_op op_mod (pv 4) (pv 2)) pa_nil)))
 (pss_one (ps_set (i := 4) sc_law_draws.nd rfl (Or.inl rfl) (pe_op op_fdiv (pv 4) (pv 2)))))
 (pss_one (ps_if (pt_cmpR op_gt (pv 6) pe_int (nomark _))
 (pss_one (ps_expr (pe_bmK K PySem.F.plainAttrs_list PySem.F.slot_list_append PySem.F.type_list_append mt_append (pv 3) (pa_cons (pe_op op_mod (pe_op op_fdiv (pv 5) pe_int) (pv 2)) pa_nil))))
 pss_nil))))))
 (pss_one (ps_ret (pv 3))))))), ?_⟩
  walk_at "un"
  try clear hu
  refine ⟨szl (by decide), fun l hl => ?_⟩
  walk_at "s"
  refine i_mulI (cmul_r ?_ ?_) ?_
  ·split <;> decide
  ·split <;> decide
  generalize cell * _ = rest
  walk_at "s"
  have hst0 : 0 ≤ cell % 2305843009213693951 := Int.emod_nonneg _ (by decide)
  have hst1 : cell % 2305843009213693951 < 2305843009213693951 := Int.emod_lt_of_pos _ (by decide)
  generalize cell % 2305843009213693951 = stirred at *
  refine ⟨by lia, by lia, lp_range (fun i σ H2 => ∃ (rest stirred : Int) (kk : Option V) (xs : List Int), σ = [some (.int cell), some (.int many), some (.int bas), some (.ref l), some (.int rest), some (.int stirred), kk] ∧
   0 ≤ stirred ∧ stirred < 2305843009213693951 ∧ NewI H H2 l xs ∧ xs.length = i - 3 ∧ ∀ x ∈ xs, 0 ≤ x ∧ x < bas) ?_ ?_ ?_⟩
  ·exact ⟨rest, stirred, none, [], rfl, hst0, hst1, ⟨hl, same_upd hl, upd_same⟩, rfl, by simp⟩
  ·rintro i σ H2 hi ⟨rest, stirred, kk, xs, rfl, s0, s1, N, hx, hb⟩
   walk_at "s"
   refine i_mulI (cmul_l (by lia) (by lia)) ?_
   walk_at "s"
   refine i_mulI (cmul_l (by decide) (by decide)) ?_
   walk_at "s"
   have hst0 := Int.emod_nonneg (stirred * stirred + 48271 * stirred + (0 + (i : Int)) + 1) (show (2305843009213693951 : Int) ≠ 0 by decide)
   have hst1 := Int.emod_lt_of_pos (stirred * stirred + 48271 * stirred + (0 + (i : Int)) + 1) (show (0 : Int) < 2305843009213693951 by decide)
   generalize (stirred * stirred + 48271 * stirred + (0 + (i : Int)) + 1) % 2305843009213693951 = stirred2 at *
   have app : ∀ v, 3 ≤ i → 0 ≤ v → v < bas → ∀ rest2, ∃ (rest stirred : Int) (kk : Option V) (ys : List Int), [some (V.int cell), some (.int many), some (.int bas), some (.ref l), some (.int rest2), some (.int stirred2), some (V.int (0 + (i : Int)))] = [some (.int cell), some (.int many), some (.int bas), some (.ref l), some (.int rest), some (.int stirred), kk] ∧
    0 ≤ stirred ∧ stirred < 2305843009213693951 ∧ NewI H (upd H2 l (.lst (iL xs ++ [V.int v]))) l ys ∧ ys.length = i + 1 - 3 ∧ ∀ x ∈ ys, 0 ≤ x ∧ x < bas := by
    intro v hi3 hv0 hv1 rest2
    refine ⟨rest2, stirred2, some (V.int (0 + (i : Int))), xs ++ [v], rfl, hst0, hst1, N.app, ?_, ?_⟩
    ·simp; lia
    ·intro x hxm
     rcases List.mem_append.mp hxm with z | z
     ·exact hb x z
     ·simp at z; subst z; exact ⟨hv0, hv1⟩
   have lenx : xs.length ≤ 100000 := by lia
   refine i_if (fun g1 => ?_) (fun g1 => ?_)
   ·walk_at "s"
    refine i_if (fun g2 => ?_) (fun g2 => ?_)
    ·walk_at "s"
     refine ⟨.inl ⟨rfl, _, SqL.of N.at_⟩, ?_⟩
     walk_at "s"
     refine i_app N.at_ (szlt (by simpa [iL] using lenx)) ?_
     walk_at "s"
     exact app _ (by lia) (Int.emod_nonneg _ (by lia)) (Int.emod_lt_of_pos _ h3) _
    ·walk_at "s"
     refine i_if (fun g3 => ?_) (fun g3 => absurd g1 g3)
     walk_at "s"
     refine ⟨.inl ⟨rfl, _, SqL.of N.at_⟩, ?_⟩
     walk_at "s"
     refine i_app N.at_ (szlt (by simpa [iL] using lenx)) ?_
     exact app _ (by lia) (Int.emod_nonneg _ (by lia)) (Int.emod_lt_of_pos _ h3) _
   ·walk_at "s"
    refine i_if (fun g3 => absurd g3 g1) (fun g3 => ?_)
    exact ⟨rest, stirred2, _, xs, rfl, hst0, hst1, N, by lia, hb⟩
  ·rintro σ H2 ⟨rest, stirred, kk, xs, rfl, s0, s1, N, hx, hb⟩
   walk_at "s"
   exact k l H2 xs N (by lia) hb
abbrev bL (bs : List Bool) : List V := bs.map V.bl
theorem i_isx {H : Hp} {Q : VK} {e D C' : Addr} {b : Bool} (he : H e = some (.ext (ExcAt e (.ref D)))) (C : IsiCls K D) (hk : PySem.W.kitOne K (.ref D) (.ref C') = some b) (q : Q (.bl b) H) : rIsiX K [.ref e, .ref C'] H Q := ⟨e, D, _, _, b, rfl, fun _ h => h, he, C, hk, q⟩
theorem i_isxT {H : Hp} {Q : VK} {e D : Addr} {n : String} {b : Bool} (he : H e = some (.ext (ExcAt e (.ref D)))) (C : IsiCls K D) (hk : PySem.W.kitOne K (.ref D) (.type n) = some b) (q : Q (.bl b) H) : rIsiX K [.ref e, .ty n] H Q := ⟨e, D, _, _, b, rfl, fun _ h => h, he, C, hk, q⟩
theorem bt_ValueError : bootBuiltins "ValueError" = some (.type "ValueError") := by decide +kernel
structure KinF (Z : Cls K mg) (C : Addr) (b0 b1 b2 b3 b4 b5 b6 b7 b8 b9 b10 b11 : Bool) : Prop where
 isi : IsiCls K C
 f0 : PySem.W.kitOne K (.ref C) (.ref Z.c_NoTrain) = some b0
 f1 : PySem.W.kitOne K (.ref C) (.ref Z.c_NoStand) = some b1
 f2 : PySem.W.kitOne K (.ref C) (.ref Z.c_NoPaper) = some b2
 f3 : PySem.W.kitOne K (.ref C) (.ref Z.c_NoBox) = some b3
 f4 : PySem.W.kitOne K (.ref C) (.ref Z.c_NoSwitch) = some b4
 f5 : PySem.W.kitOne K (.ref C) (.ref Z.c_NoPlace) = some b5
 f6 : PySem.W.kitOne K (.ref C) (.ref Z.c_NoTable) = some b6
 f7 : PySem.W.kitOne K (.ref C) (.ref Z.c_NoText) = some b7
 f8 : PySem.W.kitOne K (.ref C) (.ref Z.c_NoRow) = some b8
 f9 : PySem.W.kitOne K (.ref C) (.ref Z.c_NoPiece) = some b9
 f10 : PySem.W.kitOne K (.ref C) (.ref Z.c_NothingLeft) = some b10
 f11 : PySem.W.kitOne K (.ref C) (.ref Z.c_TooMany) = some b11
 f12 : PySem.W.kitOne K (.ref C) (.type "ValueError") = some true
def spKinG (Z : Cls K mg) : Sp := fun vs H Q _ => ∃ (e C : Addr) (b0 b1 b2 b3 b4 b5 b6 b7 b8 b9 b10 b11 : Bool), vs = [.ref e] ∧ H e = some (.ext (ExcAt e (.ref C))) ∧ KinF Z C b0 b1 b2 b3 b4 b5 b6 b7 b8 b9 b10 b11 ∧ ∀ l H', Same H H' → H' l = some (.lst (bL [b0, b1, b2, b3, b4, b5, b6, b7, b8, b9, b10, b11, true])) → Q (.ref l) H'
theorem ok_law_a_kin (T : Txt mg) (Z : Cls K mg) (D : Def K mg "_law_a_kin" s_law_a_kin) : CalleeN P w K mg base "_law_a_kin" 1 (spKinG Z) := by
 refine Def.okN D sc_law_a_kin bd_law_a_kin (fun vs H Q E h => ?len) (fun f cdv A outer s H vs Q E hr h => ?body)
 case len => obtain ⟨e, C, b0, b1, b2, b3, b4, b5, b6, b7, b8, b9, b10, b11, rfl, _⟩ := h; rfl
 case body =>
  obtain ⟨e, C, b0, b1, b2, b3, b4, b5, b6, b7, b8, b9, b10, b11, rfl, hE, F, k⟩ := h
  refine ⟨_, (pss_cons (ps_set (i := 1) sc_law_a_kin.nd rfl (Or.inl rfl) (pe_lst (pa_cons (pe_callB (call_isinstanceX K) (by rfl) T.z_isinstance bt_isinstance (pa_cons (pv 0) (pa_cons (pe_globR Z.m_NoTrain (by rfl)) pa_nil))) (pa_cons (pe_callB (call_isinstanceX K) (by rfl) T.z_isinstance bt_isinstance (pa_cons (pv 0) (pa_cons (pe_globR Z.m_NoStand (by rfl)) pa_nil))) (pa_cons (pe_callB (call_isinstanceX K) (by rfl) T.z_isinstance bt_isinstance (pa_cons (pv 0) (pa_cons (pe_globR Z.m_NoPaper (by rfl)) pa_nil))) (pa_cons (pe_callB (call_isinstanceX K) (by rfl) T.z_isinstance bt_isinstance (pa_cons (pv 0) (pa_cons (pe_globR Z.m_NoBox (by rfl)) pa_nil))) pa_nil))))))
 (pss_cons (ps_set (i := 1) sc_law_a_kin.nd rfl (Or.inl rfl) (pe_op op_addP (pv 1) (pe_lst (pa_cons (pe_callB (call_isinstanceX K) (by rfl) T.z_isinstance bt_isinstance (pa_cons (pv 0) (pa_cons (pe_globR Z.m_NoSwitch (by rfl)) pa_nil))) (pa_cons (pe_callB (call_isinstanceX K) (by rfl) T.z_isinstance bt_isinstance (pa_cons (pv 0) (pa_cons (pe_globR Z.m_NoPlace (by rfl)) pa_nil))) (pa_cons (pe_callB (call_isinstanceX K) (by rfl) T.z_isinstance bt_isinstance (pa_cons (pv 0) (pa_cons (pe_globR Z.m_NoTable (by rfl)) pa_nil))) pa_nil))))))
 (pss_cons (ps_set (i := 1) sc_law_a_kin.nd rfl (Or.inl rfl) (pe_op op_addP (pv 1) (pe_lst (pa_cons (pe_callB (call_isinstanceX K) (by rfl) T.z_isinstance bt_isinstance (pa_cons (pv 0) (pa_cons (pe_globR Z.m_NoText (by rfl)) pa_nil))) (pa_cons (pe_callB (call_isinstanceX K) (by rfl) T.z_isinstance bt_isinstance (pa_cons (pv 0) (pa_cons (pe_globR Z.m_NoRow (by rfl)) pa_nil))) (pa_cons (pe_callB (call_isinstanceX K) (by rfl) T.z_isinstance bt_isinstance (pa_cons (pv 0) (pa_cons (pe_globR Z.m_NoPiece (by rfl)) pa_nil))) pa_nil))))))
 (pss_one (ps_ret (pe_op op_addP (pv 1) (pe_lst (pa_cons (pe_callB (call_isinstanceX K) (by rfl) T.z_isinstance bt_isinstance (pa_cons (pv 0) (pa_cons (pe_globR Z.m_NothingLeft (by rfl)) pa_nil))) (pa_cons (pe_callB (call_isinstanceX K) (by rfl) T.z_isinstance bt_isinstance (pa_cons (pv 0) (pa_cons (pe_globR Z.m_TooMany (by rfl)) pa_nil))) (pa_cons (pe_callB (call_isinstanceX K) (by rfl) T.z_isinstance bt_isinstance (pa_cons (pv 0) (pa_cons (pe_bltn (by rfl) T.z_ValueError bt_ValueError (show RelV (.ty "ValueError") _ from rfl)) pa_nil))) pa_nil)))))))))), ?_⟩
  walk_at "un"
  try clear hu
  walk_at "s"
  refine i_isx hE F.isi F.f0 ?_
  walk_at "s"
  refine i_isx hE F.isi F.f1 ?_
  walk_at "s"
  refine i_isx hE F.isi F.f2 ?_
  walk_at "s"
  refine i_isx hE F.isi F.f3 ?_
  walk_at "s"
  intro l1 h1
  have s1 : Same H _ := same_upd (o := .lst [.bl b0, .bl b1, .bl b2, .bl b3]) h1
  have e1 : upd H l1 (.lst [.bl b0, .bl b1, .bl b2, .bl b3]) l1 = some (.lst [.bl b0, .bl b1, .bl b2, .bl b3]) := upd_same
  generalize upd H l1 (.lst [.bl b0, .bl b1, .bl b2, .bl b3]) = H1 at *
  have hE1 := s1 _ _ hE
  walk_at "s"
  refine i_isx hE1 F.isi F.f4 ?_
  walk_at "s"
  refine i_isx hE1 F.isi F.f5 ?_
  walk_at "s"
  refine i_isx hE1 F.isi F.f6 ?_
  walk_at "s"
  intro l2 h2
  refine i_addL (a := l1) (b := l2) (same_upd h2 _ _ e1) upd_same (szl (by simp)) (fun l3 h3 => ?_)
  have s3 : Same H1 _ := (same_upd (o := .lst [.bl b4, .bl b5, .bl b6]) h2).trans (same_upd (o := .lst ([.bl b0, .bl b1, .bl b2, .bl b3] ++ [.bl b4, .bl b5, .bl b6])) h3)
  have e3 : upd (upd H1 l2 (.lst [.bl b4, .bl b5, .bl b6])) l3 (.lst ([.bl b0, .bl b1, .bl b2, .bl b3] ++ [.bl b4, .bl b5, .bl b6])) l3 = some (.lst ([.bl b0, .bl b1, .bl b2, .bl b3] ++ [.bl b4, .bl b5, .bl b6])) := upd_same
  generalize upd (upd H1 l2 (.lst [.bl b4, .bl b5, .bl b6])) l3 (.lst ([.bl b0, .bl b1, .bl b2, .bl b3] ++ [.bl b4, .bl b5, .bl b6])) = H3 at *
  have S3 := s1.trans s3
  have hE3 := S3 _ _ hE
  walk_at "s"
  refine i_isx hE3 F.isi F.f7 ?_
  walk_at "s"
  refine i_isx hE3 F.isi F.f8 ?_
  walk_at "s"
  refine i_isx hE3 F.isi F.f9 ?_
  walk_at "s"
  intro l4 h4
  refine i_addL (a := l3) (b := l4) (same_upd h4 _ _ e3) upd_same (szl (by simp)) (fun l5 h5 => ?_)
  generalize hx5 : ([.bl b0, .bl b1, .bl b2, .bl b3] ++ [.bl b4, .bl b5, .bl b6] ++ [.bl b7, .bl b8, .bl b9] : List V) = x5 at *
  have s5 : Same H3 _ := (same_upd (o := .lst [.bl b7, .bl b8, .bl b9]) h4).trans (same_upd (o := .lst x5) h5)
  have e5 : upd (upd H3 l4 (.lst [.bl b7, .bl b8, .bl b9])) l5 (.lst x5) l5 = some (.lst x5) := upd_same
  generalize upd (upd H3 l4 (.lst [.bl b7, .bl b8, .bl b9])) l5 (.lst x5) = H5 at *
  have S5 := S3.trans s5
  have hE5 := S5 _ _ hE
  walk_at "s"
  refine i_isx hE5 F.isi F.f10 ?_
  walk_at "s"
  refine i_isx hE5 F.isi F.f11 ?_
  walk_at "s"
  refine i_isxT hE5 F.isi F.f12 ?_
  walk_at "s"
  intro l6 h6
  refine i_addL (a := l5) (b := l6) (same_upd h6 _ _ e5) upd_same (szl (by rw [← hx5]; simp)) (fun l7 h7 => ?_)
  refine k l7 _ ((S5.trans (same_upd h6)).trans (same_upd h7)) ?_
  rw [upd_same, ← hx5]
  rfl
def kinNames : List Str := ["NoTrain", "NoStand", "NoPaper", "NoBox", "NoSwitch", "NoPlace", "NoTable", "NoText", "NoRow", "NoPiece", "NothingLeft", "TooMany"]
theorem pd_str {H : Hp} {n : Nat} {x : Str} (h : PyData.strOk x = true) : PdAt K H n (.str x) (.str x) := by cases n <;> exact ⟨rfl, h⟩
theorem i_eqS {H : Hp} {Q : VK} {x y : Str} (hx : PyData.strOk x = true) (hy : PyData.strOk y = true) (q : Q (.bl (x == y)) H) : rEqP K (.str x) (.str y) H Q := ⟨_, _, pd_str hx, pd_str hy, by simpa [PyData.eqv] using q⟩
theorem i_neS {H : Hp} {Q : VK} {x y : Str} (hx : PyData.strOk x = true) (hy : PyData.strOk y = true) (q : Q (.bl (!(x == y))) H) : rNeP K (.str x) (.str y) H Q := ⟨_, _, pd_str hx, pd_str hy, by simpa [PyData.eqv] using q⟩
theorem names_ok : kinNames.all PyData.strOk = true := by decide +kernel
def dueX (x : Str) : List Bool := kinNames.map (· == x) ++ [true]
def spDueKinG : Sp := fun vs H Q _ => ∃ x : Str, vs = [.str x] ∧ PyData.strOk x = true ∧ ∀ l H', Same H H' → H' l = some (.lst (bL (dueX x))) → Q (.ref l) H'
theorem ok_law_due_kin (T : Txt mg) (D : Def K mg "_law_due_kin" s_law_due_kin) : Callee P w K mg base "_law_due_kin" 1 spDueKinG := by
 refine D.ok sc_law_due_kin bd_law_due_kin (fun vs H Q E h => ?len) (fun f cdv A outer s H vs Q E hr h => ?body)
 case len => obtain ⟨x, rfl, _⟩ := h; rfl
 case body =>
  obtain ⟨nm, rfl, hnm, k⟩ := h
  have hu := hr.units
  refine ⟨_, (pss_cons (ps_set (i := 1) sc_law_due_kin.nd rfl (Or.inl rfl) (pe_lst (pa_cons pe_str (pa_cons pe_str (pa_cons pe_str (pa_cons pe_str (pa_cons pe_str (pa_cons pe_str (pa_cons pe_str (pa_cons pe_str (pa_cons pe_str pa_nil)))))))))))
 (pss_cons (ps_set (i := 1) sc_law_due_kin.nd rfl (Or.inl rfl) (pe_op op_addP (pv 1) (pe_lst (pa_cons pe_str (pa_cons pe_str (pa_cons pe_str pa_nil))))))
 (pss_one (ps_ret (pe_op op_addP (by exact pe_comp (N := ["one", "name"]) (fr := [none, some 0]) ⟨by rfl, by decide +kernel, by decide +kernel, (show ∀ y ∈ (_ : List (Str × NameKind)), y.2 = NameKind.free → (defScope s_law_due_kin).names.lookup y.1 = some .cell ∨ (defScope s_law_due_kin).names.lookup y.1 = some .free by decide +kernel), (fr_none (fr_some (by rfl) (by first | exact Or.inl rfl | exact Or.inr rfl) (by rfl) fr_nil))⟩ (by rfl) (pi_listK K (pv 1)) (fun _ _ _ _ => (pg_name (i := 0) (show List.Nodup (["one", "name"] : List Str) by decide) (by rfl) (by first | exact Or.inl rfl | exact Or.inr rfl))) (fun _ _ _ _ => pifs_nil) (fun _ _ _ _ => (pe_cmpR (op_eqK K hu) (pv 0) (pv 1) (nomark _))) (gw_name (by rfl))) (pe_lst (pa_cons pe_bl pa_nil))))))), ?_⟩
  walk_at "un"
  try clear hu
  walk_at "s"
  intro l1 h1
  walk_at "s"
  intro l2 h2
  refine i_addL (a := l1) (b := l2) (same_upd h2 _ _ upd_same) upd_same (szl (by simp)) (fun l3 h3 => ?_)
  have s3' : ∀ o, Same H (upd _ l3 o) := fun o => ((same_upd h1).trans (same_upd h2)).trans (same_upd (o := o) h3)
  generalize hH : upd _ l3 _ = H3
  have s3 : Same H H3 := by rw [← hH]; exact s3' _
  have e4 : H3 l3 = some (.lst (kinNames.map V.str)) := by rw [← hH, upd_same]; rfl
  walk_at "s"
  refine ⟨⟨_, SqL.of e4⟩, cp_list (xs := kinNames.map V.str) (fun i ys H4 => ys = bL ((kinNames.take i).map (· == nm)) ∧ i ≤ 12 ∧ H3 = H4) ⟨by simp [bL], Nat.zero_le _, rfl⟩ ?_ (szlt (by simp [kinNames])) ?_ ?_⟩
  ·rintro i ys H4 ⟨rfl, hi, rfl⟩
   exact ⟨SqL.of e4, by simp [bL]; lia⟩
  ·rintro i x ys H4 hx ⟨rfl, hi, rfl⟩
   rw [List.getElem?_map] at hx
   obtain ⟨z, hz, rfl⟩ := Option.map_eq_some_iff.mp hx
   have hil : i < kinNames.length := (List.getElem?_eq_some_iff.mp hz).1
   walk_at "s"
   refine i_eqS (List.all_eq_true.mp names_ok z (List.mem_of_getElem? hz)) hnm ?_
   refine ⟨?_, by simp [kinNames] at hil; lia, rfl⟩
   rw [take_snoc_get hz]
   simp [bL]
  ·rintro l5 ys H4 ⟨rfl, hi, rfl⟩ h5
   walk_at "s"
   intro l6 h6
   refine i_addL (a := l5) (b := l6) (same_upd h6 _ _ upd_same) upd_same (szl (by simp [bL, kinNames])) (fun l7 h7 => ?_)
   refine k l7 _ (((s3.trans (same_upd h5)).trans (same_upd h6)).trans (same_upd h7)) ?_
   rw [upd_same]
   rfl
def spIsTrain (K : PySem.W.Frag) : Sp := fun vs H Q _ => ∃ (a : Addr) (ps : List Int), vs = [.ref a] ∧ SqL K H a (iL ps) ∧ ∀ b : Bool, (b = true ↔ isTr ps) → Q (.bl b) H
theorem ok_is_train (T : Txt mg) (D : Def K mg "is_train" s_is_train) : Callee P w K mg base "is_train" 1 (spIsTrain K) := by
 refine D.ok sc_is_train bd_is_train (fun vs H Q E h => ?len) (fun f cdv A outer s H vs Q E hr h => ?body)
 case len => obtain ⟨a, ps, rfl, _⟩ := h; rfl
 case body =>
  obtain ⟨a, ps, rfl, hS, k⟩ := h
  refine ⟨_, (pss_one (ps_ret (pe_and (pe_chain op_le op_le pe_int (pe_callB (call_lenK K) (by rfl) T.z_len bt_len (pa_cons (pv 0) pa_nil)) (pe_globI T.g_MOST_PLAYS (by rfl))) (pe_one (pe_cmpR op_ge (pe_callB (call_minK K) (by rfl) T.z_min bt_min (pa_cons (pv 0) pa_nil)) pe_int (nomark _)))))), ?_⟩
  walk_at "un"
  try clear hu
  walk_at "s"
  refine i_lenI hS ?_
  walk_at "s"
  refine i_if (fun g1 => ?_) (fun g1 => ?_)
  ·walk_at "s"
   refine i_if (fun g2 => ?_) (fun g2 => ?_)
   ·walk_at "s"
    refine i_minL hS (by lia) (fun m hm hle => ?_)
    walk_at "s"
    refine k _ ⟨fun z => ⟨by lia, by lia, fun p hp => ?_⟩, fun z => ?_⟩
    ·have := hle p hp
     have := of_decide_eq_true z
     lia
    ·exact decide_eq_true (z.2.2 m hm)
   ·exact k _ ⟨fun z => (Bool.noConfusion z), fun z => absurd z.2.1 (by lia)⟩
  ·walk_at "s"
   exact k _ ⟨fun z => (Bool.noConfusion z), fun z => absurd z.1 (by lia)⟩
def spKeeps (K : PySem.W.Frag) : Sp := fun vs H Q _ => ∃ (a b : Addr) (ps xs : List Int) (hd : Int), vs = [.ref a, .int hd, .ref b] ∧ SqL K H a (iL ps) ∧ SqL K H b (iL xs) ∧ ∀ (r : Bool) H', (r = true ↔ keeps ps hd xs) → Same H H' → Q (.bl r) H'
theorem keeps_end {ps xs : List Int} {a : Int} : keeps (ps.drop (min ps.length xs.length)) a (xs.drop (min ps.length xs.length)) := by
 by_cases h : ps.length ≤ xs.length
 ·rw [Nat.min_eq_left h, List.drop_of_length_le (Nat.le_refl _)]; trivial
 ·rw [Nat.min_eq_right (by lia), List.drop_of_length_le (l := xs) (Nat.le_refl _)]
  cases ps.drop xs.length <;> trivial
theorem ok_keeps_plays (T : Txt mg) (D : Def K mg "keeps_plays" s_keeps_plays) : Callee P w K mg base "keeps_plays" 1 (spKeeps K) := by
 refine D.ok sc_keeps_plays bd_keeps_plays (fun vs H Q E h => ?len) (fun f cdv A outer s H vs Q E hr h => ?body)
 case len => obtain ⟨a, b, ps, xs, hd, rfl, _⟩ := h; rfl
 case body =>
  obtain ⟨a, b, ps, xs, hd, rfl, hA, hB, k⟩ := h
  refine ⟨_, (pss_cons (ps_set (i := 3) sc_keeps_plays.nd rfl (Or.inl rfl) (pv 1))
 (pss_cons (ps_for PassesOwn.never rfl (pi_zip2K K (by rfl) T.z_zip (pa_cons (pv 0) (pa_cons (pv 2) pa_nil))) (pg_tupK K 2 (pgs_cons (pg_name (i := 4) sc_keeps_plays.nd rfl (Or.inl rfl)) (pgs_cons (pg_name (i := 5) sc_keeps_plays.nd rfl (Or.inl rfl)) pgs_nil)))
 (pss_cons (ps_if (pt_cmpR op_gt (pe_callB call_absK (by rfl) T.z_abs bt_abs (pa_cons (pe_op op_sub (pv 5) (pv 3)) pa_nil)) (pv 4) (nomark _))
 (pss_one (ps_ret pe_bl))
 pss_nil)
 (pss_one (ps_set (i := 3) sc_keeps_plays.nd rfl (Or.inl rfl) (pv 5)))))
 (pss_one (ps_ret pe_bl)))), ?_⟩
  walk_at "un"
  try clear hu
  walk_at "s"
  refine ⟨_, _, rfl, ⟨_, hA⟩, ⟨_, hB⟩, lp_zip (xs := iL ps) (ys := iL xs) (fun i σ H2 => ∃ (ah : Int) (u v : Option V), σ = [some (.ref a), some (.int hd), some (.ref b), some (.int ah), u, v] ∧ Same H H2 ∧ (keeps ps hd xs ↔ keeps (ps.drop i) ah (xs.drop i))) ?_ ?_ ?_ ?_⟩
  ·exact ⟨hd, _, _, rfl, Same.refl _, Iff.rfl⟩
  ·rintro i σ H2 ⟨ah, u, v, rfl, sm, hk⟩
   exact ⟨sm.seq hA, sm.seq hB⟩
  ·rintro i x y t σ H2 hx hy ⟨ah, u, v, rfl, sm, hk⟩ ht
   rw [List.getElem?_map] at hx hy
   obtain ⟨p, hp, rfl⟩ := Option.map_eq_some_iff.mp hx
   obtain ⟨q, hq, rfl⟩ := Option.map_eq_some_iff.mp hy
   walk_at "s"
   refine ⟨_, _, rfl, SqT.of upd_same, rfl, _, _, rfl, _, _, rfl, rfl, ?_⟩
   walk_at "s"
   rw [dropc hp, dropc hq] at hk
   refine i_if (fun g => ?_) (fun g => ?_)
   ·walk_at "s"
    refine k _ _ ⟨fun z => (Bool.noConfusion z), fun z => ?_⟩ (sm.trans (same_upd ht))
    have := (hk.mp z).1
    split at g <;> lia
   ·walk_at "s"
    refine ⟨q, _, _, rfl, sm.trans (same_upd ht), hk.trans ⟨fun z => z.2, fun z => ⟨?_, z⟩⟩⟩
    split at g <;> lia
  ·rintro σ H2 ⟨ah, u, v, rfl, sm, hk⟩
   walk_at "s"
   refine k _ _ ⟨fun _ => hk.mpr ?_, fun _ => rfl⟩ sm
   simp only [iL, List.length_map]
   exact keeps_end
def spDragged : Sp := fun vs H Q _ => ∃ p a x, vs = [.int p, .int a, .int x] ∧ Q (.int (drag p a x)) H
theorem ok_dragged (T : Txt mg) (D : Def K mg "dragged" s_dragged) : Callee P w K mg base "dragged" 1 spDragged := by
 refine D.ok sc_dragged bd_dragged (fun vs H Q E h => ?len) (fun f cdv A outer s H vs Q E hr h => ?body)
 case len => obtain ⟨p, a, x, rfl, _⟩ := h; rfl
 case body =>
  obtain ⟨p, a, x, rfl, k⟩ := h
  unfold drag at k
  refine ⟨_, (pss_cons (ps_if (pt_cmpR op_lt (pv 2) (pe_op op_sub (pv 1) (pv 0)) (nomark _))
 (pss_one (ps_ret (pe_op op_sub (pv 1) (pv 0))))
 pss_nil)
 (pss_cons (ps_if (pt_cmpR op_gt (pv 2) (pe_op op_addP (pv 1) (pv 0)) (nomark _))
 (pss_one (ps_ret (pe_op op_addP (pv 1) (pv 0))))
 pss_nil)
 (pss_one (ps_ret (pv 2))))), ?_⟩
  walk_at "un"
  try clear hu
  walk_at "s"
  refine i_if (fun h1 => ?_) (fun h1 => ?_)
  ·walk_at "s"
   rw [if_pos h1] at k; exact k
  ·walk_at "s"
   rw [if_neg h1] at k
   refine i_if (fun h2 => ?_) (fun h2 => ?_)
   ·walk_at "s"
    rw [if_pos h2] at k; exact k
   ·walk_at "s"
    rw [if_neg h2] at k; exact k
def spAllDr (K : PySem.W.Frag) : Sp := fun vs H Q _ => ∃ (a b : Addr) (ps xs : List Int) (c : Int), vs = [.ref a, .ref b, .int c] ∧ SqL K H a (iL ps) ∧ SqL K H b (iL xs) ∧ ps.length ≤ 12 ∧ (∀ p ∈ ps, 0 ≤ p) ∧ ∀ l H', NewI H H' l (dragAll ps xs c) → Q (.ref l) H'
theorem ok_all_dragged (T : Txt mg) (D : Def K mg "all_dragged" s_all_dragged) (C_dragged : Callee P w K mg base "dragged" 1 spDragged) : Callee P w K mg base "all_dragged" 2 (spAllDr K) := by
 refine D.ok sc_all_dragged bd_all_dragged (fun vs H Q E h => ?len) (fun f cdv A outer s H vs Q E hr h => ?body)
 case len => obtain ⟨a, b, ps, xs, c, rfl, _⟩ := h; rfl
 case body =>
  obtain ⟨a, b, ps, xs, c, rfl, hA, hB, h12, hp0, k⟩ := h
  refine ⟨_, (pss_cons (ps_set (i := 3) sc_all_dragged.nd rfl (Or.inl rfl) (pe_lst pa_nil))
 (pss_cons (ps_set (i := 4) sc_all_dragged.nd rfl (Or.inl rfl) (pv 2))
 (pss_cons (ps_for PassesOwn.never rfl (pi_zip2K K (by rfl) T.z_zip (pa_cons (pv 0) (pa_cons (pv 1) pa_nil))) (pg_tupK K 2 (pgs_cons (pg_name (i := 5) sc_all_dragged.nd rfl (Or.inl rfl)) (pgs_cons (pg_name (i := 6) sc_all_dragged.nd rfl (Or.inl rfl)) pgs_nil)))
 (pss_cons (ps_set (i := 4) sc_all_dragged.nd rfl (Or.inl rfl) (pe_callN C_dragged (hr.mono (by decide)) (by rfl) (pa_cons (pv 5) (pa_cons (pv 4) (pa_cons (pv 6) pa_nil)))))
 (pss_one (ps_expr (pe_bmK K PySem.F.plainAttrs_list PySem.F.slot_list_append PySem.F.type_list_append mt_append (pv 3) (pa_cons (pv 4) pa_nil))))))
 (pss_one (ps_ret (pv 3)))))), ?_⟩
  walk_at "un"
  try clear hu
  walk_at "s"
  intro l hl
  walk_at "s"
  have s1 : Same H (upd H l (.lst [])) := same_upd hl
  refine ⟨_, _, rfl, ⟨_, s1.seq hA⟩, ⟨_, s1.seq hB⟩, lp_zip (xs := iL ps) (ys := iL xs) (fun i σ H2 => ∃ (ah : Int) (u v : Option V) (dn : List Int), σ = [some (.ref a), some (.ref b), some (.int c), some (.ref l), some (.int ah), u, v] ∧ NewI H H2 l dn ∧ dn.length ≤ 12 ∧ dn.length = i ∧ dragAll ps xs c = dn ++ dragAll (ps.drop i) (xs.drop i) ah) ?_ ?_ ?_ ?_⟩
  ·exact ⟨c, _, _, [], rfl, ⟨hl, s1, upd_same⟩, by simp, rfl, rfl⟩
  ·rintro i σ H2 ⟨ah, u, v, dn, rfl, N, hl12, hi, hk⟩
   exact ⟨N.sm.seq hA, N.sm.seq hB⟩
  ·rintro i x y t σ H2 hx hy ⟨ah, u, v, dn, rfl, N, hl12, hi, hk⟩ ht
   rw [List.getElem?_map] at hx hy
   obtain ⟨p, hp, rfl⟩ := Option.map_eq_some_iff.mp hx
   obtain ⟨q, hq, rfl⟩ := Option.map_eq_some_iff.mp hy
   have hpl : i < ps.length := (List.getElem?_eq_some_iff.mp hp).1
   walk_at "s"
   refine ⟨_, _, rfl, SqT.of upd_same, rfl, _, _, rfl, _, _, rfl, rfl, ?_⟩
   walk_at "s"
   refine ⟨p, ah, q, rfl, ?_⟩
   rw [dropc hp, dropc hq] at hk
   have N2 := N.more (same_upd (o := .tup [.int p, .int q]) ht)
   walk_at "s"
   refine ⟨.inl ⟨rfl, _, SqL.of N2.at_⟩, ?_⟩
   walk_at "s"
   refine i_app N2.at_ (szlt (by simp [iL]; lia)) ?_
   refine ⟨_, _, _, dn ++ [drag p ah q], rfl, N2.app, by simp; lia, by simp; lia, ?_⟩
   rw [hk, dragAll]; simp
  ·rintro σ H2 ⟨ah, u, v, dn, rfl, N, hl12, hi, hk⟩
   walk_at "s"
   have e : dragAll ps xs c = dn := by
    rw [hk]
    simp only [iL, List.length_map]
    by_cases h : ps.length ≤ xs.length
    ·rw [Nat.min_eq_left h, List.drop_of_length_le (Nat.le_refl _), dragAll_nil, List.append_nil]
    ·rw [Nat.min_eq_right (by lia), List.drop_of_length_le (l := xs) (Nat.le_refl _), dragAll_nil2, List.append_nil]
   rw [e] at k
   exact k l H2 N
def spRefTrainE (K : PySem.W.Frag) (C : Addr) : Sp := fun vs H Q E => ∃ (a : Addr) (ps : List Int), vs = [.ref a] ∧ SqL K H a (iL ps) ∧ (isTr ps → Q .non H) ∧ (¬ isTr ps → E (.ref C) none H)
theorem ok_refuse_no_train (T : Txt mg) (Z : Cls K mg) (D : Def K mg "refuse_no_train" s_refuse_no_train) (C_is_train : Callee P w K mg base "is_train" 1 (spIsTrain K)) : CalleeE P w K mg base "refuse_no_train" 2 (spRefTrainE K Z.c_NoTrain) := by
 refine Def.okE D sc_refuse_no_train bd_refuse_no_train (fun vs H Q E h => ?len) (fun f cdv A outer s H vs Q E hr h => ?body)
 case len => obtain ⟨a, ps, rfl, _⟩ := h; rfl
 case body =>
  obtain ⟨a, ps, rfl, hS, k1, k2⟩ := h
  refine ⟨_, (pss_one (ps_if (pt_not (pt_truthK K (pe_callN C_is_train (hr.mono (by decide)) (by rfl) (pa_cons (pv 0) pa_nil))))
 (pss_one (ps_raise Z.exc_NoTrain PySem.F.excBase_ValueError (by rfl) (pa_cons pe_str pa_nil)))
 pss_nil)), ?_⟩
  walk_at "un"
  try clear hu
  walk_at "s"
  refine ⟨a, ps, rfl, hS, fun b hb => ?_⟩
  cases b with
  | true =>
    walk_at "s"
    exact k1 (hb.mp rfl)
  | false =>
    walk_at "s"
    exact ⟨by simp, k2 fun z => by have := hb.mpr z; cases this⟩
def spIsStandE (K : PySem.W.Frag) (C : Addr) : Sp := fun vs H Q E => ∃ (a b : Addr) (ps xs : List Int) (hd : Int), vs = [.ref a, .int hd, .ref b] ∧ SqL K H a (iL ps) ∧ SqL K H b (iL xs) ∧ (isTr ps → ∀ (r : Bool) H', (r = true ↔ stand ps hd xs) → Same H H' → Q (.bl r) H') ∧ (¬ isTr ps → E (.ref C) none H)
theorem ok_is_stand (T : Txt mg) (Z : Cls K mg) (D : Def K mg "is_stand" s_is_stand) (C_refuse_no_train : CalleeE P w K mg base "refuse_no_train" 2 (spRefTrainE K Z.c_NoTrain)) (C_keeps_plays : Callee P w K mg base "keeps_plays" 1 (spKeeps K)) : CalleeE P w K mg base "is_stand" 3 (spIsStandE K Z.c_NoTrain) := by
 refine Def.okE D sc_is_stand bd_is_stand (fun vs H Q E h => ?len) (fun f cdv A outer s H vs Q E hr h => ?body)
 case len => obtain ⟨a, b, ps, xs, hd, rfl, _⟩ := h; rfl
 case body =>
  obtain ⟨a, b, ps, xs, hd, rfl, hA, hB, k, k2⟩ := h
  have hu := hr.units
  refine ⟨_, (pss_cons (ps_expr (pe_callE C_refuse_no_train (hr.mono (by decide)) (by rfl) (pa_cons (pv 0) pa_nil)))
 (pss_one (ps_ret (pe_and (pe_cmpR (op_eqK K hu) (pe_callB (call_lenK K) (by rfl) T.z_len bt_len (pa_cons (pv 2) pa_nil)) (pe_callB (call_lenK K) (by rfl) T.z_len bt_len (pa_cons (pv 0) pa_nil)) (nomark _)) (pe_one (pe_callN C_keeps_plays (hr.mono (by decide)) (by rfl) (pa_cons (pv 0) (pa_cons (pv 1) (pa_cons (pv 2) pa_nil))))))))), ?_⟩
  walk_at "un"
  try clear hu
  walk_at "s"
  refine ⟨a, ps, rfl, hA, fun ht => ?_, k2⟩
  have k := k ht
  walk_at "s"
  refine i_lenI hB ?_
  walk_at "s"
  refine i_lenI hA ?_
  walk_at "s"
  refine i_if (fun g => ?_) (fun g => ?_)
  ·walk_at "s"
   exact ⟨a, b, ps, xs, hd, rfl, hA, hB, fun r H' hr' sm => k r H' (hr'.trans ⟨fun z => ⟨by lia, z⟩, fun z => z.2⟩) sm⟩
  ·exact k _ _ ⟨fun z => (Bool.noConfusion z), fun z => absurd z.1 (by lia)⟩ (Same.refl _)
def spDepthsE (K : PySem.W.Frag) (C : Addr) : Sp := fun vs H Q E => ∃ (a : Addr) (ps : List Int), vs = [.ref a] ∧ SqL K H a (iL ps) ∧ (isTr ps → ∀ l H', NewI H H' l (depths 0 ps) → Q (.ref l) H') ∧ (¬ isTr ps → E (.ref C) none H)
theorem ok_depths_of (T : Txt mg) (Z : Cls K mg) (D : Def K mg "depths_of" s_depths_of) (C_refuse_no_train : CalleeE P w K mg base "refuse_no_train" 2 (spRefTrainE K Z.c_NoTrain)) : CalleeE P w K mg base "depths_of" 3 (spDepthsE K Z.c_NoTrain) := by
 refine Def.okE D sc_depths_of bd_depths_of (fun vs H Q E h => ?len) (fun f cdv A outer s H vs Q E hr h => ?body)
 case len => obtain ⟨a, ps, rfl, _⟩ := h; rfl
 case body =>
  obtain ⟨a, ps, rfl, hA, k, k2⟩ := h
  refine ⟨_, (pss_cons (ps_expr (pe_callE C_refuse_no_train (hr.mono (by decide)) (by rfl) (pa_cons (pv 0) pa_nil)))
 (pss_cons (ps_set (i := 1) sc_depths_of.nd rfl (Or.inl rfl) (pe_lst pa_nil))
 (pss_cons (ps_set (i := 2) sc_depths_of.nd rfl (Or.inl rfl) pe_int)
 (pss_cons (ps_for PassesOwn.leaving rfl (pi_listK K (pv 0)) (pg_name (i := 3) sc_depths_of.nd rfl (Or.inl rfl))
 (pss_cons (ps_aug (i := 2) sc_depths_of.nd rfl (Or.inl rfl) (pv 3) ip_add)
 (pss_one (ps_expr (pe_bmK K PySem.F.plainAttrs_list PySem.F.slot_list_append PySem.F.type_list_append mt_append (pv 1) (pa_cons (pv 2) pa_nil))))))
 (pss_one (ps_ret (pv 1))))))), ?_⟩
  walk_at "un"
  try clear hu
  walk_at "s"
  refine ⟨a, ps, rfl, hA, fun ht => ?_, k2⟩
  have k := k ht
  walk_at "s"
  intro l hl
  walk_at "s"
  have s2 : Same H (upd H l (.lst [])) := same_upd hl
  have h12 := ht.2.1
  refine ⟨⟨_, s2.seq hA⟩, lp_ints (ns := ps) (fun i σ H2 => ∃ (u : Option V) (dn : List Int) (dd : Int), σ = [some (.ref a), some (.ref l), some (.int dd), u] ∧ NewI H H2 l dn ∧ dn.length = i ∧ depths 0 ps = dn ++ depths dd (ps.drop i)) ?_ ?_ ?_ ?_⟩
  ·exact ⟨_, [], 0, rfl, ⟨hl, s2, upd_same⟩, rfl, rfl⟩
  ·rintro i σ H2 _ ⟨u, dn, dd, rfl, N, hi, hd⟩
   exact N.sm.seq hA
  ·rintro i x σ H2 hxi ⟨u, dn, dd, rfl, N, hi, hd⟩
   have hil : i < ps.length := (List.getElem?_eq_some_iff.mp hxi).1
   walk_at "s"
   refine ⟨_, _, rfl, rfl, ?_⟩
   walk_at "s"
   refine ⟨.inl ⟨rfl, _, SqL.of N.at_⟩, ?_⟩
   walk_at "s"
   refine i_app N.at_ (szlt (by simp [iL]; lia)) ?_
   refine ⟨_, dn ++ [dd + x], dd + x, rfl, N.app, by simp; lia, ?_⟩
   rw [hd, dropc hxi, depths]; simp
  ·rintro σ H2 ⟨u, dn, dd, rfl, N, hi, hd⟩
   walk_at "s"
   rw [List.drop_of_length_le (Nat.le_refl _), depths, List.append_nil] at hd
   rw [hd] at k
   exact k l H2 N
theorem pdb (bs : List Bool) {H : Hp} {n : Nat} : Paired (PdAt K H n) (bs.map PyData.bool) (bL bs) := by
 induction bs with
 | nil => exact .nil
 | cons b bs ih => exact .cons pd_bl ih
theorem ixN_pos {n : Nat} {k : Int} (h0 : 0 ≤ k) (h1 : k < n) : ixN n k = some k.toNat := by
 unfold ixN
 first | (simp; lia) | (split <;> simp_all <;> lia)
def spRefStandE (K : PySem.W.Frag) (CT CS : Addr) : Sp := fun vs H Q E => ∃ (a b : Addr) (ps xs : List Int) (hd : Int), vs = [.ref a, .int hd, .ref b] ∧ SqL K H a (iL ps) ∧ SqL K H b (iL xs) ∧ (isTr ps → stand ps hd xs → ∀ H', Same H H' → Q .non H') ∧ Exs E H CT CS (isTr ps) (stand ps hd xs)
theorem ok_refuse_no_stand (T : Txt mg) (Z : Cls K mg) (D : Def K mg "refuse_no_stand" s_refuse_no_stand) (C_is_stand : CalleeE P w K mg base "is_stand" 3 (spIsStandE K Z.c_NoTrain)) : CalleeE P w K mg base "refuse_no_stand" 4 (spRefStandE K Z.c_NoTrain Z.c_NoStand) := by
 refine Def.okE D sc_refuse_no_stand bd_refuse_no_stand (fun vs H Q E h => ?len) (fun f cdv A outer s H vs Q E hr h => ?body)
 case len => obtain ⟨a, b, ps, xs, hd, rfl, _⟩ := h; rfl
 case body =>
  obtain ⟨a, b, ps, xs, hd, rfl, hA, hB, k, x⟩ := h
  refine ⟨_, (pss_one (ps_if (pt_not (pt_truthK K (pe_callE C_is_stand (hr.mono (by decide)) (by rfl) (pa_cons (pv 0) (pa_cons (pv 1) (pa_cons (pv 2) pa_nil))))))
 (pss_one (ps_raise Z.exc_NoStand PySem.F.excBase_ValueError (by rfl) (pa_cons pe_str pa_nil)))
 pss_nil)), ?_⟩
  walk_at "un"
  try clear hu
  walk_at "s"
  refine ⟨a, b, ps, xs, hd, rfl, hA, hB, fun ht r H' hr' sm => ?_, fun hn => x.1 hn _ (Same.refl _)⟩
  cases r with
  | true =>
    walk_at "s"
    exact k ht (hr'.mp rfl) H' sm
  | false =>
    walk_at "s"
    exact ⟨by simp, x.2 ht (fun z => by have := hr'.mpr z; cases this) H' sm⟩
def spRefStand (K : PySem.W.Frag) : Sp := fun vs H Q _ => ∃ (a b : Addr) (ps xs : List Int) (hd : Int), vs = [.ref a, .int hd, .ref b] ∧ SqL K H a (iL ps) ∧ SqL K H b (iL xs) ∧ isTr ps ∧ stand ps hd xs ∧ ∀ H', Same H H' → Q .non H'
theorem calm_refuse_no_stand {CT CS : Addr} (C : CalleeE P w K mg base "refuse_no_stand" 4 (spRefStandE K CT CS)) : Callee P w K mg base "refuse_no_stand" 4 (spRefStand K) :=
 calm_of C fun vs H Q E ⟨a, b, ps, xs, hd, h1, h2, h3, h4, h5, h6⟩ => ⟨a, b, ps, xs, hd, h1, h2, h3, fun _ _ => h6, Exs.no h4 h5⟩
def spDepths (K : PySem.W.Frag) : Sp := fun vs H Q _ => ∃ (a : Addr) (ps : List Int), vs = [.ref a] ∧ SqL K H a (iL ps) ∧ isTr ps ∧ ∀ l H', NewI H H' l (depths 0 ps) → Q (.ref l) H'
theorem calm_depths_of {CT : Addr} (C : CalleeE P w K mg base "depths_of" 3 (spDepthsE K CT)) : Callee P w K mg base "depths_of" 3 (spDepths K) :=
 calm_of C fun vs H Q E ⟨a, ps, h1, h2, h3, h4⟩ => ⟨a, ps, h1, h2, fun _ => h4, fun z => absurd h3 z⟩
def spRefBoundsE (K : PySem.W.Frag) (CT CS : Addr) : Sp := fun vs H Q E => ∃ (a b : Addr) (ps xs : List Int) (hd lo hi : Int), vs = [.ref a, .int hd, .ref b, .int lo, .int hi] ∧ SqL K H a (iL ps) ∧ SqL K H b (iL xs) ∧ (isTr ps → stand ps hd xs → lo ≤ hd → hd ≤ hi → ∀ H', Same H H' → Q .non H') ∧ Exs E H CT CS (isTr ps) (stand ps hd xs ∧ lo ≤ hd ∧ hd ≤ hi)
theorem ok_refuse_no_bounds (T : Txt mg) (Z : Cls K mg) (D : Def K mg "refuse_no_bounds" s_refuse_no_bounds) (C_refuse_no_stand : CalleeE P w K mg base "refuse_no_stand" 4 (spRefStandE K Z.c_NoTrain Z.c_NoStand)) : CalleeE P w K mg base "refuse_no_bounds" 5 (spRefBoundsE K Z.c_NoTrain Z.c_NoStand) := by
 refine Def.okE D sc_refuse_no_bounds bd_refuse_no_bounds (fun vs H Q E h => ?len) (fun f cdv A outer s H vs Q E hr h => ?body)
 case len => obtain ⟨a, b, ps, xs, hd, lo, hi, rfl, _⟩ := h; rfl
 case body =>
  obtain ⟨a, b, ps, xs, hd, lo, hi, rfl, hA, hB, k, x⟩ := h
  refine ⟨_, (pss_cons (ps_expr (pe_callE C_refuse_no_stand (hr.mono (by decide)) (by rfl) (pa_cons (pv 0) (pa_cons (pv 1) (pa_cons (pv 2) pa_nil)))))
 (pss_one (ps_if (pt_not (pt_chain op_le op_le (pv 3) (pv 1) (pv 4)))
 (pss_one (ps_raise Z.exc_NoStand PySem.F.excBase_ValueError (by rfl) (pa_cons pe_str pa_nil)))
 pss_nil))), ?_⟩
  walk_at "un"
  try clear hu
  walk_at "s"
  refine ⟨a, b, ps, xs, hd, rfl, hA, hB, fun ht hs H1 s1 => ?_, x.imp fun _ z => z.1⟩
  walk_at "s"
  refine i_if (fun g => ?_) (fun g => ?_)
  ·walk_at "s"
   refine i_ifn (fun g2 => ?_) (fun g2 => ?_)
   ·walk_at "s"
    exact ⟨by simp, x.2 ht (fun z => g2 z.2.2) _ s1⟩
   ·walk_at "s"
    exact k ht hs g g2 _ s1
  ·walk_at "s"
   exact ⟨by simp, x.2 ht (fun z => g z.2.1) _ s1⟩
def spRangesE (K : PySem.W.Frag) (CT CS : Addr) : Sp := fun vs H Q E => ∃ (a b : Addr) (ps xs : List Int) (hd lo hi : Int), vs = [.ref a, .int hd, .ref b, .int lo, .int hi] ∧ SqL K H a (iL ps) ∧ SqL K H b (iL xs) ∧ (isTr ps → stand ps hd xs → lo ≤ hd → hd ≤ hi → ∀ l H', Same H H' → Q (.ref l) H') ∧ Exs E H CT CS (isTr ps) (stand ps hd xs ∧ lo ≤ hd ∧ hd ≤ hi)
theorem ok_ranges_of (T : Txt mg) (Z : Cls K mg) (D : Def K mg "ranges_of" s_ranges_of) (C_refuse_no_bounds : CalleeE P w K mg base "refuse_no_bounds" 5 (spRefBoundsE K Z.c_NoTrain Z.c_NoStand)) (C_depths_of : Callee P w K mg base "depths_of" 3 (spDepths K)) : CalleeE P w K mg base "ranges_of" 6 (spRangesE K Z.c_NoTrain Z.c_NoStand) := by
 refine Def.okE D sc_ranges_of bd_ranges_of (fun vs H Q E h => ?len) (fun f cdv A outer s H vs Q E hr h => ?body)
 case len => obtain ⟨a, b, ps, xs, hd, lo, hi, rfl, _⟩ := h; rfl
 case body =>
  obtain ⟨a, b, ps, xs, hd, lo, hi, rfl, hA, hB, k, x⟩ := h
  have hu := hr.units
  refine ⟨_, (pss_cons (ps_expr (pe_callE C_refuse_no_bounds (hr.mono (by decide)) (by rfl) (pa_cons (pv 0) (pa_cons (pv 1) (pa_cons (pv 2) (pa_cons (pv 3) (pa_cons (pv 4) pa_nil)))))))
 (pss_one (ps_ret (by exact pe_comp (N := ["depth", "at", "low", "high"]) (fr := [none, none, some 3, some 4]) ⟨by rfl, by decide +kernel, by decide +kernel, (show ∀ y ∈ (_ : List (Str × NameKind)), y.2 = NameKind.free → (defScope s_ranges_of).names.lookup y.1 = some .cell ∨ (defScope s_ranges_of).names.lookup y.1 = some .free by decide +kernel), (fr_none (fr_none (fr_some (by rfl) (by first | exact Or.inl rfl | exact Or.inr rfl) (by rfl) (fr_some (by rfl) (by first | exact Or.inl rfl | exact Or.inr rfl) (by rfl) fr_nil))))⟩ (by rfl) (pi_zip2K K (by rfl) T.z_zip (pa_cons (pe_callN C_depths_of (hr.mono (by decide)) (by rfl) (pa_cons (pv 0) pa_nil)) (pa_cons (pv 2) pa_nil))) (fun _ _ _ _ => (pg_tupK K 2 (pgs_cons (pg_name (i := 0) (show List.Nodup (["depth", "at", "low", "high"] : List Str) by decide) (by rfl) (by first | exact Or.inl rfl | exact Or.inr rfl)) (pgs_cons (pg_name (i := 1) (show List.Nodup (["depth", "at", "low", "high"] : List Str) by decide) (by rfl) (by first | exact Or.inl rfl | exact Or.inr rfl)) pgs_nil)))) (fun _ _ _ _ => pifs_nil) (fun _ _ _ _ => (pe_tup (pa_cons (pe_callB (call_minK K) (by rfl) T.z_min bt_min (pa_cons (pv 1) (pa_cons (pe_op op_addP (pv 2) (pv 0)) pa_nil))) (pa_cons (pe_callB (call_maxK K) (by rfl) T.z_max bt_max (pa_cons (pv 1) (pa_cons (pe_op op_sub (pv 3) (pv 0)) pa_nil))) pa_nil)))) (gw_tup (gws_cons (gw_name (by rfl)) (gws_cons (gw_name (by rfl)) gws_nil))))))), ?_⟩
  walk_at "un"
  try clear hu
  walk_at "s"
  refine ⟨a, b, ps, xs, hd, lo, hi, rfl, hA, hB, fun ht hs g1 g2 H1 s1 => ?_, x⟩
  have k := k ht hs g1 g2
  walk_at "s"
  refine ⟨a, ps, rfl, s1.seq hA, ht, fun l2 H2 N2 => ?_⟩
  have S2 := s1.trans N2.sm
  have h12 := ht.2.1
  have hxl := hs.1
  walk_at "s"
  refine ⟨_, _, rfl, ⟨_, SqL.of N2.at_⟩, ⟨_, S2.seq hB⟩, cp_zip (xs := iL (depths 0 ps)) (ys := iL xs) (fun i ys H3 => ys.length = i ∧ Same H2 H3) ⟨rfl, Same.refl _⟩ ?_ (szlt (by simp [iL, depths_length]; lia)) ?_ ?_⟩
  ·rintro i ys H3 ⟨hl, s3⟩
   exact ⟨SqL.of (s3 _ _ N2.at_), (S2.trans s3).seq hB, by lia⟩
  ·rintro i x y tt ys H3 hx hy ⟨hl, s3⟩ htt
   unfold iL at hx hy
   rw [List.getElem?_map] at hx hy
   obtain ⟨u, hu', rfl⟩ := Option.map_eq_some_iff.mp hx
   obtain ⟨v, hv', rfl⟩ := Option.map_eq_some_iff.mp hy
   walk_at "s"
   refine ⟨_, _, rfl, SqT.of upd_same, rfl, _, _, rfl, _, _, rfl, rfl, ?_⟩
   walk_at "s"
   refine i_min2 ?_
   rintro m1 rfl
   walk_at "s"
   refine i_max2 ?_
   rintro m2 rfl
   walk_at "s"
   intro t2 h2
   exact ⟨by simp; lia, s3.trans ((same_upd htt).trans (same_upd h2))⟩
  ·rintro l4 ys H3 ⟨hl, s3⟩ h4
   exact k l4 _ (S2.trans (s3.trans (same_upd h4)))
def spBesideNone : Sp := fun vs H Q _ => ∃ (a b : Addr) (hd lo hi : Int), vs = [.ref a, .int hd, .ref b, .int lo, .int hi] ∧ lo = hd ∧ hi = hd ∧ ∀ l H', Same H H' → H' l = some (.lst []) → Q (.ref l) H'
theorem ok_stands_beside (T : Txt mg) (D : Def K mg "stands_beside" s_stands_beside) (C_all_dragged : Callee P w K mg base "all_dragged" 2 (spAllDr K)) : Callee P w K mg base "stands_beside" 3 spBesideNone := by
 refine D.ok sc_stands_beside bd_stands_beside (fun vs H Q E h => ?len) (fun f cdv A outer s H vs Q E hr h => ?body)
 case len => obtain ⟨a, b, hd, lo, hi, rfl, _⟩ := h; rfl
 case body =>
  obtain ⟨a, b, hd, lo, hi, rfl, rfl, rfl, k⟩ := h
  have hu := hr.units
  refine ⟨_, (pss_one (ps_ret (by exact pe_comp (N := ["place", "plays", "wheels", "low", "high"]) (fr := [none, some 0, some 2, some 3, some 4]) ⟨by rfl, by decide +kernel, by decide +kernel, (show ∀ y ∈ (_ : List (Str × NameKind)), y.2 = NameKind.free → (defScope s_stands_beside).names.lookup y.1 = some .cell ∨ (defScope s_stands_beside).names.lookup y.1 = some .free by decide +kernel), (fr_none (fr_some (by rfl) (by first | exact Or.inl rfl | exact Or.inr rfl) (by rfl) (fr_some (by rfl) (by first | exact Or.inl rfl | exact Or.inr rfl) (by rfl) (fr_some (by rfl) (by first | exact Or.inl rfl | exact Or.inr rfl) (by rfl) (fr_some (by rfl) (by first | exact Or.inl rfl | exact Or.inr rfl) (by rfl) fr_nil)))))⟩ (by rfl) (pi_tupK K (pe_tup (pa_cons (pe_op op_sub (pv 1) pe_int) (pa_cons (pe_op op_addP (pv 1) pe_int) pa_nil)))) (fun _ _ _ _ => (pg_name (i := 0) (show List.Nodup (["place", "plays", "wheels", "low", "high"] : List Str) by decide) (by rfl) (by first | exact Or.inl rfl | exact Or.inr rfl))) (fun _ _ _ _ => (pifs_one (pt_chain op_le op_le (pv 3) (pv 0) (pv 4)))) (fun _ _ _ _ => (pe_tup (pa_cons (pv 0) (pa_cons (pe_callTy (call_tupleK K) (by rfl) T.z_tuple bt_tuple (pa_cons (pe_callN C_all_dragged (hr.mono (by decide)) (by rfl) (pa_cons (pv 1) (pa_cons (pv 2) (pa_cons (pv 0) pa_nil)))) pa_nil)) pa_nil)))) (gw_name (by rfl))))), ?_⟩
  walk_at "un"
  try clear hu
  walk_at "s"
  intro p hp
  refine ⟨_, rfl, ⟨_, SqT.of upd_same⟩, cp_tup (xs := [.int (hi - 1), .int (hi + 1)]) (fun i ys H2 => ys = [] ∧ Same (upd H p (.tup [.int (hi - 1), .int (hi + 1)])) H2) ⟨rfl, Same.refl _⟩ ?_ (szlt (by simp)) ?_ ?_⟩
  ·rintro i ys H2 ⟨rfl, sm⟩
   exact ⟨SqT.of (sm _ _ upd_same), Nat.zero_le _⟩
  ·rintro i x ys H2 hx ⟨rfl, sm⟩
   have hx' : ∃ z : Int, x = .int z ∧ (z = hi - 1 ∨ z = hi + 1) := by
    match i, hx with
    | 0, hx => exact ⟨_, (by simpa using hx.symm), .inl rfl⟩
    | 1, hx => exact ⟨_, (by simpa using hx.symm), .inr rfl⟩
    | i + 2, hx => simp at hx
   obtain ⟨z, rfl, hz⟩ := hx'
   walk_at "s"
   refine i_if (fun g => ?_) (fun g => ?_)
   ·walk_at "s"
    refine i_if (fun g2 => ?_) (fun g2 => ?_)
    ·exact absurd g2 (by lia)
    ·exact ⟨rfl, sm⟩
   ·walk_at "s"
    exact ⟨rfl, sm⟩
  ·rintro l ys H2 ⟨rfl, sm⟩ hl
   exact k l _ ((same_upd hp).trans (sm.trans (same_upd hl))) upd_same
abbrev MsAt (H : Hp) (ts : List Addr) (ms : List Must) : Prop := Paired (fun t (m : Must) => H t = some (.tup [.int m.1, .int m.2])) ts ms
structure NewM (H H' : Hp) (l : Addr) (ms : List Must) (ts : List Addr) : Prop where
 fr : H l = none
 sm : Same H H'
 at_ : H' l = some (.lst (ts.map V.ref))
 it : MsAt H' ts ms
theorem MsAt.more {H H' : Hp} {ts : List Addr} {ms : List Must} (h : MsAt H ts ms) (s : Same H H') : MsAt H' ts ms := Paired.mapP h fun _ _ e => s _ _ e
theorem NewM.more {H H' H2 : Hp} {l : Addr} {ms : List Must} {ts : List Addr} (N : NewM H H' l ms ts) (s : Same H' H2) : NewM H H2 l ms ts := ⟨N.fr, N.sm.trans s, s _ _ N.at_, N.it.more s⟩
theorem MsAt.up {H : Hp} {l : Addr} {vs ws : List V} {ts : List Addr} {ms : List Must} (h : MsAt H ts ms) (hl : H l = some (.lst ws)) : MsAt (upd H l (.lst vs)) ts ms :=
 Paired.mapP h fun t m e => by
  have : t ≠ l := fun z => by rw [z, hl] at e; cases e
  rw [upd_ne this]; exact e
theorem NewM.app {H H' : Hp} {l t : Addr} {ms : List Must} {ts : List Addr} {m : Must} (N : NewM H H' l ms ts) (e : H' t = some (.tup [.int m.1, .int m.2])) : NewM H (upd H' l (.lst (ts.map V.ref ++ [V.ref t]))) l (ms ++ [m]) (ts ++ [t]) := by
 refine ⟨N.fr, fun b o z => by rw [upd_ne (ne_of_none z N.fr)]; exact N.sm b o z, by rw [upd_same]; simp, Paired.snoc (N.it.up N.at_) ?_⟩
 have : t ≠ l := fun z => by rw [z, N.at_] at e; cases e
 rw [upd_ne this]; exact e
theorem ifT {b : Bool} {A B : Prop} (e : b = true) (h : A) : if b = true then A else B := by rw [if_pos e]; exact h
theorem ifF {b : Bool} {A B : Prop} (e : b = false) (h : B) : if b = true then A else B := by rw [if_neg (by rw [e]; exact Bool.false_ne_true)]; exact h
theorem i_pc {H : Hp} {Q : VK} {l : Addr} {xs : List Int} {h w : Int} (hl : H l = some (.lst (iL (xs ++ [h])))) (h0 : -1 ≤ w) (h1 : w < xs.length) (q : Q (.int (pc xs h w)) H) : rIxP K (.ref l) (.int w) H Q := by
 by_cases e : w = -1
 ·subst e
  rw [pc_neg] at q
  exact i_ixLast (xs := iL xs) (SqL.of (by rw [hl]; simp [iL])) q
 ·have g := pc_get (h := h) (show 0 ≤ w by lia) h1
  exact i_ixN (SqL.of hl) (by lia) (by rw [List.getElem?_map, List.getElem?_append_left (by lia), g]; rfl) q
def spWithinOne (CT CS : Addr) : Sp := fun vs H Q E => ∃ (a b : Addr) (ps ws : List Int) (hd lo hi : Int), vs = [.ref a, .int hd, .ref b, .int lo, .int hi] ∧ H a = some (.lst (iL ps)) ∧ H b = some (.lst (iL ws)) ∧ hi = hd ∧ hd ≤ lo ∧ (isTr ps → stand ps hd ws → lo = hd → ∀ l H', Same H H' → Q (.ref l) H') ∧ Exs E H CT CS (isTr ps) (stand ps hd ws ∧ lo ≤ hd ∧ hd ≤ hi)
theorem ok_stands_within (T : Txt mg) (Z : Cls K mg) (D : Def K mg "stands_within" s_stands_within) (C_refuse_no_bounds : CalleeE P w K mg base "refuse_no_bounds" 5 (spRefBoundsE K Z.c_NoTrain Z.c_NoStand)) (C_stands_beside : Callee P w K mg base "stands_beside" 3 spBesideNone) : CalleeE P w K mg base "stands_within" 6 (spWithinOne Z.c_NoTrain Z.c_NoStand) := by
 refine Def.okE D sc_stands_within bd_stands_within (fun vs H Q E h => ?len) (fun f cdv A outer s H vs Q E hr h => ?body)
 case len => obtain ⟨a, b, ps, ws, hd, lo, hi, rfl, _⟩ := h; rfl
 case body =>
  obtain ⟨a, b, ps, ws, hd, lo, hi, rfl, hA, hB, hhi, hlo, k, x⟩ := h
  have hu := hr.units
  refine ⟨_, (pss_cons (ps_expr (pe_callE C_refuse_no_bounds (hr.mono (by decide)) (by rfl) (pa_cons (pv 0) (pa_cons (pv 1) (pa_cons (pv 2) (pa_cons (pv 3) (pa_cons (pv 4) pa_nil)))))))
 (pss_cons (ps_set (i := 5) sc_stands_within.nd rfl (Or.inl rfl) (pe_tup (pa_cons (pv 1) (pa_cons (pe_callTy (call_tupleK K) (by rfl) T.z_tuple bt_tuple (pa_cons (pv 2) pa_nil)) pa_nil))))
 (pss_cons (ps_set (i := 6) sc_stands_within.nd rfl (Or.inl rfl) (pe_dispSK P w hu (pv 5) pe_bl))
 (pss_cons (ps_set (i := 7) sc_stands_within.nd rfl (Or.inl rfl) (pe_lst (pa_cons (pv 5) pa_nil)))
 (pss_cons (ps_while PassesOwn.leaving (pt_truthK K (pv 7))
 (pss_cons (ps_asg (pe_bm0K K PySem.F.plainAttrs_list PySem.F.slot_list_pop PySem.F.type_list_pop mt_pop (pv 7)) (pg_tupK K 2 (pgs_cons (pg_name (i := 8) sc_stands_within.nd rfl (Or.inl rfl)) (pgs_cons (pg_name (i := 9) sc_stands_within.nd rfl (Or.inl rfl)) pgs_nil))))
 (pss_cons (ps_for PassesOwn.leaving rfl (pi_listK K (pe_callN C_stands_beside (hr.mono (by decide)) (by rfl) (pa_cons (pv 0) (pa_cons (pv 8) (pa_cons (pv 9) (pa_cons (pv 3) (pa_cons (pv 4) pa_nil))))))) (pg_name (i := 10) sc_stands_within.nd rfl (Or.inl rfl))
 (pss_one (ps_if (pt_cmp (pc_notinSK P w hu (pv 10) (pv 6)))
 (pss_cons (ps_dputSK P w hu (pv 6) (pv 10) pe_bl (by rfl))
 (pss_one (ps_expr (pe_bmK K PySem.F.plainAttrs_list PySem.F.slot_list_append PySem.F.type_list_append mt_append (pv 7) (pa_cons (pv 10) pa_nil)))))
 pss_nil)))
 (pss_one (ps_if (pt_cmpR op_gt (pe_callB (call_lenSK P w) (by rfl) T.z_len bt_len (pa_cons (pv 6) pa_nil)) (pe_globI T.g_MOST_STANDS (by rfl)) (nomark _))
 (pss_one (ps_raise Z.exc_TooMany PySem.F.excBase_ValueError (by rfl) (pa_cons pe_str pa_nil)))
 pss_nil)))))
 (pss_one (ps_ret (pe_callB (call_sortedOK P w rfl rfl) (by rfl) T.z_sorted bt_sorted (pa_cons (pv 6) pa_nil))))))))), ?_⟩
  walk_at "un"
  try clear hu
  walk_at "s"
  refine ⟨a, b, ps, ws, hd, lo, hi, rfl, SqL.of hA, SqL.of hB, fun ht hs g1 g2 H1 s1 => ?_, x⟩
  obtain rfl : lo = hd := by lia
  obtain rfl : hi = lo := hhi
  have k := k ht hs rfl
  walk_at "s"
  refine i_tupL (SqL.of (s1 _ _ hB)) (fun b2 h2 => ?_)
  walk_at "s"
  intro t3 h3
  have s3 : Same H _ := (s1.trans (same_upd (o := .tup (iL ws)) h2)).trans (same_upd (o := .tup [.int hi, .ref b2]) h3)
  have et : upd (upd H1 b2 (.tup (iL ws))) t3 (.tup [.int hi, .ref b2]) t3 = some (.tup [.int hi, .ref b2]) := upd_same
  have eb : upd (upd H1 b2 (.tup (iL ws))) t3 (.tup [.int hi, .ref b2]) b2 = some (.tup (iL ws)) := same_upd h3 _ _ upd_same
  generalize upd (upd H1 b2 (.tup (iL ws))) t3 (.tup [.int hi, .ref b2]) = H3 at *
  clear h2 h3 s1
  intro d hd
  have s4 : Same H3 _ := same_upd (o := DSt P w d []) hd
  walk_at "s"
  refine ⟨rfl, t3, (hi, ws), rfl, upd_same, ⟨b2, s4 _ _ et, s4 _ _ eb⟩, ?_⟩
  have s5 : Same H3 (upd (upd H3 d (DSt P w d [])) d (DSt P w d [((hi, ws), t3)])) := fun b o e => by
   have nb : b ≠ d := fun z => by rw [z, hd] at e; cases e
   rw [upd_ne nb, upd_ne nb]
   exact e
  have e5 : upd (upd H3 d (DSt P w d [])) d (DSt P w d [((hi, ws), t3)]) d = some (DSt P w d [((hi, ws), t3)]) := upd_same
  generalize upd (upd H3 d (DSt P w d [])) d (DSt P w d [((hi, ws), t3)]) = H5 at *
  clear s4
  walk_at "s"
  intro l hl
  have s6 : Same H5 _ := same_upd (o := .lst [.ref t3]) hl
  have e6 : upd H5 l (.lst [.ref t3]) l = some (.lst [.ref t3]) := upd_same
  generalize upd H5 l (.lst [.ref t3]) = H6 at *
  have S6 := s3.trans (s5.trans s6)
  have hlH : H l = none := (s3.trans s5).free hl
  have nd : d ≠ l := fun z => by rw [z, hl] at e5; cases e5
  have ntl : t3 ≠ l := fun z => by have := s5 _ _ et; rw [z, hl] at this; cases this
  have nbl : b2 ≠ l := fun z => by have := s5 _ _ eb; rw [z, hl] at this; cases this
  walk_at "s"
  refine ⟨fun m σ H7 => ∃ u8 u9 u10 : Option V, σ = [some (.ref a), some (.int hi), some (.ref b), some (.int hi), some (.int hi), some (.ref t3), some (.ref d), some (.ref l), u8, u9, u10] ∧ (∀ b o, H6 b = some o → b ≠ l → H7 b = some o) ∧ H7 l = some (.lst ((List.replicate m t3).map V.ref)) ∧ m ≤ 1, ?_, ?_⟩
  ·exact ⟨1, _, _, _, rfl, fun b o e _ => e, e6, Nat.le_refl _⟩
  ·rintro m σ H7 ⟨u8, u9, u10, rfl, b7, e7, hm⟩
   walk_at "s"
   refine i_truL (SqL.of e7) ?_
   walk_at "s"
   rcases (show m = 0 ∨ m = 1 by lia) with rfl | rfl
   ·refine ifF (by rfl) ?_
    walk_at "s"
    refine ⟨d, [((hi, ws), t3)], rfl, b7 _ _ (s6 _ _ e5) nd, by simp, fun l9 h9 => ?_⟩
    refine k l9 _ fun q o e => ?_
    have e' := S6 _ _ e
    have nq : q ≠ l := fun z => by rw [z, hlH] at e; cases e
    exact same_upd h9 _ _ (b7 _ _ e' nq)
   ·refine ifT (by rfl) ?_
    refine ⟨fun σ H8 => ∃ u8 u9 u10 : Option V, σ = [some (.ref a), some (.int hi), some (.ref b), some (.int hi), some (.int hi), some (.ref t3), some (.ref d), some (.ref l), u8, u9, u10] ∧ (∀ b o, H6 b = some o → b ≠ l → H8 b = some o) ∧ H8 l = some (.lst ((List.replicate 0 t3).map V.ref)) ∧ 0 ≤ 1, fun σ' H' z => ⟨0, by lia, z⟩, ?_⟩
    walk_at "s"
    refine ⟨.inl ⟨rfl, _, SqL.of e7⟩, ?_⟩
    walk_at "s"
    refine i_popS (xs := []) (y := .ref t3) e7 ?_
    have b8 : ∀ b o, H6 b = some o → b ≠ l → upd H7 l (.lst []) b = some o := fun b o e n => by rw [upd_ne n]; exact b7 b o e n
    have e8 : upd H7 l (.lst []) l = some (.lst []) := upd_same
    generalize upd H7 l (.lst []) = H8 at *
    walk_at "s"
    refine ⟨_, _, rfl, SqT.of (b8 _ _ (s6 _ _ (s5 _ _ et)) ntl), rfl, _, _, rfl, _, _, rfl, rfl, ?_⟩
    walk_at "s"
    refine ⟨a, b2, hi, hi, hi, rfl, rfl, rfl, fun l9 H9 s9 e9 => ?_⟩
    walk_at "s"
    refine ⟨⟨_, SqL.of e9⟩, lp_list (xs := []) (fun i σ H10 => ∃ u8 u9 u10 : Option V, σ = [some (.ref a), some (.int hi), some (.ref b), some (.int hi), some (.int hi), some (.ref t3), some (.ref d), some (.ref l), u8, u9, u10] ∧ H9 = H10) ?_ ?_ ?_ ?_⟩
    ·exact ⟨_, _, _, rfl, rfl⟩
    ·rintro i σ H10 _ ⟨v8, v9, v10, rfl, rfl⟩
     exact SqL.of e9
    ·rintro i y σ H10 hy ⟨v8, v9, v10, rfl, rfl⟩
     simp at hy
    ·rintro σ H10 ⟨v8, v9, v10, rfl, rfl⟩
     walk_at "s"
     refine ⟨d, [((hi, ws), t3)], rfl, s9 _ _ (b8 _ _ (s6 _ _ e5) nd), ?_⟩
     walk_at "s"
     refine i_if (fun g => absurd g (by simp)) (fun g => ?_)
     walk_at "s"
     exact ⟨_, _, _, rfl, fun q o e n => s9 _ _ (b8 q o e n), s9 _ _ e8, by lia⟩
theorem paired_getL {α β : Type} {F : α → β → Prop} : ∀ {as : List α} {bs : List β} {i : Nat} {a : α}, Paired F as bs → as[i]? = some a → ∃ b, bs[i]? = some b ∧ F a b
 | _, _, i, b, .nil, h => by simp at h
 | _, _, 0, b, .cons r _, h => by simp at h; subst h; exact ⟨_, rfl, r⟩
 | _, _, i + 1, b, .cons _ t, h => by
   obtain ⟨a, h1, h2⟩ := paired_getL (i := i) (a := b) t (by simpa using h)
   exact ⟨a, by simpa using h1, h2⟩
def StAt (H : Hp) (t : Addr) (L : List Int) : Prop := ∃ lw h ws, L = h :: ws ∧ H t = some (.tup [.int h, .ref lw]) ∧ H lw = some (.lst (iL ws))
def spRefPieceE (K : PySem.W.Frag) (CN : Addr) : Sp := fun vs H Q E => ∃ (a : Addr) (ps : List Int) (p : Int), vs = [.ref a, .int p] ∧ SqL K H a (iL ps) ∧ (-1 ≤ p ∧ p < ps.length → Q .non H) ∧ (¬ (-1 ≤ p ∧ p < ps.length) → E (.ref CN) none H)
theorem ok_refuse_no_piece (T : Txt mg) (Z : Cls K mg) (D : Def K mg "refuse_no_piece" s_refuse_no_piece) : CalleeE P w K mg base "refuse_no_piece" 1 (spRefPieceE K Z.c_NoPiece) := by
 refine Def.okE D sc_refuse_no_piece bd_refuse_no_piece (fun vs H Q E h => ?len) (fun f cdv A outer s H vs Q E hr h => ?body)
 case len => obtain ⟨a, ps, p, rfl, _⟩ := h; rfl
 case body =>
  obtain ⟨a, ps, p, rfl, hA, k1, k2⟩ := h
  have hu := hr.units
  refine ⟨_, (pss_one (ps_if (pt_not (pt_chain op_le op_lt (pe_negK (r := -1) (by decide)) (pv 1) (pe_callB (call_lenK K) (by rfl) T.z_len bt_len (pa_cons (pv 0) pa_nil))))
 (pss_one (ps_raise Z.exc_NoPiece PySem.F.excBase_ValueError (by rfl) (pa_cons pe_str pa_nil)))
 pss_nil)), ?_⟩
  walk_at "un"
  try clear hu
  walk_at "s"
  refine i_if (fun g1 => ?_) (fun g1 => ?_)
  ·walk_at "s"
   refine i_lenI hA ?_
   walk_at "s"
   refine i_ifn (fun g2 => ?_) (fun g2 => ?_)
   ·walk_at "s"
    exact ⟨by simp, k2 fun z => g2 z.2⟩
   ·walk_at "s"
    exact k1 ⟨g1, g2⟩
  ·walk_at "s"
   exact ⟨by simp, k2 fun z => g1 z.1⟩
def spMoved (K : PySem.W.Frag) : Sp := fun vs H Q _ => ∃ (a b : Addr) (ps ws : List Int) (h p c : Int), vs = [.ref a, .int h, .ref b, .int p, .int c] ∧ H a = some (.lst (iL ps)) ∧ H b = some (.lst (iL ws)) ∧ ws.length = ps.length ∧ ps.length ≤ 12 ∧ (∀ x ∈ ps, 0 ≤ x) ∧ -1 ≤ p ∧ p < ps.length ∧
 ∀ t lw H' hd tl, Same H H' → H t = none → H lw = none → gAll ps (h :: ws) (p + 1).toNat c = hd :: tl → H' t = some (.tup [.int hd, .ref lw]) → H' lw = some (.lst (iL tl)) → Q (.ref t) H'
theorem ok_moved (T : Txt mg) (D : Def K mg "moved" s_moved) (C_all_dragged : Callee P w K mg base "all_dragged" 2 (spAllDr K)) : Callee P w K mg base "moved" 3 (spMoved K) := by
 refine D.ok sc_moved bd_moved (fun vs H Q E h => ?len) (fun f cdv A outer s H vs Q E hr h => ?body)
 case len => obtain ⟨a, b, ps, ws, h, p, c, rfl, _⟩ := h; rfl
 case body =>
  obtain ⟨a, b, ps, ws, h, p, c, rfl, hA, hB, hwl, hpl, hp0, hp1, hp2, k⟩ := h
  have hu := hr.units
  obtain ⟨m, hm⟩ : ∃ m : Nat, p + 1 = (m : Int) := ⟨(p + 1).toNat, by lia⟩
  have hmt : (p + 1).toNat = m := by lia
  have hm2 : m ≤ ps.length := by lia
  refine ⟨_, (pss_cons (ps_set (i := 5) sc_moved.nd rfl (Or.inl rfl) (pe_op op_addP (pe_lst (pa_cons (pv 1) pa_nil)) (pv 2)))
 (pss_cons (ps_set (i := 6) sc_moved.nd rfl (Or.inl rfl) (pe_op op_addP (pv 3) pe_int))
 (pss_cons (ps_set (i := 7) sc_moved.nd rfl (Or.inl rfl) (pe_revK K (pe_callN C_all_dragged (hr.mono (by decide)) (by rfl) (pa_cons (pe_revK K (pe_slice (sl_listK K) (pv 0) po_none (po_some (pv 6))) (po_some (pe_negK (r := -1) (by decide)))) (pa_cons (pe_revK K (pe_slice (sl_listK K) (pv 5) po_none (po_some (pv 6))) (po_some (pe_negK (r := -1) (by decide)))) (pa_cons (pv 4) pa_nil)))) (po_some (pe_negK (r := -1) (by decide)))))
 (pss_cons (ps_set (i := 8) sc_moved.nd rfl (Or.inl rfl) (pe_callN C_all_dragged (hr.mono (by decide)) (by rfl) (pa_cons (pe_slice (sl_listK K) (pv 0) (po_some (pv 6)) po_none) (pa_cons (pe_slice (sl_listK K) (pv 5) (po_some (pe_op op_addP (pv 6) pe_int)) po_none) (pa_cons (pv 4) pa_nil)))))
 (pss_cons (ps_asg (pe_op op_addP (pe_op op_addP (pv 7) (pe_lst (pa_cons (pv 4) pa_nil))) (pv 8)) (pg_starK K 1 (pgs_cons (pg_name (i := 9) sc_moved.nd rfl (Or.inl rfl)) (pgs_star (pg_name (i := 10) sc_moved.nd rfl (Or.inl rfl)) pgs_nil))))
 (pss_one (ps_ret (pe_tup (pa_cons (pv 9) (pa_cons (pv 10) pa_nil)))))))))), ?_⟩
  walk_at "un"
  try clear hu
  walk_at "s"
  intro g1 hg1
  walk_at "s"
  refine i_addL (a := g1) (b := b) (xs := [.int h]) (ys := iL ws) upd_same (same_upd hg1 _ _ hB) (szl (by simp [iL]; lia)) (fun lpc hlpc => ?_)
  have s1 : Same H _ := (same_upd (o := .lst [.int h]) hg1).trans (same_upd (o := .lst ([.int h] ++ iL ws)) hlpc)
  have e1 : upd (upd H g1 (.lst [.int h])) lpc (.lst ([.int h] ++ iL ws)) lpc = some (.lst (iL (h :: ws))) := by rw [upd_same]; rfl
  generalize upd (upd H g1 (.lst [.int h])) lpc (.lst ([.int h] ++ iL ws)) = H1 at *
  have hLl : (h :: ws).length = ps.length + 1 := by simp; lia
  generalize h :: ws = L at *
  walk_at "s"
  try rw [hm]
  refine i_slTo (SqL.of (s1 _ _ hA)) (by lia) (fun q1 hq1 => ?_)
  rw [show ((m : Nat) : Int).toNat = m by lia]
  have s2 := same_upd (o := .lst (iL (ps.take m))) hq1
  have e2 : upd H1 q1 (.lst (iL (ps.take m))) q1 = some (.lst (iL (ps.take m))) := upd_same
  generalize upd H1 q1 (.lst (iL (ps.take m))) = H2 at *
  walk_at "s"
  refine i_rev (SqL.of e2) (fun q2 hq2 => ?_)
  have s3 := same_upd (o := .lst (iL (ps.take m).reverse)) hq2
  have e3 : upd H2 q2 (.lst (iL (ps.take m).reverse)) q2 = some (.lst (iL (ps.take m).reverse)) := upd_same
  generalize upd H2 q2 (.lst (iL (ps.take m).reverse)) = H3 at *
  walk_at "s"
  refine i_slTo (SqL.of (s3 _ _ (s2 _ _ e1))) (by lia) (fun q3 hq3 => ?_)
  rw [show ((m : Nat) : Int).toNat = m by lia]
  have s4 := same_upd (o := .lst (iL (L.take m))) hq3
  have e4 : upd H3 q3 (.lst (iL (L.take m))) q3 = some (.lst (iL (L.take m))) := upd_same
  generalize upd H3 q3 (.lst (iL (L.take m))) = H4 at *
  walk_at "s"
  refine i_rev (SqL.of e4) (fun q4 hq4 => ?_)
  have s5 := same_upd (o := .lst (iL (L.take m).reverse)) hq4
  have e5 : upd H4 q4 (.lst (iL (L.take m).reverse)) q4 = some (.lst (iL (L.take m).reverse)) := upd_same
  generalize upd H4 q4 (.lst (iL (L.take m).reverse)) = H5 at *
  walk_at "s"
  refine ⟨q2, q4, _, _, c, rfl, SqL.of (s5 _ _ (s4 _ _ e3)), SqL.of e5, by simp; lia, fun x hx => hp0 x (List.mem_of_mem_take (List.mem_reverse.mp hx)), fun q5 H6 N6 => ?_⟩
  walk_at "s"
  have hAl := gA_len (c := c) hLl hm2
  rw [List.length_reverse] at hAl
  unfold gAll at k
  rw [hmt] at k
  generalize dragAll (ps.take m).reverse (L.take m).reverse c = Ah at *
  refine i_rev (SqL.of N6.at_) (fun q6 hq6 => ?_)
  have s7 := same_upd (o := .lst (iL Ah.reverse)) hq6
  have e7 : upd H6 q6 (.lst (iL Ah.reverse)) q6 = some (.lst (iL Ah.reverse)) := upd_same
  generalize upd H6 q6 (.lst (iL Ah.reverse)) = H7 at *
  have S7 := s2.trans (s3.trans (s4.trans (s5.trans (N6.sm.trans s7))))
  clear s2 s3 s4 s5 N6 s7 e2 e3 e4 e5
  walk_at "s"
  refine i_slFrom (SqL.of (S7 _ _ (s1 _ _ hA))) (by lia) (fun q7 hq7 => ?_)
  rw [show ((m : Nat) : Int).toNat = m by lia]
  have s8 := same_upd (o := .lst (iL (ps.drop m))) hq7
  have e8 : upd H7 q7 (.lst (iL (ps.drop m))) q7 = some (.lst (iL (ps.drop m))) := upd_same
  generalize upd H7 q7 (.lst (iL (ps.drop m))) = H8 at *
  walk_at "s"
  refine i_slFrom (SqL.of (s8 _ _ (S7 _ _ e1))) (by lia) (fun q8 hq8 => ?_)
  rw [show (((m : Nat) : Int) + 1).toNat = m + 1 by lia]
  have s9 := same_upd (o := .lst (iL (L.drop (m + 1)))) hq8
  have e9 : upd H8 q8 (.lst (iL (L.drop (m + 1)))) q8 = some (.lst (iL (L.drop (m + 1)))) := upd_same
  generalize upd H8 q8 (.lst (iL (L.drop (m + 1)))) = H9 at *
  walk_at "s"
  refine ⟨q7, q8, _, _, c, rfl, SqL.of (s9 _ _ e8), SqL.of e9, by simp; lia, fun x hx => hp0 x (List.mem_of_mem_drop hx), fun q9 H10 N10 => ?_⟩
  have hBl := gB_len (c := c) hLl hm2
  generalize dragAll (ps.drop m) (L.drop (m + 1)) c = Be at *
  have S10 := s8.trans (s9.trans N10.sm)
  have e10 := N10.at_
  have f10 := S10 _ _ e7
  have SS := s1.trans (S7.trans S10)
  clear s8 s9 N10 e8 e9 S7 S10 s1
  walk_at "s"
  intro q10 hq10
  walk_at "s"
  refine i_addL (a := q6) (b := q10) (xs := iL Ah.reverse) (ys := [.int c]) (same_upd hq10 _ _ f10) upd_same (szl (by simp [iL]; lia)) (fun q11 hq11 => ?_)
  have s11 := (same_upd (o := .lst [.int c]) hq10).trans (same_upd (o := .lst (iL Ah.reverse ++ [.int c])) hq11)
  have e11 : upd (upd H10 q10 (.lst [.int c])) q11 (.lst (iL Ah.reverse ++ [.int c])) q11 = some (.lst (iL (Ah.reverse ++ [c]))) := by rw [upd_same]; simp [iL]
  generalize upd (upd H10 q10 (.lst [.int c])) q11 (.lst (iL Ah.reverse ++ [.int c])) = H11 at *
  walk_at "s"
  refine i_addL (a := q11) (b := q9) (xs := iL (Ah.reverse ++ [c])) (ys := iL Be) e11 (s11 _ _ e10) (szl (by simp [iL]; lia)) (fun q12 hq12 => ?_)
  have s12 := SS.trans (s11.trans (same_upd (o := .lst (iL (Ah.reverse ++ [c]) ++ iL Be)) hq12))
  have e12 : upd H11 q12 (.lst (iL (Ah.reverse ++ [c]) ++ iL Be)) q12 = some (.lst (iL (Ah.reverse ++ c :: Be))) := by rw [upd_same]; simp [iL]
  generalize upd H11 q12 (.lst (iL (Ah.reverse ++ [c]) ++ iL Be)) = H12 at *
  clear SS s11 e11 e10 f10
  obtain ⟨hd, tl, hG⟩ : ∃ hd tl, Ah.reverse ++ c :: Be = hd :: tl := by
   cases hq : Ah.reverse ++ c :: Be with
   | nil => have := congrArg List.length hq; simp at this
   | cons hd tl => exact ⟨hd, tl, rfl⟩
  rw [hG] at e12
  walk_at "s"
  refine ⟨_, _, rfl, SqL.of e12, by simp [iL], fun lw hlw => ⟨_, _, rfl, _, _, rfl, rfl, ?_⟩⟩
  have s13 := same_upd (o := .lst (iL tl)) hlw
  have e13 : upd H12 lw (.lst (iL tl)) lw = some (.lst (iL tl)) := upd_same
  walk_at "s"
  intro t ht
  have s14 := same_upd (o := .tup [.int hd, .ref lw]) ht
  exact k t lw _ hd tl (s12.trans (s13.trans s14)) ((s12.trans s13).free ht) (s12.free hlw) hG upd_same (s14 _ _ e13)
def StNew (H H' : Hp) (t : Addr) (L : List Int) : Prop := ∃ lw h ws, L = h :: ws ∧ H' t = some (.tup [.int h, .ref lw]) ∧ H' lw = some (.lst (iL ws)) ∧ H lw = none
def okGr (n : Nat) (gs : List (Int × Int)) : Prop := ∀ g ∈ gs, -1 ≤ g.1 ∧ g.1 < n
def spGrabsE (CT CS CN : Addr) : Sp := fun vs H Q E => ∃ (a b r : Addr) (ps ws : List Int) (h : Int) (ts : List Addr) (gs : List (Int × Int)), vs = [.ref a, .int h, .ref b, .ref r] ∧ H a = some (.lst (iL ps)) ∧ H b = some (.lst (iL ws)) ∧ H r = some (.lst (ts.map V.ref)) ∧ MsAt H ts gs ∧ gs.length ≤ 1000 ∧
 (isTr ps → stand ps h ws → okGr ps.length gs → ∀ l us H', Same H H' → H l = none → H' l = some (.lst (us.map V.ref)) → Paired (StNew H H') us (gRun ps (h :: ws) gs) → Q (.ref l) H') ∧ Exs E H CT CS (isTr ps) (stand ps h ws) ∧ (isTr ps → stand ps h ws → ¬ okGr ps.length gs → ∀ H', Same H H' → E (.ref CN) none H')
theorem ok_grabs_of (T : Txt mg) (Z : Cls K mg) (D : Def K mg "grabs_of" s_grabs_of) (C_refuse_no_stand : CalleeE P w K mg base "refuse_no_stand" 4 (spRefStandE K Z.c_NoTrain Z.c_NoStand)) (C_refuse_no_piece : CalleeE P w K mg base "refuse_no_piece" 1 (spRefPieceE K Z.c_NoPiece)) (C_moved : Callee P w K mg base "moved" 3 (spMoved K)) : CalleeE P w K mg base "grabs_of" 5 (spGrabsE Z.c_NoTrain Z.c_NoStand Z.c_NoPiece) := by
 refine Def.okE D sc_grabs_of bd_grabs_of (fun vs H Q E h => ?len) (fun f cdv A outer s H vs Q E hr h => ?body)
 case len => obtain ⟨a, b, r, ps, ws, h, ts, gs, rfl, _⟩ := h; rfl
 case body =>
  obtain ⟨a, b, r, ps, ws, h, ts, gs, rfl, hA, hB, hR, hM, hgl, k, x, xn⟩ := h
  have hu := hr.units
  have htl : ts.length = gs.length := hM.length
  refine ⟨_, (pss_cons (ps_expr (pe_callE C_refuse_no_stand (hr.mono (by decide)) (by rfl) (pa_cons (pv 0) (pa_cons (pv 1) (pa_cons (pv 2) pa_nil)))))
 (pss_cons (ps_for PassesOwn.leaving rfl (pi_listK K (pv 3)) (pg_tupK K 2 (pgs_cons (pg_name (i := 4) sc_grabs_of.nd rfl (Or.inl rfl)) (pgs_cons (pg_name (i := 5) sc_grabs_of.nd rfl (Or.inl rfl)) pgs_nil)))
 (pss_one (ps_expr (pe_callE C_refuse_no_piece (hr.mono (by decide)) (by rfl) (pa_cons (pv 0) (pa_cons (pv 4) pa_nil))))))
 (pss_cons (ps_set (i := 6) sc_grabs_of.nd rfl (Or.inl rfl) (pe_lst pa_nil))
 (pss_cons (ps_for PassesOwn.leaving rfl (pi_listK K (pv 3)) (pg_tupK K 2 (pgs_cons (pg_name (i := 4) sc_grabs_of.nd rfl (Or.inl rfl)) (pgs_cons (pg_name (i := 5) sc_grabs_of.nd rfl (Or.inl rfl)) pgs_nil)))
 (pss_cons (ps_asg (pe_callN C_moved (hr.mono (by decide)) (by rfl) (pa_cons (pv 0) (pa_cons (pv 1) (pa_cons (pv 2) (pa_cons (pv 4) (pa_cons (pv 5) pa_nil)))))) (pg_tupK K 2 (pgs_cons (pg_name (i := 1) sc_grabs_of.nd rfl (Or.inl rfl)) (pgs_cons (pg_name (i := 2) sc_grabs_of.nd rfl (Or.inl rfl)) pgs_nil))))
 (pss_one (ps_expr (pe_bmK K PySem.F.plainAttrs_list PySem.F.slot_list_append PySem.F.type_list_append mt_append (pv 6) (pa_cons (pe_tup (pa_cons (pv 1) (pa_cons (pv 2) pa_nil))) pa_nil))))))
 (pss_one (ps_ret (pv 6))))))), ?_⟩
  walk_at "un"
  try clear hu
  walk_at "s"
  refine ⟨a, b, ps, ws, h, rfl, SqL.of hA, SqL.of hB, fun hT hS H1 s1 => ?_, x⟩
  have k := k hT hS
  have xn := xn hT hS
  clear x
  walk_at "s"
  refine ⟨⟨_, SqL.of (s1 _ _ hR)⟩, lp_list (xs := ts.map V.ref) (fun i σ H2 => ∃ u4 u5 : Option V, σ = [some (.ref a), some (.int h), some (.ref b), some (.ref r), u4, u5, none] ∧ H1 = H2 ∧ okGr ps.length (gs.take i)) ?_ ?_ ?_ ?_⟩
  ·exact ⟨_, _, rfl, rfl, fun g hg => by simp at hg⟩
  ·rintro i σ H2 _ ⟨u4, u5, rfl, rfl, _⟩
   exact SqL.of (s1 _ _ hR)
  ·rintro i y σ H2 hy ⟨u4, u5, rfl, rfl, hok⟩
   rw [List.getElem?_map] at hy
   obtain ⟨t, hti, rfl⟩ := Option.map_eq_some_iff.mp hy
   obtain ⟨g, hgi, hTg⟩ := paired_getL hM hti
   walk_at "s"
   refine ⟨_, _, rfl, SqT.of (s1 _ _ hTg), rfl, _, _, rfl, _, _, rfl, rfl, ?_⟩
   walk_at "s"
   refine ⟨a, ps, g.1, rfl, SqL.of (s1 _ _ hA), fun hg => ?_, fun hn => xn (fun z => hn (z g (List.mem_of_getElem? hgi))) _ s1⟩
   refine ⟨_, _, rfl, rfl, fun g' hg' => ?_⟩
   rw [take_snoc_get hgi] at hg'
   rcases List.mem_append.mp hg' with z | z
   ·exact hok g' z
   ·simp at z; subst z; exact hg
  rintro σ H2 ⟨u4, u5, rfl, rfl, hok⟩
  rw [List.take_of_length_le (by simp; lia)] at hok
  have k := k hok
  clear xn
  have hp12 := hT.2.1
  walk_at "s"
  intro l hl
  have s2 : Same H _ := s1.trans (same_upd (o := .lst []) hl)
  have e2 : upd H1 l (.lst []) l = some (.lst (([] : List Addr).map V.ref)) := upd_same
  have fl : H l = none := s1.free hl
  generalize upd H1 l (.lst []) = H2 at *
  walk_at "s"
  have nrl : r ≠ l := ne_of_none hR fl
  refine ⟨⟨_, SqL.of (s2 _ _ hR)⟩, lp_list (xs := ts.map V.ref) (fun i σ H3 => ∃ (u4 u5 : Option V) (hc : Int) (bc : Addr) (wc : List Int) (us : List Addr), σ = [some (.ref a), some (.int hc), some (.ref bc), some (.ref r), u4, u5, some (.ref l)] ∧ Same H H3 ∧ H3 l = some (.lst (us.map V.ref)) ∧ us.length = i ∧ bc ≠ l ∧ H3 bc = some (.lst (iL wc)) ∧ hc :: wc = gEnd ps (h :: ws) (gs.take i) ∧ Paired (StNew H2 H3) us (gRun ps (h :: ws) (gs.take i)) ∧ ∀ b o, H2 b = some o → b ≠ l → H3 b = some o) ?_ ?_ ?_ ?_⟩
  ·exact ⟨_, _, h, b, ws, [], rfl, s2, e2, rfl, ne_of_none hB fl, s2 _ _ hB, rfl, .nil, fun b o e _ => e⟩
  ·rintro i σ H3 _ ⟨u4, u5, hc, bc, wc, us, rfl, s3, _⟩
   exact SqL.of (s3 _ _ hR)
  ·rintro i y σ H3 hy ⟨u4, u5, hc, bc, wc, us, rfl, s3, e3, hul, hbl, hbc, hE, hP, kp⟩
   rw [List.getElem?_map] at hy
   obtain ⟨t, hti, rfl⟩ := Option.map_eq_some_iff.mp hy
   obtain ⟨g, hgi, hTg⟩ := paired_getL hM hti
   have hil : i < ts.length := (List.getElem?_eq_some_iff.mp hti).1
   have hg := hok g (List.mem_of_getElem? hgi)
   have hEl : (hc :: wc).length = ps.length + 1 := by
    rw [hE]
    exact gEnd_len (by simp [hS.1]) fun g' hg' => hok g' (List.mem_of_mem_take hg')
   walk_at "s"
   refine ⟨_, _, rfl, SqT.of (s3 _ _ hTg), rfl, _, _, rfl, _, _, rfl, rfl, ?_⟩
   walk_at "s"
   refine ⟨a, bc, ps, wc, hc, g.1, g.2, rfl, s3 _ _ hA, hbc, by simpa using hEl, hp12, hT.2.2, hg.1, hg.2, fun t2 lw H4 hd tl s4 ft flw hG ht2 hlw => ?_⟩
   walk_at "s"
   refine ⟨_, _, rfl, SqT.of ht2, rfl, _, _, rfl, _, _, rfl, rfl, ?_⟩
   walk_at "s"
   refine ⟨.inl ⟨rfl, _, SqL.of (s4 _ _ e3)⟩, ?_⟩
   walk_at "s"
   intro t5 ht5
   have s5 := same_upd (o := .tup [.int hd, .ref lw]) ht5
   have e5 : upd H4 t5 (.tup [.int hd, .ref lw]) t5 = some (.tup [.int hd, .ref lw]) := upd_same
   generalize upd H4 t5 (.tup [.int hd, .ref lw]) = H5 at *
   have e6 := s5 _ _ (s4 _ _ e3)
   walk_at "s"
   refine i_app e6 (szlt (by simp; lia)) ?_
   have nlw : lw ≠ l := fun z => by rw [z, e3] at flw; cases flw
   have ntl : t5 ≠ l := fun z => by rw [z, e6] at e5; cases e5
   have up : ∀ {b : Addr} {o : HO}, H5 b = some o → b ≠ l → upd H5 l (.lst (us.map V.ref ++ [V.ref t5])) b = some o := fun e n => by rw [upd_ne n]; exact e
   have f2 : H2 lw = none := by
    cases hq : H2 lw with
    | none => rfl
    | some o => rw [kp _ _ hq nlw] at flw; cases flw
   have hE2 : hd :: tl = gEnd ps (h :: ws) (gs.take (i + 1)) := by
    rw [take_snoc_get hgi, gEnd_app, ← hE, ← hG]; rfl
   refine ⟨_, _, hd, lw, tl, us ++ [t5], rfl, fun b o e => up (s5 _ _ (s4 _ _ (s3 b o e))) (ne_of_none e fl), by rw [upd_same]; simp, by simp; lia, nlw, up (s5 _ _ hlw) nlw, hE2, ?_, fun b o e n => up (s5 _ _ (s4 _ _ (kp b o e n))) n⟩
   rw [take_snoc_get hgi, gRun_app, ← hE]
   refine Paired.snoc (Paired.mapP hP fun u L hu2 => ?_) ⟨lw, hd, tl, hG, up e5 ntl, up (s5 _ _ hlw) nlw, f2⟩
   obtain ⟨lw', x', ws', q1, q2, q3, q4⟩ := hu2
   refine ⟨lw', x', ws', q1, up (s5 _ _ (s4 _ _ q2)) (fun z => by rw [z, e3] at q2; cases q2), up (s5 _ _ (s4 _ _ q3)) (fun z => ?_), q4⟩
   rw [z, e2] at q4
   cases q4
  ·rintro σ H3 ⟨u4, u5, hc, bc, wc, us, rfl, s3, e3, hul, hbl, hbc, hE, hP, kp⟩
   rw [List.take_of_length_le (by simp; lia)] at hP
   walk_at "s"
   refine k l us H3 s3 fl e3 (Paired.mapP hP fun u L hu2 => ?_)
   obtain ⟨lw', x', ws', q1, q2, q3, q4⟩ := hu2
   exact ⟨lw', x', ws', q1, q2, q3, s2.free q4⟩
def spGrabbedE (CT CS CN : Addr) : Sp := fun vs H Q E => ∃ (a b : Addr) (ps ws : List Int) (h p c : Int), vs = [.ref a, .int h, .ref b, .int p, .int c] ∧ H a = some (.lst (iL ps)) ∧ H b = some (.lst (iL ws)) ∧
 (isTr ps → stand ps h ws → -1 ≤ p ∧ p < ps.length → ∀ t H', Same H H' → StNew H H' t (gAll ps (h :: ws) (p + 1).toNat c) → Q (.ref t) H') ∧ Exs E H CT CS (isTr ps) (stand ps h ws) ∧ (isTr ps → stand ps h ws → ¬ (-1 ≤ p ∧ p < ps.length) → ∀ H', Same H H' → E (.ref CN) none H')
theorem ok_grabbed (T : Txt mg) (Z : Cls K mg) (D : Def K mg "grabbed" s_grabbed) (C_grabs_of : CalleeE P w K mg base "grabs_of" 5 (spGrabsE Z.c_NoTrain Z.c_NoStand Z.c_NoPiece)) : CalleeE P w K mg base "grabbed" 6 (spGrabbedE Z.c_NoTrain Z.c_NoStand Z.c_NoPiece) := by
 refine Def.okE D sc_grabbed bd_grabbed (fun vs H Q E h => ?len) (fun f cdv A outer s H vs Q E hr h => ?body)
 case len => obtain ⟨a, b, ps, ws, h, p, c, rfl, _⟩ := h; rfl
 case body =>
  obtain ⟨a, b, ps, ws, h, p, c, rfl, hA, hB, k, x, xn⟩ := h
  have hu := hr.units
  refine ⟨_, (pss_one (ps_ret (pe_ix (ix_K K) (pe_callE C_grabs_of (hr.mono (by decide)) (by rfl) (pa_cons (pv 0) (pa_cons (pv 1) (pa_cons (pv 2) (pa_cons (pe_lst (pa_cons (pe_tup (pa_cons (pv 3) (pa_cons (pv 4) pa_nil))) pa_nil)) pa_nil))))) pe_int (by exact fun _ _ => rfl)))), ?_⟩
  walk_at "un"
  try clear hu
  walk_at "s"
  intro t1 ht1
  walk_at "s"
  intro l1 hl1
  have s1 : Same H _ := (same_upd (o := .tup [.int p, .int c]) ht1).trans (same_upd (o := .lst [.ref t1]) hl1)
  have e1 : upd (upd H t1 (.tup [.int p, .int c])) l1 (.lst [.ref t1]) l1 = some (.lst ([t1].map V.ref)) := upd_same
  have f1 : upd (upd H t1 (.tup [.int p, .int c])) l1 (.lst [.ref t1]) t1 = some (.tup [.int p, .int c]) := same_upd hl1 _ _ upd_same
  generalize upd (upd H t1 (.tup [.int p, .int c])) l1 (.lst [.ref t1]) = H1 at *
  have hiff : okGr ps.length [(p, c)] ↔ -1 ≤ p ∧ p < ps.length := ⟨fun z => z (p, c) (by simp), fun z g hg => by simp at hg; subst hg; exact z⟩
  walk_at "s"
  refine ⟨a, b, l1, ps, ws, h, [t1], [(p, c)], rfl, s1 _ _ hA, s1 _ _ hB, e1, .cons f1 .nil, by simp, fun hT hS hok l us H2 s2 fl e2 hP => ?_, x.on s1, fun hT hS hn H2 s2 => xn hT hS (fun z => hn (hiff.mpr z)) H2 (s1.trans s2)⟩
  cases hP with
  | @cons u L us' Ls' hu2 hP2 =>
    cases hP2
    walk_at "s"
    refine i_ixN (SqL.of e2) (i := 0) (by decide) (v := .ref u) rfl ?_
    refine k hT hS (hiff.mp hok) u H2 (s1.trans s2) ?_
    obtain ⟨lw, x', ws', q1, q2, q3, q4⟩ := hu2
    exact ⟨lw, x', ws', q1, q2, q3, s1.free q4⟩
def spPieces : Sp := fun vs H Q _ => ∃ (hd : Int) (a : Addr) (xs : List Int), vs = [.int hd, .ref a] ∧ H a = some (.lst (iL xs)) ∧ xs.length ≤ 1000 ∧ ∀ l H', NewI H H' l (xs ++ [hd]) → Q (.ref l) H'
theorem ok_pieces_of (T : Txt mg) (D : Def K mg "pieces_of" s_pieces_of) : Callee P w K mg base "pieces_of" 1 spPieces := by
 refine D.ok sc_pieces_of bd_pieces_of (fun vs H Q E h => ?len) (fun f cdv A outer s H vs Q E hr h => ?body)
 case len => obtain ⟨hd, a, xs, rfl, _⟩ := h; rfl
 case body =>
  obtain ⟨hd, a, xs, rfl, hA, hl, k⟩ := h
  refine ⟨_, (pss_one (ps_ret (pe_op op_addP (pv 1) (pe_lst (pa_cons (pv 0) pa_nil))))), ?_⟩
  walk_at "un"
  try clear hu
  walk_at "s"
  intro g hg
  refine i_addL (a := a) (b := g) (same_upd hg _ _ hA) upd_same (by simp [iL]; exact szl (by lia)) (fun l hl2 => ?_)
  exact k l _ ⟨(same_upd hg).free hl2, (same_upd hg).trans (same_upd hl2), by rw [upd_same]; simp [iL]⟩
def spMustPlace : Sp := fun vs H Q _ => ∃ (a c t : Addr) (ps gs : List Int) (e : Int) (m : Must), vs = [.ref a, .int e, .ref c, .ref t] ∧ H a = some (.lst (iL ps)) ∧ H c = some (.lst (iL gs)) ∧ H t = some (.tup [.int m.1, .int m.2]) ∧ isTr ps ∧ stand ps e gs ∧ okMust ps.length m ∧
 ∀ H', Same H H' → Q (.int (mp (pc (depths 0 ps) 0) (pc gs e) m)) H'
theorem ok_must_place (T : Txt mg) (D : Def K mg "must_place" s_must_place) (C_refuse_no_stand : Callee P w K mg base "refuse_no_stand" 4 (spRefStand K)) (C_pieces_of : Callee P w K mg base "pieces_of" 1 spPieces) (C_depths_of : Callee P w K mg base "depths_of" 3 (spDepths K)) : Callee P w K mg base "must_place" 5 spMustPlace := by
 refine D.ok sc_must_place bd_must_place (fun vs H Q E h => ?len) (fun f cdv A outer s H vs Q E hr h => ?body)
 case len => obtain ⟨a, c, t, ps, gs, e, m, rfl, _⟩ := h; rfl
 case body =>
  obtain ⟨a, c, t, ps, gs, e, m, rfl, hA, hC, hT, ht, hg, ⟨o1, o2, o3⟩, k⟩ := h
  have h12 := ht.2.1
  have hgl := hg.1
  refine ⟨_, (pss_cons (ps_expr (pe_callN C_refuse_no_stand (hr.mono (by decide)) (by rfl) (pa_cons (pv 0) (pa_cons (pv 1) (pa_cons (pv 2) pa_nil)))))
 (pss_cons (ps_asg (pv 3) (pg_tupK K 2 (pgs_cons (pg_name (i := 4) sc_must_place.nd rfl (Or.inl rfl)) (pgs_cons (pg_name (i := 5) sc_must_place.nd rfl (Or.inl rfl)) pgs_nil))))
 (pss_one (ps_ret (pe_op op_addP (pe_ix (ix_K K) (pe_callN C_pieces_of (hr.mono (by decide)) (by rfl) (pa_cons (pv 1) (pa_cons (pv 2) pa_nil))) (pv 4) (by exact fun _ _ => rfl)) (pe_op op_mulP (pv 5) (pe_ix (ix_K K) (pe_callN C_pieces_of (hr.mono (by decide)) (by rfl) (pa_cons pe_int (pa_cons (pe_callN C_depths_of (hr.mono (by decide)) (by rfl) (pa_cons (pv 0) pa_nil)) pa_nil))) (pv 4) (by exact fun _ _ => rfl)))))))), ?_⟩
  walk_at "un"
  try clear hu
  walk_at "s"
  refine ⟨a, c, ps, gs, e, rfl, SqL.of hA, SqL.of hC, ht, hg, fun H1 s1 => ?_⟩
  walk_at "s"
  refine ⟨_, _, rfl, SqT.of (s1 _ _ hT), rfl, _, _, rfl, _, _, rfl, rfl, ?_⟩
  walk_at "s"
  refine ⟨e, c, gs, rfl, s1 _ _ hC, by lia, fun l1 H2 N2 => ?_⟩
  walk_at "s"
  refine i_pc N2.at_ o1 (by lia) ?_
  walk_at "s"
  refine ⟨a, ps, rfl, SqL.of (N2.sm _ _ (s1 _ _ hA)), ht, fun l2 H3 N3 => ?_⟩
  walk_at "s"
  refine ⟨0, l2, depths 0 ps, rfl, N3.at_, by rw [depths_length]; lia, fun l3 H4 N4 => ?_⟩
  walk_at "s"
  refine i_pc N4.at_ o1 (by rw [depths_length]; lia) ?_
  walk_at "s"
  refine i_mulI (cmul_l (by lia) (by lia)) ?_
  walk_at "s"
  exact k H4 (((s1.trans N2.sm).trans N3.sm).trans N4.sm)
def spSide : Sp := fun vs H Q _ => ∃ (b c : Addr) (ws gs : List Int) (hd e wh : Int), vs = [.int hd, .ref b, .int e, .ref c, .int wh] ∧ H b = some (.lst (iL ws)) ∧ H c = some (.lst (iL gs)) ∧ ws.length ≤ 12 ∧ gs.length = ws.length ∧ -1 ≤ wh ∧ wh < ws.length ∧
 ∀ H', Same H H' → Q (.int (if pc ws hd wh = pc gs e wh then 0 else sgn (pc ws hd) (pc gs e) wh)) H'
theorem ok_side_to_go (T : Txt mg) (D : Def K mg "side_to_go" s_side_to_go) (C_pieces_of : Callee P w K mg base "pieces_of" 1 spPieces) : Callee P w K mg base "side_to_go" 2 spSide := by
 refine D.ok sc_side_to_go bd_side_to_go (fun vs H Q E h => ?len) (fun f cdv A outer s H vs Q E hr h => ?body)
 case len => obtain ⟨b, c, ws, gs, hd, e, wh, rfl, _⟩ := h; rfl
 case body =>
  obtain ⟨b, c, ws, gs, hd, e, wh, rfl, hB, hC, hl, hgl, o1, o2, k⟩ := h
  have hu := hr.units
  refine ⟨_, (pss_cons (ps_set (i := 5) sc_side_to_go.nd rfl (Or.inl rfl) (pe_ix (ix_K K) (pe_callN C_pieces_of (hr.mono (by decide)) (by rfl) (pa_cons (pv 0) (pa_cons (pv 1) pa_nil))) (pv 4) (by exact fun _ _ => rfl)))
 (pss_cons (ps_set (i := 6) sc_side_to_go.nd rfl (Or.inl rfl) (pe_ix (ix_K K) (pe_callN C_pieces_of (hr.mono (by decide)) (by rfl) (pa_cons (pv 2) (pa_cons (pv 3) pa_nil))) (pv 4) (by exact fun _ _ => rfl)))
 (pss_cons (ps_if (pt_cmpR (op_eqK K hu) (pv 5) (pv 6) (nomark _))
 (pss_one (ps_ret pe_int))
 pss_nil)
 (pss_one (ps_ret (pe_ifExp (pt_cmpR op_lt (pv 5) (pv 6) (nomark _)) pe_int (pe_negK (r := -1) (by decide)))))))), ?_⟩
  walk_at "un"
  try clear hu
  walk_at "s"
  refine ⟨hd, b, ws, rfl, hB, by lia, fun l1 H1 N1 => ?_⟩
  walk_at "s"
  refine i_pc N1.at_ o1 (by lia) ?_
  walk_at "s"
  refine ⟨e, c, gs, rfl, N1.sm _ _ hC, by lia, fun l2 H2 N2 => ?_⟩
  walk_at "s"
  refine i_pc N2.at_ o1 (by lia) ?_
  walk_at "s"
  have sm := N1.sm.trans N2.sm
  refine i_if (fun g => ?_) (fun g => ?_)
  ·walk_at "s"
   rw [if_pos g] at k
   exact k H2 sm
  ·walk_at "s"
   rw [if_neg g] at k
   unfold sgn at k
   refine i_if (fun g2 => ?_) (fun g2 => ?_)
   ·rw [if_pos g2] at k
    exact k H2 sm
   ·rw [if_neg g2] at k
    exact k H2 sm
def spBeyond : Sp := fun vs H Q _ => ∃ (a c t : Addr) (ps gs : List Int) (e wh : Int) (m : Must), vs = [.ref a, .int e, .ref c, .ref t, .int wh] ∧ H a = some (.lst (iL ps)) ∧ H c = some (.lst (iL gs)) ∧ H t = some (.tup [.int m.1, .int m.2]) ∧ isTr ps ∧ stand ps e gs ∧ okMust ps.length m ∧ -1 ≤ wh ∧ wh < ps.length ∧
 ∀ H', Same H H' → Q (.bl (decide (bey (pc (depths 0 ps) 0) (pc gs e) m wh))) H'
theorem ok_is_beyond (T : Txt mg) (D : Def K mg "is_beyond" s_is_beyond) (C_pieces_of : Callee P w K mg base "pieces_of" 1 spPieces) (C_depths_of : Callee P w K mg base "depths_of" 3 (spDepths K)) (C_must_place : Callee P w K mg base "must_place" 5 spMustPlace) : Callee P w K mg base "is_beyond" 6 spBeyond := by
 refine D.ok sc_is_beyond bd_is_beyond (fun vs H Q E h => ?len) (fun f cdv A outer s H vs Q E hr h => ?body)
 case len => obtain ⟨a, c, t, ps, gs, e, wh, m, rfl, _⟩ := h; rfl
 case body =>
  obtain ⟨a, c, t, ps, gs, e, wh, m, rfl, hA, hC, hT, ht, hg, hm, w1, w2, k⟩ := h
  have h12 := ht.2.1
  have hgl := hg.1
  have o3 := hm.2.2
  refine ⟨_, (pss_cons (ps_set (i := 5) sc_is_beyond.nd rfl (Or.inl rfl) (pe_ix (ix_K K) (pe_callN C_pieces_of (hr.mono (by decide)) (by rfl) (pa_cons pe_int (pa_cons (pe_callN C_depths_of (hr.mono (by decide)) (by rfl) (pa_cons (pv 0) pa_nil)) pa_nil))) (pv 4) (by exact fun _ _ => rfl)))
 (pss_cons (ps_set (i := 6) sc_is_beyond.nd rfl (Or.inl rfl) (pe_ix (ix_K K) (pe_callN C_pieces_of (hr.mono (by decide)) (by rfl) (pa_cons (pv 1) (pa_cons (pv 2) pa_nil))) (pv 4) (by exact fun _ _ => rfl)))
 (pss_one (ps_ret (pe_cmpR op_gt (pe_op op_mulP (pe_op op_sub (pe_callN C_must_place (hr.mono (by decide)) (by rfl) (pa_cons (pv 0) (pa_cons (pv 1) (pa_cons (pv 2) (pa_cons (pv 3) pa_nil))))) (pv 6)) (pe_ix (ix_K K) (pv 3) pe_int (by exact fun _ _ => rfl))) (pv 5) (nomark _)))))), ?_⟩
  walk_at "un"
  try clear hu
  walk_at "s"
  refine ⟨a, ps, rfl, SqL.of hA, ht, fun l1 H1 N1 => ?_⟩
  walk_at "s"
  refine ⟨0, l1, depths 0 ps, rfl, N1.at_, by rw [depths_length]; lia, fun l2 H2 N2 => ?_⟩
  walk_at "s"
  refine i_pc N2.at_ w1 (by rw [depths_length]; lia) ?_
  have s2 := N1.sm.trans N2.sm
  walk_at "s"
  refine ⟨e, c, gs, rfl, s2 _ _ hC, by lia, fun l3 H3 N3 => ?_⟩
  walk_at "s"
  refine i_pc N3.at_ w1 (by lia) ?_
  have s3 := s2.trans N3.sm
  walk_at "s"
  refine ⟨a, c, t, ps, gs, e, m, rfl, s3 _ _ hA, s3 _ _ hC, s3 _ _ hT, ht, hg, hm, fun H4 s4 => ?_⟩
  have s5 := s3.trans s4
  walk_at "s"
  refine i_ixT (SqT.of (s5 _ _ hT)) (by decide) rfl ?_
  walk_at "s"
  refine i_mulI (cmul_r (by lia) (by lia)) ?_
  walk_at "s"
  exact k H4 s5
def spFirst : Sp := fun vs H Q _ => ∃ (b c : Addr) (ws gs : List Int) (hd e : Int), vs = [.int hd, .ref b, .int e, .ref c] ∧ H b = some (.lst (iL ws)) ∧ H c = some (.lst (iL gs)) ∧ ws.length ≤ 12 ∧ gs.length = ws.length ∧
 ∀ l ts H', NewM H H' l (fm (pc ws hd) (pc gs e) ws.length) ts → Q (.ref l) H'
theorem ok_first_musts (T : Txt mg) (D : Def K mg "first_musts" s_first_musts) (C_side_to_go : Callee P w K mg base "side_to_go" 2 spSide) : Callee P w K mg base "first_musts" 3 spFirst := by
 refine D.ok sc_first_musts bd_first_musts (fun vs H Q E h => ?len) (fun f cdv A outer s H vs Q E hr h => ?body)
 case len => obtain ⟨b, c, ws, gs, hd, e, rfl, _⟩ := h; rfl
 case body =>
  obtain ⟨b, c, ws, gs, hd, e, rfl, hB, hC, hl, hgl, k⟩ := h
  have hu := hr.units
  have kk : ∀ l ts H', NewM H H' l (ff (pc ws hd) (pc gs e) (ws.length + 1)) ts → Q (.ref l) H' := k
  clear k
  refine ⟨_, (pss_cons (ps_for PassesOwn.never rfl (pi_range3 (by rfl) T.z_range (pa_cons (pe_op op_sub (pe_callB (call_lenK K) (by rfl) T.z_len bt_len (pa_cons (pv 1) pa_nil)) pe_int) (pa_cons (pe_negK (r := -2) (by decide)) (pa_cons (pe_negK (r := -1) (by decide)) pa_nil)))) (pg_name (i := 4) sc_first_musts.nd rfl (Or.inl rfl))
 (pss_cons (ps_set (i := 5) sc_first_musts.nd rfl (Or.inl rfl) (pe_callN C_side_to_go (hr.mono (by decide)) (by rfl) (pa_cons (pv 0) (pa_cons (pv 1) (pa_cons (pv 2) (pa_cons (pv 3) (pa_cons (pv 4) pa_nil)))))))
 (pss_one (ps_if (pt_cmpR (op_neK K hu) (pv 5) pe_int (nomark _))
 (pss_one (ps_ret (pe_lst (pa_cons (pe_tup (pa_cons (pv 4) (pa_cons (pv 5) pa_nil))) pa_nil))))
 pss_nil))))
 (pss_one (ps_ret (pe_lst pa_nil)))), ?_⟩
  walk_at "un"
  try clear hu
  walk_at "s"
  refine i_lenI (SqL.of hB) ?_
  walk_at "s"
  refine ⟨_, _, rfl, ⟨by lia, by lia, by lia, by lia⟩, lp_down (fun i σ H2 => ∃ (u v : Option V), σ = [some (.int hd), some (.ref b), some (.int e), some (.ref c), u, v] ∧ Same H H2 ∧ i ≤ ws.length + 1 ∧ ff (pc ws hd) (pc gs e) (ws.length + 1) = ff (pc ws hd) (pc gs e) (ws.length + 1 - i)) ?_ ?_ ?_⟩
  ·exact ⟨_, _, rfl, Same.refl _, Nat.zero_le _, rfl⟩
  ·rintro i σ H2 hi ⟨u, v, rfl, sm, hin, hf⟩
   have hi' : i < ws.length + 1 := by lia
   walk_at "s"
   refine ⟨b, c, ws, gs, hd, e, _, rfl, sm _ _ hB, sm _ _ hC, hl, hgl, by lia, by lia, fun H3 s3 => ?_⟩
   have st := ff_step (pc ws hd) (pc gs e) (ws.length - i)
   rw [show ws.length - i + 1 = ws.length + 1 - i by lia, show ((ws.length - i : Nat) : Int) - 1 = (ws.length : Int) - 1 - i by lia] at st
   generalize hwh : (ws.length : Int) - 1 - (i : Int) = wh at *
   walk_at "s"
   by_cases q : pc ws hd wh = pc gs e wh
   ·rw [if_pos q] at st ⊢
    refine i_ifn (fun g => absurd rfl g) (fun _ => ?_)
    refine ⟨_, _, rfl, sm.trans s3, by lia, ?_⟩
    rw [hf, st, show ws.length - i = ws.length + 1 - (i + 1) by lia]
   ·rw [if_neg q] at st ⊢
    refine i_ifn (fun _ => ?_) (fun g => absurd g (by unfold sgn; split <;> decide))
    walk_at "s"
    intro t ht
    walk_at "s"
    intro l hl2
    rw [hf, st] at kk
    refine kk l [t] _ ⟨((sm.trans s3).trans (same_upd ht)).free hl2, ((sm.trans s3).trans (same_upd ht)).trans (same_upd hl2), upd_same, .cons (same_upd hl2 _ _ upd_same) .nil⟩
  ·rintro σ H2 ⟨u, v, rfl, sm, hin, hf⟩
   walk_at "s"
   intro l hl2
   rw [hf, show ws.length + 1 - ((ws.length : Int) - 1 - -2).toNat = 0 by lia] at kk
   exact kk l [] _ ⟨sm.free hl2, sm.trans (same_upd hl2), upd_same, .nil⟩
theorem chain_ok {n : Nat} {D G : Fn} : ∀ {ms : List Must} {a : Must}, chain n D G a ms → ∀ m ∈ ms, okMust n m
 | m :: ms, a, h, x, hx => by
   rcases List.mem_cons.mp hx with e | e
   ·subst e; exact h.1
   ·exact chain_ok h.2.2 x e
theorem isPap_ok {n : Nat} {D F G : Fn} : ∀ {ms : List Must}, isPap n D F G ms → ∀ m ∈ ms, okMust n m
 | m :: ms, h, x, hx => by
   rcases List.mem_cons.mp hx with e | e
   ·subst e; exact h.1
   ·exact chain_ok h.2.2 x e
def spWay : Sp := fun vs H Q _ => ∃ (a : Addr) (xs : List Int), vs = [.ref a] ∧ H a = some (.lst (iL xs)) ∧ xs.length ≤ 50000 ∧ ∀ H', Same H H' → Q (.int (wayL xs)) H'
theorem way_step {xs : List Int} {i : Nat} {x y : Int} (hx : xs[i]? = some x) (hy : xs[i + 1]? = some y) : wayL (xs.drop i) = ab (y - x) + wayL (xs.drop (i + 1)) := by
 rw [dropc hx, dropc hy, wayL_two]
theorem ok_way_of (T : Txt mg) (D : Def K mg "way_of" s_way_of) : Callee P w K mg base "way_of" 1 spWay := by
 refine D.ok sc_way_of bd_way_of (fun vs H Q E h => ?len) (fun f cdv A outer s H vs Q E hr h => ?body)
 case len => obtain ⟨a, xs, rfl, _⟩ := h; rfl
 case body =>
  obtain ⟨a, xs, rfl, hA, hl, k⟩ := h
  refine ⟨_, (pss_one (ps_ret (pe_callB (call_sumK K) (by rfl) T.z_sum bt_sum (pa_cons (by exact pe_comp (N := ["ahead", "here"]) (fr := [none, none]) ⟨by rfl, by decide +kernel, by decide +kernel, (show ∀ y ∈ (_ : List (Str × NameKind)), y.2 = NameKind.free → (defScope s_way_of).names.lookup y.1 = some .cell ∨ (defScope s_way_of).names.lookup y.1 = some .free by decide +kernel), (fr_none (fr_none fr_nil))⟩ (by rfl) (pi_zip2K K (by rfl) T.z_zip (pa_cons (pv 0) (pa_cons (pe_slice (sl_listK K) (pv 0) (po_some pe_int) po_none) pa_nil))) (fun _ _ _ _ => (pg_tupK K 2 (pgs_cons (pg_name (i := 0) (show List.Nodup (["ahead", "here"] : List Str) by decide) (by rfl) (by first | exact Or.inl rfl | exact Or.inr rfl)) (pgs_cons (pg_name (i := 1) (show List.Nodup (["ahead", "here"] : List Str) by decide) (by rfl) (by first | exact Or.inl rfl | exact Or.inr rfl)) pgs_nil)))) (fun _ _ _ _ => pifs_nil) (fun _ _ _ _ => (pe_callB call_absK (by rfl) T.z_abs bt_abs (pa_cons (pe_op op_sub (pv 1) (pv 0)) pa_nil))) (gw_tup (gws_cons (gw_name (by rfl)) (gws_cons (gw_name (by rfl)) gws_nil)))) pa_nil)))), ?_⟩
  walk_at "un"
  try clear hu
  walk_at "s"
  refine i_slFrom (SqL.of hA) (by decide) (fun p hp => ?_)
  have s1 : Same H _ := same_upd (o := .lst (iL (xs.drop (1 : Int).toNat))) hp
  have e1 : upd H p (.lst (iL (xs.drop (1 : Int).toNat))) p = some (.lst (iL (xs.drop 1))) := upd_same
  generalize upd H p (.lst (iL (xs.drop (1 : Int).toNat))) = H1 at *
  walk_at "s"
  refine ⟨_, _, rfl, ⟨_, SqL.of (s1 _ _ hA)⟩, ⟨_, SqL.of e1⟩, cp_zip (xs := iL xs) (ys := iL (xs.drop 1)) (fun i zs H2 => ∃ ds : List Int, zs = iL ds ∧ ds.length = i ∧ Same H1 H2 ∧ ds.sum + wayL (xs.drop i) = wayL xs) ⟨[], rfl, rfl, Same.refl _, by simp⟩ ?_ (szlt (by simp [iL]; lia)) ?_ ?_⟩
  ·rintro i zs H2 ⟨ds, rfl, hd, sm, _⟩
   exact ⟨SqL.of (sm _ _ (s1 _ _ hA)), SqL.of (sm _ _ e1), by simp [iL]; lia⟩
  ·rintro i x y t zs H2 hx hy ⟨ds, rfl, hd, sm, hw⟩ ht
   rw [List.getElem?_map] at hx hy
   obtain ⟨x1, hx1, rfl⟩ := Option.map_eq_some_iff.mp hx
   obtain ⟨y1, hy1, rfl⟩ := Option.map_eq_some_iff.mp hy
   rw [List.getElem?_drop, Nat.add_comm] at hy1
   walk_at "s"
   refine ⟨_, _, rfl, SqT.of upd_same, rfl, _, _, rfl, _, _, rfl, rfl, ?_⟩
   walk_at "s"
   refine ⟨ds ++ [ab (y1 - x1)], by simp [iL, ab], by simp; lia, sm.trans (same_upd ht), ?_⟩
   rw [way_step hx1 hy1] at hw
   simp; lia
  ·rintro l zs H2 ⟨ds, rfl, hd, sm, hw⟩ hl2
   refine i_sum (SqL.of upd_same) ?_
   rw [wayL_short (by simp [iL]; lia)] at hw
   rw [show ds.sum = wayL xs by lia]
   exact k _ ((s1.trans sm).trans (same_upd hl2))
def spRefErrE (CT CS : Addr) : Sp := fun vs H Q E => ∃ (a b c : Addr) (ps ws gs : List Int) (hd e : Int), vs = [.ref a, .int hd, .ref b, .int e, .ref c] ∧ H a = some (.lst (iL ps)) ∧ H b = some (.lst (iL ws)) ∧ H c = some (.lst (iL gs)) ∧ (isTr ps → stand ps hd ws → stand ps e gs → ∀ H', Same H H' → Q .non H') ∧ Exs E H CT CS (isTr ps) (stand ps hd ws ∧ stand ps e gs)
theorem ok_refuse_no_errand (T : Txt mg) (Z : Cls K mg) (D : Def K mg "refuse_no_errand" s_refuse_no_errand) (C_refuse_no_stand : CalleeE P w K mg base "refuse_no_stand" 4 (spRefStandE K Z.c_NoTrain Z.c_NoStand)) : CalleeE P w K mg base "refuse_no_errand" 5 (spRefErrE Z.c_NoTrain Z.c_NoStand) := by
 refine Def.okE D sc_refuse_no_errand bd_refuse_no_errand (fun vs H Q E h => ?len) (fun f cdv A outer s H vs Q E hr h => ?body)
 case len => obtain ⟨a, b, c, ps, ws, gs, hd, e, rfl, _⟩ := h; rfl
 case body =>
  obtain ⟨a, b, c, ps, ws, gs, hd, e, rfl, hA, hB, hC, k, x⟩ := h
  refine ⟨_, (pss_cons (ps_expr (pe_callE C_refuse_no_stand (hr.mono (by decide)) (by rfl) (pa_cons (pv 0) (pa_cons (pv 1) (pa_cons (pv 2) pa_nil)))))
 (pss_one (ps_expr (pe_callE C_refuse_no_stand (hr.mono (by decide)) (by rfl) (pa_cons (pv 0) (pa_cons (pv 3) (pa_cons (pv 4) pa_nil))))))), ?_⟩
  walk_at "un"
  try clear hu
  walk_at "s"
  refine ⟨a, b, ps, ws, hd, rfl, SqL.of hA, SqL.of hB, fun ht hs H1 s1 => ?_, x.imp fun _ z => z.1⟩
  walk_at "s"
  refine ⟨a, c, ps, gs, e, rfl, SqL.of (s1 _ _ hA), SqL.of (s1 _ _ hC), fun _ hg H2 s2 => ?_, (x.on s1).imp fun _ z => z.2⟩
  walk_at "s"
  exact k ht hs hg H2 (s1.trans s2)
def ExE (E : XK) (H : Hp) (CT CS : Addr) (ps ws gs : List Int) (hd e : Int) : Prop := Exs E H CT CS (isTr ps) (stand ps hd ws ∧ stand ps e gs)
def spPaperE (CT CS : Addr) : Sp := fun vs H Q E => ∃ (a b c : Addr) (ps ws gs : List Int) (hd e : Int), vs = [.ref a, .int hd, .ref b, .int e, .ref c] ∧ H a = some (.lst (iL ps)) ∧ H b = some (.lst (iL ws)) ∧ H c = some (.lst (iL gs)) ∧ (isTr ps → stand ps hd ws → stand ps e gs →
 ∀ l ts H', NewM H H' l (told ps hd ws e gs) ts → Q (.ref l) H') ∧ ExE E H CT CS ps ws gs hd e
theorem ok_paper_of (T : Txt mg) (Z : Cls K mg) (D : Def K mg "paper_of" s_paper_of) (C_refuse_no_errand : CalleeE P w K mg base "refuse_no_errand" 5 (spRefErrE Z.c_NoTrain Z.c_NoStand)) (C_first_musts : Callee P w K mg base "first_musts" 3 spFirst) (C_is_beyond : Callee P w K mg base "is_beyond" 6 spBeyond) : CalleeE P w K mg base "paper_of" 7 (spPaperE Z.c_NoTrain Z.c_NoStand) := by
 refine Def.okE D sc_paper_of bd_paper_of (fun vs H Q E h => ?len) (fun f cdv A outer s H vs Q E hr h => ?body)
 case len => obtain ⟨a, b, c, ps, ws, gs, hd, e, rfl, _⟩ := h; rfl
 case body =>
  obtain ⟨a, b, c, ps, ws, gs, hd, e, rfl, hA, hB, hC, k, x⟩ := h
  refine ⟨_, (pss_cons (ps_expr (pe_callE C_refuse_no_errand (hr.mono (by decide)) (by rfl) (pa_cons (pv 0) (pa_cons (pv 1) (pa_cons (pv 2) (pa_cons (pv 3) (pa_cons (pv 4) pa_nil)))))))
 (pss_cons (ps_set (i := 5) sc_paper_of.nd rfl (Or.inl rfl) (pe_callN C_first_musts (hr.mono (by decide)) (by rfl) (pa_cons (pv 1) (pa_cons (pv 2) (pa_cons (pv 3) (pa_cons (pv 4) pa_nil))))))
 (pss_cons (ps_if (pt_not (pt_truthK K (pv 5)))
 (pss_one (ps_ret (pv 5)))
 pss_nil)
 (pss_cons (ps_set (i := 6) sc_paper_of.nd rfl (Or.inl rfl) (pe_ix (ix_K K) (pv 5) pe_int (by exact fun _ _ => rfl)))
 (pss_cons (ps_for PassesOwn.leaving rfl (pi_range3 (by rfl) T.z_range (pa_cons (pe_op op_sub (pe_ix (ix_K K) (pv 6) pe_int (by exact fun _ _ => rfl)) pe_int) (pa_cons (pe_negK (r := -2) (by decide)) (pa_cons (pe_negK (r := -1) (by decide)) pa_nil)))) (pg_name (i := 7) sc_paper_of.nd rfl (Or.inl rfl))
 (pss_one (ps_if (pt_truthK K (pe_callN C_is_beyond (hr.mono (by decide)) (by rfl) (pa_cons (pv 0) (pa_cons (pv 3) (pa_cons (pv 4) (pa_cons (pv 6) (pa_cons (pv 7) pa_nil)))))))
 (pss_cons (ps_set (i := 6) sc_paper_of.nd rfl (Or.inl rfl) (pe_tup (pa_cons (pv 7) (pa_cons (pe_un un_neg (pe_ix (ix_K K) (pv 6) pe_int (by exact fun _ _ => rfl))) pa_nil))))
 (pss_one (ps_expr (pe_bmK K PySem.F.plainAttrs_list PySem.F.slot_list_append PySem.F.type_list_append mt_append (pv 5) (pa_cons (pv 6) pa_nil)))))
 pss_nil)))
 (pss_one (ps_ret (pv 5)))))))), ?_⟩
  walk_at "un"
  try clear hu
  walk_at "s"
  refine ⟨a, b, c, ps, ws, gs, hd, e, rfl, hA, hB, hC, fun ht hs hg H1 s1 => ?_, x⟩
  have k := k ht hs hg
  have h12 := ht.2.1
  have hwl := hs.1
  have hgl := hg.1
  walk_at "s"
  refine ⟨b, c, ws, gs, hd, e, rfl, s1 _ _ hB, s1 _ _ hC, by lia, by lia, fun l ts H2 N => ?_⟩
  walk_at "s"
  refine i_truL (SqL.of N.at_) ?_
  have N0 : NewM H H2 l _ ts := ⟨s1.free N.fr, s1.trans N.sm, N.at_, N.it⟩
  clear N
  unfold told paper at k
  rw [← hwl] at k
  rcases fm_spec (F := pc ws hd) (G := pc gs e) ws.length with ⟨e1, q⟩ | ⟨w0, e1, z1, z2, z3, z4⟩
  ·rw [e1] at k N0
   have hts : ts = [] := by have := N0.it; cases this; rfl
   subst hts
   refine ifT (by rfl) ?_
   walk_at "s"
   exact k l [] H2 N0
  ·rw [e1] at k N0
   simp only [] at k
   obtain ⟨t0, rfl, ht0⟩ : ∃ t0, ts = [t0] ∧ H2 t0 = some (.tup [.int w0, .int (sgn (pc ws hd) (pc gs e) w0)]) := by
    have := N0.it
    cases this with
    | cons h1 h2 => cases h2; exact ⟨_, rfl, h1⟩
   have hs0 : sgn (pc ws hd) (pc gs e) w0 = 1 ∨ sgn (pc ws hd) (pc gs e) w0 = -1 := by unfold sgn; split <;> simp
   rw [rr_of _ _ _ z1] at k
   generalize sgn (pc ws hd) (pc gs e) w0 = s0 at *
   refine ifF (by rfl) ?_
   walk_at "s"
   refine i_ixN (SqL.of N0.at_) (by decide) (v := .ref t0) rfl ?_
   walk_at "s"
   refine i_ixT (SqT.of ht0) (by decide) rfl ?_
   walk_at "s"
   refine ⟨_, _, rfl, ⟨by lia, by lia, by lia, by lia⟩, lp_down (fun i σ H3 => ∃ (u : Option V) (t : Addr) (m : Must) (ms : List Must) (ts : List Addr), σ = [some (.ref a), some (.int hd), some (.ref b), some (.int e), some (.ref c), some (.ref l), some (.ref t), u] ∧ NewM H H3 l ms ts ∧ ms.length ≤ i + 1 ∧ H3 t = some (.tup [.int m.1, .int m.2]) ∧ okMust ps.length m ∧
    (w0, s0) :: rr (pc (depths 0 ps) 0) (pc gs e) (w0 + 1).toNat (w0, s0) = ms ++ rr (pc (depths 0 ps) 0) (pc gs e) ((w0 + 1).toNat - i) m) ?_ ?_ ?_⟩
   ·exact ⟨_, t0, (w0, s0), [(w0, s0)], [t0], rfl, N0, by simp, ht0, ⟨z1, by simp only; lia, hs0⟩, rfl⟩
   ·rintro i σ H3 hi ⟨u, t, m, ms, ts, rfl, N, hml, hT, hm, heq⟩
    have st := rr_step (pc (depths 0 ps) 0) (pc gs e) ((w0 + 1).toNat - i - 1) m
    rw [show (w0 + 1).toNat - i - 1 + 1 = (w0 + 1).toNat - i by lia, show (((w0 + 1).toNat - i - 1 : Nat) : Int) - 1 = w0 - 1 - i by lia] at st
    walk_at "s"
    have hw1 : -1 ≤ w0 - 1 - (i : Int) := by lia
    have hw2 : w0 - 1 - (i : Int) < ps.length := by lia
    generalize w0 - 1 - (i : Int) = wh at *
    refine ⟨a, c, t, ps, gs, e, wh, m, rfl, N.sm _ _ hA, N.sm _ _ hC, hT, ht, hg, hm, hw1, hw2, fun H4 s4 => ?_⟩
    walk_at "s"
    refine i_if (fun gq => ?_) (fun gq => ?_)
    ·rw [if_pos gq] at st
     walk_at "s"
     refine i_ixT (SqT.of (s4 _ _ hT)) (by decide) rfl ?_
     walk_at "s"
     intro t2 ht2
     have N2 := (N.more s4).more (same_upd (o := .tup [.int wh, .int (-m.2)]) ht2)
     have hlen : ts.length ≤ 100 := by rw [N.it.length]; lia
     walk_at "s"
     refine ⟨.inl ⟨rfl, _, SqL.of N2.at_⟩, ?_⟩
     walk_at "s"
     refine i_app N2.at_ (szlt (by simp; lia)) ?_
     have e2 : upd H4 t2 (.tup [.int wh, .int (-m.2)]) t2 = some (.tup [.int wh, .int (-m.2)]) := upd_same
     refine ⟨_, t2, (wh, -m.2), ms ++ [(wh, -m.2)], ts ++ [t2], rfl, N2.app (m := (wh, -m.2)) e2, by simp; lia, ?_, ⟨hw1, hw2, by have := hm.2.2; simp only; lia⟩, ?_⟩
     ·have : t2 ≠ l := fun z => by
       have q := N2.at_
       rw [← z, e2] at q; cases q
      rw [upd_ne this]; exact e2
     ·rw [heq, st, show (w0 + 1).toNat - i - 1 = (w0 + 1).toNat - (i + 1) by lia]; simp
    ·rw [if_neg gq] at st
     refine ⟨_, t, m, ms, ts, rfl, N.more s4, by lia, s4 _ _ hT, hm, ?_⟩
     rw [heq, st, show (w0 + 1).toNat - i - 1 = (w0 + 1).toNat - (i + 1) by lia]
   ·rintro σ H3 ⟨u, t, m, ms, ts, rfl, N, hml, hT, hm, heq⟩
    walk_at "s"
    rw [show (w0 + 1).toNat - (w0 - 1 - -2).toNat = 0 by lia] at heq
    rw [heq] at k
    simp only [rr, List.append_nil] at k
    exact k l ts H3 N
def spLeastRowE (CT CS : Addr) : Sp := fun vs H Q E => ∃ (a b c : Addr) (ps ws gs : List Int) (hd e : Int), vs = [.ref a, .int hd, .ref b, .int e, .ref c] ∧ H a = some (.lst (iL ps)) ∧ H b = some (.lst (iL ws)) ∧ H c = some (.lst (iL gs)) ∧ (isTr ps → stand ps hd ws → stand ps e gs →
 ∀ l H', NewI H H' l (toldRow ps hd ws e gs) → Q (.ref l) H') ∧ ExE E H CT CS ps ws gs hd e
theorem ok_least_row (T : Txt mg) (Z : Cls K mg) (D : Def K mg "least_row" s_least_row) (C_paper_of : CalleeE P w K mg base "paper_of" 7 (spPaperE Z.c_NoTrain Z.c_NoStand)) (C_must_place : Callee P w K mg base "must_place" 5 spMustPlace) : CalleeE P w K mg base "least_row" 8 (spLeastRowE Z.c_NoTrain Z.c_NoStand) := by
 refine Def.okE D sc_least_row bd_least_row (fun vs H Q E h => ?len) (fun f cdv A outer s H vs Q E hr h => ?body)
 case len => obtain ⟨a, b, c, ps, ws, gs, hd, e, rfl, _⟩ := h; rfl
 case body =>
  obtain ⟨a, b, c, ps, ws, gs, hd, e, rfl, hA, hB, hC, k, x⟩ := h
  refine ⟨_, (pss_cons (ps_set (i := 5) sc_least_row.nd rfl (Or.inl rfl) (pe_callE C_paper_of (hr.mono (by decide)) (by rfl) (pa_cons (pv 0) (pa_cons (pv 1) (pa_cons (pv 2) (pa_cons (pv 3) (pa_cons (pv 4) pa_nil)))))))
 (pss_one (ps_ret (by exact pe_comp (N := ["must", "plays", "end", "goal"]) (fr := [none, some 0, some 3, some 4]) ⟨by rfl, by decide +kernel, by decide +kernel, (show ∀ y ∈ (_ : List (Str × NameKind)), y.2 = NameKind.free → (defScope s_least_row).names.lookup y.1 = some .cell ∨ (defScope s_least_row).names.lookup y.1 = some .free by decide +kernel), (fr_none (fr_some (by rfl) (by first | exact Or.inl rfl | exact Or.inr rfl) (by rfl) (fr_some (by rfl) (by first | exact Or.inl rfl | exact Or.inr rfl) (by rfl) (fr_some (by rfl) (by first | exact Or.inl rfl | exact Or.inr rfl) (by rfl) fr_nil))))⟩ (by rfl) (pi_listK K (pv 5)) (fun _ _ _ _ => (pg_name (i := 0) (show List.Nodup (["must", "plays", "end", "goal"] : List Str) by decide) (by rfl) (by first | exact Or.inl rfl | exact Or.inr rfl))) (fun _ _ _ _ => pifs_nil) (fun _ _ _ _ => (pe_callN C_must_place (hr.mono (by decide)) (by rfl) (pa_cons (pv 1) (pa_cons (pv 2) (pa_cons (pv 3) (pa_cons (pv 0) pa_nil)))))) (gw_name (by rfl)))))), ?_⟩
  walk_at "un"
  try clear hu
  walk_at "s"
  refine ⟨a, b, c, ps, ws, gs, hd, e, rfl, hA, hB, hC, fun ht hs hg l ts H1 N => ?_, x⟩
  have k := k ht hs hg
  have h12 := ht.2.1
  walk_at "s"
  have hpl : (told ps hd ws e gs).length ≤ ps.length + 1 := paper_length
  have htl : ts.length ≤ 13 := by rw [N.it.length]; lia
  have hok := isPap_ok (paper_isPap (n := ps.length) (D := pc (depths 0 ps) 0) (F := pc ws hd) (G := pc gs e))
  refine ⟨⟨_, SqL.of N.at_⟩, cp_list (xs := ts.map V.ref) (fun i ys H2 => ys = iL ((toldRow ps hd ws e gs).take i) ∧ i ≤ ts.length ∧ Same H1 H2) ⟨by simp, Nat.zero_le _, Same.refl _⟩ ?_ (szlt (by simp; lia)) ?_ ?_⟩
  ·rintro i ys H2 ⟨rfl, hi, sm⟩
   exact ⟨SqL.of (sm _ _ N.at_), by simp [iL]; lia⟩
  ·rintro i x ys H2 hx ⟨rfl, hi, sm⟩
   rw [List.getElem?_map] at hx
   obtain ⟨t, hti, rfl⟩ := Option.map_eq_some_iff.mp hx
   obtain ⟨m, hmi, hT⟩ := paired_getL N.it hti
   have hil : i < ts.length := (List.getElem?_eq_some_iff.mp hti).1
   walk_at "s"
   refine ⟨a, c, t, ps, gs, e, m, rfl, sm _ _ (N.sm _ _ hA), sm _ _ (N.sm _ _ hC), sm _ _ hT, ht, hg, hok m (List.mem_of_getElem? hmi), fun H3 s3 => ?_⟩
   refine ⟨?_, by lia, sm.trans s3⟩
   have : (toldRow ps hd ws e gs)[i]? = some (mp (pc (depths 0 ps) 0) (pc gs e) m) := by
    unfold toldRow; rw [List.getElem?_map, hmi]; rfl
   rw [List.take_add_one, this]
   simp [iL]
  ·rintro l2 ys H2 ⟨rfl, hi, sm⟩ hl2
   have e1 : (ts.map V.ref).length = (toldRow ps hd ws e gs).length := by unfold toldRow; rw [List.length_map, List.length_map, N.it.length]
   rw [e1, List.take_of_length_le (Nat.le_refl _)]
   have sA := N.sm.trans sm
   exact k l2 _ ⟨sA.free hl2, sA.trans (same_upd hl2), upd_same⟩
def spLeastOfE (CT CS : Addr) : Sp := fun vs H Q E => ∃ (a b c : Addr) (ps ws gs : List Int) (hd e : Int), vs = [.ref a, .int hd, .ref b, .int e, .ref c] ∧ H a = some (.lst (iL ps)) ∧ H b = some (.lst (iL ws)) ∧ H c = some (.lst (iL gs)) ∧ (isTr ps → stand ps hd ws → stand ps e gs →
 ∀ H', Same H H' → Q (.int (way hd (toldRow ps hd ws e gs))) H') ∧ ExE E H CT CS ps ws gs hd e
theorem toldRow_length {ps ws gs : List Int} {hd e : Int} : (toldRow ps hd ws e gs).length ≤ ps.length + 1 := by
 unfold toldRow; rw [List.length_map]; exact paper_length
theorem ok_least_of (T : Txt mg) (Z : Cls K mg) (D : Def K mg "least_of" s_least_of) (C_way_of : Callee P w K mg base "way_of" 1 spWay) (C_least_row : CalleeE P w K mg base "least_row" 8 (spLeastRowE Z.c_NoTrain Z.c_NoStand)) : CalleeE P w K mg base "least_of" 9 (spLeastOfE Z.c_NoTrain Z.c_NoStand) := by
 refine Def.okE D sc_least_of bd_least_of (fun vs H Q E h => ?len) (fun f cdv A outer s H vs Q E hr h => ?body)
 case len => obtain ⟨a, b, c, ps, ws, gs, hd, e, rfl, _⟩ := h; rfl
 case body =>
  obtain ⟨a, b, c, ps, ws, gs, hd, e, rfl, hA, hB, hC, k, x⟩ := h
  have hrl : (toldRow ps hd ws e gs).length ≤ ps.length + 1 := toldRow_length
  refine ⟨_, (pss_one (ps_ret (pe_callN C_way_of (hr.mono (by decide)) (by rfl) (pa_cons (pe_op op_addP (pe_lst (pa_cons (pv 1) pa_nil)) (pe_callE C_least_row (hr.mono (by decide)) (by rfl) (pa_cons (pv 0) (pa_cons (pv 1) (pa_cons (pv 2) (pa_cons (pv 3) (pa_cons (pv 4) pa_nil))))))) pa_nil)))), ?_⟩
  walk_at "un"
  try clear hu
  walk_at "s"
  intro g hg1
  have s2 : Same H _ := same_upd (o := .lst [V.int hd]) hg1
  have e2 : upd H g (.lst [V.int hd]) g = some (.lst [V.int hd]) := upd_same
  generalize upd H g (.lst [V.int hd]) = H2 at *
  walk_at "s"
  refine ⟨a, b, c, ps, ws, gs, hd, e, rfl, s2 _ _ hA, s2 _ _ hB, s2 _ _ hC, fun ht hs hg l H3 N3 => ?_, x.on s2⟩
  have k := k ht hs hg
  have h12 := ht.2.1
  refine i_addL (xs := [V.int hd]) (ys := iL (toldRow ps hd ws e gs)) (N3.sm _ _ e2) N3.at_ (by simp [iL]; exact szl (by lia)) (fun l5 hl5 => ?_)
  refine ⟨l5, hd :: toldRow ps hd ws e gs, rfl, by rw [upd_same]; rfl, by simp; lia, fun H6 s6 => ?_⟩
  exact k _ (((s2.trans N3.sm).trans (same_upd hl5)).trans s6)
def TabAt (H : Hp) (us : List Addr) (tab : List (List Int)) : Prop := Paired (fun u (r : List Int) => H u = some (.lst (iL r))) us tab
theorem TabAt.more {H H' : Hp} {us : List Addr} {tab : List (List Int)} (h : TabAt H us tab) (s : Same H H') : TabAt H' us tab := Paired.mapP h fun _ _ e => s _ _ e
abbrev Std := Int × List Int
abbrev StsAt (H : Hp) (ts : List Addr) (sts : List Std) : Prop := Paired (PairH H) ts sts
theorem PairH.more {H H' : Hp} {t : Addr} {q : Std} (h : PairH H t q) (s : Same H H') : PairH H' t q := by
 obtain ⟨l, h1, h2⟩ := h
 exact ⟨l, s _ _ h1, s _ _ h2⟩
theorem stsMore {H H' : Hp} {ts : List Addr} {sts : List Std} (h : StsAt H ts sts) (s : Same H H') : StsAt H' ts sts := Paired.mapP h fun _ _ e => PairH.more e s
def lw (ps : List Int) (a b : Std) : Int := way a.1 (toldRow ps a.1 a.2 b.1 b.2)
def rsum (ps : List Int) : Std → List Std → Int
 | _, [] => 0
 | a, b :: r => lw ps a b + rsum ps b r
def stA (start : Std) (sts : List Std) (l : Int) : Std := if l = -1 then start else sts.getD l.toNat start
def Dw (ps : List Int) (start : Std) (sts : List Std) (l x : Int) : Int := lw ps (stA start sts l) (stA start sts x)
def okSt (ps : List Int) (s : Std) : Prop := stand ps s.1 s.2
theorem stA_get {start : Std} {sts : List Std} {i : Nat} {s : Std} (h : sts[i]? = some s) : stA start sts (i : Int) = s := by
 unfold stA
 rw [if_neg (by lia), Int.toNat_natCast, List.getD_eq_getElem?_getD, h]
 rfl
def spLeastOf : Sp := fun vs H Q _ => ∃ (a b c : Addr) (ps ws gs : List Int) (hd e : Int), vs = [.ref a, .int hd, .ref b, .int e, .ref c] ∧ H a = some (.lst (iL ps)) ∧ H b = some (.lst (iL ws)) ∧ H c = some (.lst (iL gs)) ∧ isTr ps ∧ stand ps hd ws ∧ stand ps e gs ∧
 ∀ H', Same H H' → Q (.int (way hd (toldRow ps hd ws e gs))) H'
theorem calm_least_of {CT CS : Addr} (C : CalleeE P w K mg base "least_of" 9 (spLeastOfE CT CS)) : Callee P w K mg base "least_of" 9 spLeastOf :=
 calm_of C fun vs H Q E ⟨a, b, c, ps, ws, gs, hd, e, h1, h2, h3, h4, h5, h6, h7, k⟩ => ⟨a, b, c, ps, ws, gs, hd, e, h1, h2, h3, h4, fun _ _ _ => k, Exs.no h5 ⟨h6, h7⟩⟩
def spRefRoundE (CT CS : Addr) : Sp := fun vs H Q E => ∃ (a b c : Addr) (ps ws : List Int) (hd : Int) (ts : List Addr) (sts : List Std), vs = [.ref a, .int hd, .ref b, .ref c] ∧ H a = some (.lst (iL ps)) ∧ H b = some (.lst (iL ws)) ∧ H c = some (.lst (ts.map V.ref)) ∧ StsAt H ts sts ∧
 (isTr ps → stand ps hd ws → (∀ s ∈ sts, okSt ps s) → ∀ H', Same H H' → Q .non H') ∧ Exs E H CT CS (isTr ps) (stand ps hd ws ∧ ∀ s ∈ sts, okSt ps s)
theorem ok_refuse_no_round (T : Txt mg) (Z : Cls K mg) (D : Def K mg "refuse_no_round" s_refuse_no_round) (C_refuse_no_stand : CalleeE P w K mg base "refuse_no_stand" 4 (spRefStandE K Z.c_NoTrain Z.c_NoStand)) : CalleeE P w K mg base "refuse_no_round" 5 (spRefRoundE Z.c_NoTrain Z.c_NoStand) := by
 refine Def.okE D sc_refuse_no_round bd_refuse_no_round (fun vs H Q E h => ?len) (fun f cdv A outer s H vs Q E hr h => ?body)
 case len => obtain ⟨a, b, c, ps, ws, hd, ts, sts, rfl, _⟩ := h; rfl
 case body =>
  obtain ⟨a, b, c, ps, ws, hd, ts, sts, rfl, hA, hB, hC, hT, k, x⟩ := h
  have hu := hr.units
  have htl : ts.length = sts.length := hT.length
  refine ⟨_, (pss_cons (ps_expr (pe_callE C_refuse_no_stand (hr.mono (by decide)) (by rfl) (pa_cons (pv 0) (pa_cons (pv 1) (pa_cons (pv 2) pa_nil)))))
 (pss_one (ps_for PassesOwn.leaving rfl (pi_listK K (pv 3)) (pg_tupK K 2 (pgs_cons (pg_name (i := 4) sc_refuse_no_round.nd rfl (Or.inl rfl)) (pgs_cons (pg_name (i := 5) sc_refuse_no_round.nd rfl (Or.inl rfl)) pgs_nil)))
 (pss_one (ps_expr (pe_callE C_refuse_no_stand (hr.mono (by decide)) (by rfl) (pa_cons (pv 0) (pa_cons (pv 4) (pa_cons (pv 5) pa_nil))))))))), ?_⟩
  walk_at "un"
  try clear hu
  walk_at "s"
  refine ⟨a, b, ps, ws, hd, rfl, SqL.of hA, SqL.of hB, fun ht hs H1 s1 => ?_, ⟨x.1, fun h1 h2 => x.2 h1 fun z => h2 z.1⟩⟩
  walk_at "s"
  refine ⟨⟨_, SqL.of (s1 _ _ hC)⟩, lp_list (xs := ts.map V.ref) (fun i σ H2 => ∃ u4 u5 : Option V, σ = [some (.ref a), some (.int hd), some (.ref b), some (.ref c), u4, u5] ∧ Same H H2 ∧ ∀ s ∈ sts.take i, okSt ps s) ?_ ?_ ?_ ?_⟩
  ·exact ⟨_, _, rfl, s1, by simp⟩
  ·rintro i σ H2 _ ⟨u4, u5, rfl, sm, _⟩
   exact SqL.of (sm _ _ hC)
  ·rintro i y σ H2 hy ⟨u4, u5, rfl, sm, hok⟩
   rw [List.getElem?_map] at hy
   obtain ⟨t, hti, rfl⟩ := Option.map_eq_some_iff.mp hy
   obtain ⟨s', hsi, l, hTs, hLs⟩ := paired_getL hT hti
   walk_at "s"
   refine ⟨_, _, rfl, SqT.of (sm _ _ hTs), rfl, _, _, rfl, _, _, rfl, rfl, ?_⟩
   walk_at "s"
   refine ⟨a, l, ps, s'.2, s'.1, rfl, SqL.of (sm _ _ hA), SqL.of (sm _ _ hLs), fun _ hs' H3 s3 => ?_, ⟨fun h => absurd ht h, fun _ hn H' s' => x.2 ht (fun z => hn (z.2 _ (List.mem_of_getElem? hsi))) _ (sm.trans s')⟩⟩
   refine ⟨_, _, rfl, sm.trans s3, fun z hz => ?_⟩
   rw [take_snoc_get hsi] at hz
   rcases List.mem_append.mp hz with q | q
   ·exact hok z q
   ·simp at q; subst q; exact hs'
  ·rintro σ H2 ⟨u4, u5, rfl, sm, hok⟩
   rw [List.take_of_length_le (by simp; lia)] at hok
   walk_at "s"
   exact k ht hs hok _ sm
def waysT (ps : List Int) (start : Std) (sts : List Std) : List (List Int) := (sts ++ [start]).map fun a => sts.map fun b => lw ps a b
def spWays : Sp := fun vs H Q _ => ∃ (a b c : Addr) (ps ws : List Int) (hd : Int) (ts : List Addr) (sts : List Std), vs = [.ref a, .int hd, .ref b, .ref c] ∧ H a = some (.lst (iL ps)) ∧ H b = some (.lst (iL ws)) ∧ H c = some (.lst (ts.map V.ref)) ∧ StsAt H ts sts ∧ isTr ps ∧ stand ps hd ws ∧ (∀ s ∈ sts, okSt ps s) ∧ sts.length ≤ 1000 ∧
 ∀ l us H', Same H H' → H' l = some (.lst (us.map V.ref)) → TabAt H' us (waysT ps (hd, ws) sts) → Q (.ref l) H'
theorem ok_ways_between (T : Txt mg) (D : Def K mg "ways_between" s_ways_between) (C_least_of : Callee P w K mg base "least_of" 9 spLeastOf) : Callee P w K mg base "ways_between" 10 spWays := by
 refine D.ok sc_ways_between bd_ways_between (fun vs H Q E h => ?len) (fun f cdv A outer s H vs Q E hr h => ?body)
 case len => obtain ⟨a, b, c, ps, ws, hd, ts, sts, rfl, _⟩ := h; rfl
 case body =>
  obtain ⟨a, b, c, ps, ws, hd, ts, sts, rfl, hA, hB, hC, hT, ht, hs, hok, hl, k⟩ := h
  have hu := hr.units
  have htl : ts.length = sts.length := hT.length
  refine ⟨_, (pss_one (ps_ret (by exact pe_compD (N := ["at", "places", "plays", "stands"]) (fr := [none, none, some 0, some 3]) ⟨by rfl, by decide +kernel, by decide +kernel, (show ∀ y ∈ (_ : List (Str × NameKind)), y.2 = NameKind.free → (defScope s_ways_between).names.lookup y.1 = some .cell ∨ (defScope s_ways_between).names.lookup y.1 = some .free by decide +kernel), (fr_none (fr_none (fr_some (by rfl) (by first | exact Or.inl rfl | exact Or.inr rfl) (by rfl) (fr_some (by rfl) (by first | exact Or.inl rfl | exact Or.inr rfl) (by rfl) fr_nil))))⟩ (by rfl) (pi_listK K (pe_op op_addP (pv 3) (pe_lst (pa_cons (pe_tup (pa_cons (pv 1) (pa_cons (pv 2) pa_nil))) pa_nil)))) (fun _ _ _ _ => (pg_tupK K 2 (pgs_cons (pg_name (i := 0) (show List.Nodup (["at", "places", "plays", "stands"] : List Str) by decide) (by rfl) (by first | exact Or.inl rfl | exact Or.inr rfl)) (pgs_cons (pg_name (i := 1) (show List.Nodup (["at", "places", "plays", "stands"] : List Str) by decide) (by rfl) (by first | exact Or.inl rfl | exact Or.inr rfl)) pgs_nil)))) (fun _ _ _ _ => pifs_nil) (fun _ _ _ _ => (by exact pe_comp (N := ["end", "goal", "plays", "at", "places"]) (fr := [none, none, some 2, some 0, some 1]) ⟨by rfl, by decide +kernel, by decide +kernel, nestD_frees (by decide +kernel), (fr_none (fr_none (fr_some (by rfl) (nestD_kind (by first | exact Or.inl rfl | exact Or.inr rfl)) (by rfl) (fr_some (by rfl) (nestD_kind (by first | exact Or.inl rfl | exact Or.inr rfl)) (by rfl) (fr_some (by rfl) (nestD_kind (by first | exact Or.inl rfl | exact Or.inr rfl)) (by rfl) fr_nil)))))⟩ (by rfl) (pi_listK K (pv 3)) (fun _ _ _ _ => (pg_tupK K 2 (pgs_cons (pg_name (i := 0) (show List.Nodup (["end", "goal", "plays", "at", "places"] : List Str) by decide) (by rfl) (by first | exact Or.inl rfl | exact Or.inr rfl)) (pgs_cons (pg_name (i := 1) (show List.Nodup (["end", "goal", "plays", "at", "places"] : List Str) by decide) (by rfl) (by first | exact Or.inl rfl | exact Or.inr rfl)) pgs_nil)))) (fun _ _ _ _ => pifs_nil) (fun _ _ _ _ => (pe_callN C_least_of (hr.mono (by decide)) (by rfl) (pa_cons (pv 2) (pa_cons (pv 3) (pa_cons (pv 4) (pa_cons (pv 0) (pa_cons (pv 1) pa_nil))))))) (gw_tup (gws_cons (gw_name (by rfl)) (gws_cons (gw_name (by rfl)) gws_nil))))) (gw_tup (gws_cons (gw_name (by rfl)) (gws_cons (gw_name (by rfl)) gws_nil)))))), ?_⟩
  walk_at "un"
  try clear hu
  walk_at "s"
  intro t1 h1
  have s1 : Same H _ := same_upd (o := .tup [.int hd, .ref b]) h1
  have e1 : upd H t1 (.tup [.int hd, .ref b]) t1 = some (.tup [.int hd, .ref b]) := upd_same
  generalize upd H t1 (.tup [.int hd, .ref b]) = H1 at *
  walk_at "s"
  intro l2 h2
  have s2 : Same H1 _ := same_upd (o := .lst [.ref t1]) h2
  have e2 : upd H1 l2 (.lst [.ref t1]) l2 = some (.lst [.ref t1]) := upd_same
  generalize upd H1 l2 (.lst [.ref t1]) = H2 at *
  refine i_addL (s2 _ _ (s1 _ _ hC)) e2 (szl (by simp; lia)) (fun l3 h3 => ?_)
  have ea : ts.map V.ref ++ [V.ref t1] = (ts ++ [t1]).map V.ref := by simp
  rw [ea]
  have s3 : Same H2 _ := same_upd (o := .lst ((ts ++ [t1]).map V.ref)) h3
  have e3 : upd H2 l3 (.lst ((ts ++ [t1]).map V.ref)) l3 = some (.lst ((ts ++ [t1]).map V.ref)) := upd_same
  generalize upd H2 l3 (.lst ((ts ++ [t1]).map V.ref)) = H3 at *
  have S3 := s1.trans (s2.trans s3)
  have hall : StsAt H3 (ts ++ [t1]) (sts ++ [(hd, ws)]) := Paired.snoc (stsMore hT S3) ⟨b, s3 _ _ (s2 _ _ e1), S3 _ _ hB⟩
  have hokA : ∀ s ∈ sts ++ [(hd, ws)], okSt ps s := fun s hs' => by
   rcases List.mem_append.mp hs' with q | q
   ·exact hok s q
   ·simp at q; subst q; exact hs
  replace hA := S3 _ _ hA
  replace hC := S3 _ _ hC
  replace hT := stsMore hT S3
  walk_at "s"
  refine ⟨⟨_, SqL.of e3⟩, cp_list (xs := (ts ++ [t1]).map V.ref) (fun i ys H4 => ∃ us : List Addr, ys = us.map V.ref ∧ us.length = i ∧ Same H3 H4 ∧ TabAt H4 us ((waysT ps (hd, ws) sts).take i)) ⟨[], rfl, rfl, Same.refl _, by simpa using .nil⟩ ?_ (szlt (by simp; lia)) ?_ ?_⟩
  ·rintro i ys H4 ⟨us, rfl, hul, sm, _⟩
   exact ⟨SqL.of (sm _ _ e3), by simp; lia⟩
  ·rintro i y ys H4 hy ⟨us, rfl, hul, sm, hU⟩
   rw [List.getElem?_map] at hy
   obtain ⟨t, hti, rfl⟩ := Option.map_eq_some_iff.mp hy
   obtain ⟨s', hsi, l, hTs, hLs⟩ := paired_getL hall hti
   have hok' := hokA s' (List.mem_of_getElem? hsi)
   walk_at "s"
   refine ⟨_, _, rfl, SqT.of (sm _ _ hTs), rfl, _, _, rfl, _, _, rfl, rfl, ?_⟩
   walk_at "s"
   refine ⟨⟨_, SqL.of (sm _ _ hC)⟩, cp_list (xs := ts.map V.ref) (fun j zs H5 => zs = iL ((sts.map fun b => lw ps s' b).take j) ∧ j ≤ sts.length ∧ Same H3 H5 ∧ TabAt H5 us ((waysT ps (hd, ws) sts).take i)) ⟨by simp, Nat.zero_le _, sm, hU⟩ ?_ (szlt (by simp; lia)) ?_ ?_⟩
   ·rintro j zs H5 ⟨rfl, hj, sm5, _⟩
    exact ⟨SqL.of (sm5 _ _ hC), by simp [iL]; lia⟩
   ·rintro j y zs H5 hy ⟨rfl, hj, sm5, hU5⟩
    rw [List.getElem?_map] at hy
    obtain ⟨t', htj, rfl⟩ := Option.map_eq_some_iff.mp hy
    obtain ⟨s2', hsj, l', hTs', hLs'⟩ := paired_getL hT htj
    have hjl : j < sts.length := (List.getElem?_eq_some_iff.mp hsj).1
    walk_at "s"
    refine ⟨_, _, rfl, SqT.of (sm5 _ _ hTs'), rfl, _, _, rfl, _, _, rfl, rfl, ?_⟩
    walk_at "s"
    refine ⟨a, l, l', ps, s'.2, s2'.2, s'.1, s2'.1, rfl, sm5 _ _ hA, sm5 _ _ hLs, sm5 _ _ hLs', ht, hok', hok _ (List.mem_of_getElem? hsj), fun H6 s6 => ?_⟩
    refine ⟨?_, by lia, sm5.trans s6, hU5.more s6⟩
    rw [take_snoc_get (show (sts.map fun b => lw ps s' b)[j]? = some (lw ps s' s2') by rw [List.getElem?_map, hsj]; rfl)]
    simp [iL, lw]
   ·rintro l6 zs H5 ⟨rfl, hj, sm5, hU5⟩ hl6
    rw [List.take_of_length_le (by simp; lia)]
    have s6 := same_upd (o := .lst (iL (sts.map fun b => lw ps s' b))) hl6
    refine ⟨us ++ [l6], by simp, by simp; lia, sm5.trans s6, ?_⟩
    rw [take_snoc_get (show (waysT ps (hd, ws) sts)[i]? = some (sts.map fun b => lw ps s' b) by unfold waysT; rw [List.getElem?_map, hsi]; rfl)]
    exact Paired.snoc (TabAt.more hU5 s6) upd_same
  ·rintro l4 ys H4 ⟨us, rfl, hul, sm, hU⟩ hl4
   rw [List.take_of_length_le (by simp [waysT]; lia)] at hU
   have s5 := same_upd (o := .lst (us.map V.ref)) hl4
   exact k l4 us _ (S3.trans (sm.trans s5)) upd_same (hU.more s5)
def TabD (us : List Addr) (H : Hp) (n : Nat) (D : Int → Int → Int) : Prop := us.length = n + 1 ∧ ∀ (i : Nat) (u : Addr), us[i]? = some u → ∃ r : List Int, H u = some (.lst (iL r)) ∧ ∀ x : Nat, x < n → r[x]? = some (D (if i = n then -1 else (i : Int)) x)
theorem TabD.more {us : List Addr} {H H' : Hp} {n : Nat} {D : Int → Int → Int} (h : TabD us H n D) (s : Same H H') : TabD us H' n D := ⟨h.1, fun i u e => by
 obtain ⟨r, h1, h2⟩ := h.2 i u e
 exact ⟨r, s _ _ h1, h2⟩⟩
def spBest (m : Nat) : Sp := fun vs H Q _ => ∃ (a b : Addr) (us : List Addr) (n : Nat) (D : Int → Int → Int) (nums : List Int) (last : Int), vs = [.ref a, .int last, .ref b] ∧ H a = some (.lst (us.map V.ref)) ∧ TabD us H n D ∧ H b = some (.lst (iL nums)) ∧ nums.length < m ∧ nums.length ≤ 1000 ∧ nums.Nodup ∧ (∀ x ∈ nums, 0 ≤ x ∧ x < n) ∧ (last = -1 ∨ (0 ≤ last ∧ last < n)) ∧
 ∀ (t l : Addr) (p : Int × List Int) (H' : Hp), Same H H' → H' t = some (.tup [.int p.1, .ref l]) → H' l = some (.lst (iL p.2)) → IsBest D last nums p → Q (.ref t) H'
theorem ok_best_step (T : Txt mg) (D : Def K mg "best_from" s_best_from) {m : Nat} (C_best_from : Callee P w K mg base "best_from" (m + 1) (spBest m)) : Callee P w K mg base "best_from" (m + 2) (spBest (m + 1)) := by
 refine D.ok sc_best_from bd_best_from (fun vs H Q E h => ?len) (fun f cdv A outer s H vs Q E hr h => ?body)
 case len => obtain ⟨a, b, us, n, D, nums, last, rfl, _⟩ := h; rfl
 case body =>
  obtain ⟨a, b, us, n, D, nums, last, rfl, hA, hT, hB, hm, hl, nd, hx, hla, k⟩ := h
  have hu := hr.units
  refine ⟨_, (pss_cons (ps_if (pt_not (pt_truthK K (pv 2)))
 (pss_one (ps_ret (pe_tup (pa_cons pe_int (pa_cons (pe_lst pa_nil) pa_nil)))))
 pss_nil)
 (pss_cons (ps_set (i := 3) sc_best_from.nd rfl (Or.inl rfl) (pe_lst pa_nil))
 (pss_cons (ps_for PassesOwn.never rfl (pi_listK K (pv 2)) (pg_name (i := 4) sc_best_from.nd rfl (Or.inr rfl))
 (pss_cons (ps_asg (pe_callN C_best_from (hr.mono (by lia)) (by rfl) (pa_cons (pv 0) (pa_cons (pv 4) (pa_cons (by exact pe_comp (N := ["other", "number"]) (fr := [none, some 4]) ⟨by rfl, by decide +kernel, by decide +kernel, (show ∀ y ∈ (_ : List (Str × NameKind)), y.2 = NameKind.free → (defScope s_best_from).names.lookup y.1 = some .cell ∨ (defScope s_best_from).names.lookup y.1 = some .free by decide +kernel), (fr_none (fr_some (by rfl) (by first | exact Or.inl rfl | exact Or.inr rfl) (by rfl) fr_nil))⟩ (by rfl) (pi_listK K (pv 2)) (fun _ _ _ _ => (pg_name (i := 0) (show List.Nodup (["other", "number"] : List Str) by decide) (by rfl) (by first | exact Or.inl rfl | exact Or.inr rfl))) (fun _ _ _ _ => (pifs_one (pt_cmpR (op_neK K hu) (pv 0) (pv 1) (nomark _)))) (fun _ _ _ _ => (pv 0)) (gw_name (by rfl))) pa_nil)))) (pg_tupK K 2 (pgs_cons (pg_name (i := 5) sc_best_from.nd rfl (Or.inl rfl)) (pgs_cons (pg_name (i := 6) sc_best_from.nd rfl (Or.inl rfl)) pgs_nil))))
 (pss_one (ps_expr (pe_bmK K PySem.F.plainAttrs_list PySem.F.slot_list_append PySem.F.type_list_append mt_append (pv 3) (pa_cons (pe_tup (pa_cons (pe_op op_addP (pe_ix (ix_K K) (pe_ix (ix_K K) (pv 0) (pv 1) (by exact fun _ _ => rfl)) (pv 4) (by exact fun _ _ => rfl)) (pv 5)) (pa_cons (pe_op op_addP (pe_lst (pa_cons (pv 4) pa_nil)) (pv 6)) pa_nil))) pa_nil))))))
 (pss_one (ps_ret (pe_callB (call_minPK K hu (by rfl)) (by rfl) T.z_min bt_min (pa_cons (pv 3) pa_nil))))))), ?_⟩
  walk_at "un"
  try clear hu
  walk_at "s"
  refine i_truL (SqL.of hB) ?_
  cases nums with
  | nil =>
    rw [show (!!(iL []).isEmpty) = true from rfl]
    walk_at "s"
    intro l1 h1
    have s1 : Same H _ := same_upd (o := .lst []) h1
    have e1 : upd H l1 (.lst []) l1 = some (.lst []) := upd_same
    generalize upd H l1 (.lst []) = H1 at *
    walk_at "s"
    intro t2 h2
    exact k t2 l1 (0, []) _ (s1.trans (same_upd h2)) upd_same (same_upd h2 _ _ e1) .nil
  | cons x0 rest =>
  generalize hnums : x0 :: rest = nums at *
  have hne : nums ≠ [] := by rw [← hnums]; simp
  have hie : (!!(iL nums).isEmpty) = false := by rw [← hnums]; rfl
  rw [hie]
  walk_at "s"
  intro lr h1
  have s1 : Same H _ := same_upd (o := .lst []) h1
  have e1 : upd H lr (.lst []) lr = some (.lst []) := upd_same
  generalize upd H lr (.lst []) = H1 at *
  walk_at "s"
  refine ⟨⟨_, SqL.of (s1 _ _ hB)⟩, lp_ints (ns := nums) (fun i σ H2 => ∃ (u4 u5 u6 : Option V) (ts : List Addr) (ps : List (Int × List Int)), σ = [some (.ref a), some (.int last), some (.ref b), some (.ref lr), u4, u5, u6] ∧ Same H H2 ∧ H2 lr = some (.lst (ts.map V.ref)) ∧ Paired (PairH H2) ts ps ∧ (∀ t ∈ ts, t ≠ lr) ∧ ps.length = i ∧ (∀ (j : Nat) (x : Int), j < i → nums[j]? = some x → ∃ q, IsBest D x (less nums x) q ∧ ps[j]? = some (D last x + q.1, x :: q.2)) ∧ (∀ t ∈ ts, ∀ l, H2 t = some (.tup [.int (0 : Int), .ref l]) → True) ∧ (∀ (j : Nat) (t l : Addr) (v : Int), ts[j]? = some t → H2 t = some (.tup [.int v, .ref l]) → l ≠ lr)) ?_ ?_ ?_ ?_⟩
  ·exact ⟨_, _, _, [], [], rfl, s1, e1, .nil, by simp, rfl, by lia, by simp, by simp⟩
  ·rintro i σ H2 _ ⟨u4, u5, u6, ts, ps, rfl, sm, _⟩
   exact SqL.of (sm _ _ hB)
  ·rintro i x σ H2 hxi ⟨u4, u5, u6, ts, ps, rfl, sm, hR, hP, hne1, hpl, hb, _, hne2⟩
   have hxm := List.mem_of_getElem? hxi
   have hil : i < nums.length := (List.getElem?_eq_some_iff.mp hxi).1
   have htl : ts.length = ps.length := hP.length
   obtain ⟨x0, x1⟩ := hx x hxm
   walk_at "s"
   refine ⟨⟨_, SqL.of (sm _ _ hB)⟩, cp_list (xs := iL nums) (fun j ys H3 => ys = iL (less (nums.take j) x) ∧ j ≤ nums.length ∧ H2 = H3) ⟨rfl, Nat.zero_le _, rfl⟩ ?_ (szlt (by simp [iL]; lia)) ?_ ?_⟩
   ·rintro j ys H3 ⟨rfl, hj, rfl⟩
    refine ⟨SqL.of (sm _ _ hB), ?_⟩
    have : (less (nums.take j) x).length ≤ (nums.take j).length := List.length_filter_le _ _
    simp [iL]
    rw [List.length_take] at this
    lia
   ·rintro j y ys H3 hy ⟨rfl, hj, rfl⟩
    rw [List.getElem?_map] at hy
    obtain ⟨z, hz, rfl⟩ := Option.map_eq_some_iff.mp hy
    have hjl : j < nums.length := (List.getElem?_eq_some_iff.mp hz).1
    have hsn : less (nums.take (j + 1)) x = less (nums.take j) x ++ if z = x then [] else [z] := by
     unfold less
     rw [take_snoc_get hz, List.filter_append]
     by_cases q : z = x <;> simp [q]
    walk_at "s"
    refine i_ifb (fun g => ?_) (fun g => ?_)
    ·have g' : ¬ z = x := by simpa using g
     walk_at "s"
     refine ⟨?_, by lia, rfl⟩
     rw [hsn, if_neg g']
     simp [iL]
    ·have g' : z = x := by simpa using g
     refine ⟨?_, by lia, rfl⟩
     rw [hsn, if_pos g', List.append_nil]
   ·rintro l3 ys H3 ⟨rfl, hj, rfl⟩ h3
    rw [List.take_of_length_le (by simp [iL])]
    have s3 : Same H2 _ := same_upd (o := .lst (iL (less nums x))) h3
    have e3 : upd H2 l3 (.lst (iL (less nums x))) l3 = some (.lst (iL (less nums x))) := upd_same
    generalize upd H2 l3 (.lst (iL (less nums x))) = H3 at *
    have S3 := sm.trans s3
    have hll := less_length nd hxm
    refine ⟨a, l3, us, n, D, less nums x, x, rfl, S3 _ _ hA, hT.more S3, e3, by lia, by lia, nd.filter _, fun y hy => hx y (List.mem_filter.mp hy).1, .inr ⟨x0, x1⟩, fun t4 l4 p H4 s4 h4 hl4 hbest => ?_⟩
    have S4 := S3.trans s4
    have hR4 := s4 _ _ (s3 _ _ hR)
    have hP4 : Paired (PairH H4) ts ps := Paired.mapP hP fun _ _ e => PairH.more e (s3.trans s4)
    walk_at "s"
    refine ⟨_, _, rfl, SqT.of h4, rfl, _, _, rfl, _, _, rfl, rfl, ?_⟩
    walk_at "s"
    refine ⟨.inl ⟨rfl, _, SqL.of hR4⟩, ?_⟩
    obtain ⟨ui, hui⟩ : ∃ ui : Nat, ui < n + 1 ∧ (if ui = n then (-1 : Int) else (ui : Int)) = last ∧ (last = -1 → ui = n) ∧ (last ≠ -1 → last.toNat = ui) := by
     rcases hla with z | ⟨z1, z2⟩
     ·exact ⟨n, by lia, by rw [if_pos rfl, z], fun _ => rfl, fun q => absurd z q⟩
     ·exact ⟨last.toNat, by lia, by rw [if_neg (by lia)]; lia, fun q => by lia, fun _ => rfl⟩
    obtain ⟨g1, g2, g3, g4⟩ := hui
    obtain ⟨u, hu'⟩ : ∃ u, us[ui]? = some u := ⟨_, List.getElem?_eq_getElem (by rw [hT.1]; exact g1)⟩
    obtain ⟨r, hr1, hr2⟩ := hT.2 ui u hu'
    have hrx := hr2 x.toNat (by lia)
    rw [g2, show ((x.toNat : Nat) : Int) = x by lia] at hrx
    have ix : ∀ {Q' : VK}, Q' (.ref u) H4 → rIxP K (.ref a) (.int last) H4 Q' := fun q => by
     by_cases z : last = -1
     ·rw [z]
      have := g3 z
      refine i_ixNeg (SqL.of (S4 _ _ hA)) (by decide) (by simp [hT.1]; lia) (v := .ref u) ?_ q
      rw [List.getElem?_map, List.length_map, hT.1, show ((-1 : Int) + ((n + 1 : Nat) : Int)).toNat = n by lia, ← this, hu']
      rfl
     ·exact i_ixN (SqL.of (S4 _ _ hA)) (by lia) (v := .ref u) (by rw [List.getElem?_map, g4 z, hu']; rfl) q
    walk_at "s"
    refine ix ?_
    walk_at "s"
    refine i_ixN (SqL.of (S4 _ _ hr1)) x0 (v := .int (D last x)) (by rw [List.getElem?_map, hrx]; rfl) ?_
    walk_at "s"
    intro l5 h5
    have s5 : Same H4 _ := same_upd (o := .lst [.int x]) h5
    have e5 : upd H4 l5 (.lst [.int x]) l5 = some (.lst [.int x]) := upd_same
    generalize upd H4 l5 (.lst [.int x]) = H5 at *
    have hpl2 : p.2.length ≤ 1000 := by rw [hbest.1.length_eq]; lia
    walk_at "s"
    refine i_addL e5 (s5 _ _ hl4) (szl (by simp [iL]; lia)) (fun l6 h6 => ?_)
    have s6 : Same H5 _ := same_upd (o := .lst ([V.int x] ++ iL p.2)) h6
    have e6 : upd H5 l6 (.lst ([V.int x] ++ iL p.2)) l6 = some (.lst (iL (x :: p.2))) := upd_same
    generalize upd H5 l6 (.lst ([V.int x] ++ iL p.2)) = H6 at *
    walk_at "s"
    intro t7 h7
    have s7 : Same H6 _ := same_upd (o := .tup [.int (D last x + p.1), .ref l6]) h7
    have e7 : upd H6 t7 (.tup [.int (D last x + p.1), .ref l6]) t7 = some (.tup [.int (D last x + p.1), .ref l6]) := upd_same
    generalize upd H6 t7 (.tup [.int (D last x + p.1), .ref l6]) = H7 at *
    have S7 := s5.trans (s6.trans s7)
    have hR7 := S7 _ _ hR4
    have n6 : l6 ≠ lr := fun z => by rw [z, s5 _ _ hR4] at h6; cases h6
    have n7 : t7 ≠ lr := fun z => by rw [z, s6 _ _ (s5 _ _ hR4)] at h7; cases h7
    refine i_app hR7 (szlt (by simp; lia)) ?_
    rw [show (ts.map V.ref ++ [V.ref t7]) = (ts ++ [t7]).map V.ref by simp]
    have up : ∀ b o, b ≠ lr → H7 b = some o → upd H7 lr (.lst ((ts ++ [t7]).map V.ref)) b = some o := fun b o hb' e => by rw [upd_ne hb']; exact e
    have hP7 : Paired (PairH H7) ts ps := Paired.mapP hP4 fun _ _ e => PairH.more e S7
    have nl7 : ∀ (j : Nat) (t l : Addr) (v : Int), ts[j]? = some t → H7 t = some (.tup [.int v, .ref l]) → l ≠ lr := fun j t l v z1 z2 => by
     obtain ⟨q, hq, l', f1, f2⟩ := paired_getL hP z1
     have f1' := S7 _ _ (s4 _ _ (s3 _ _ f1))
     rw [z2] at f1'
     cases f1'
     exact hne2 j t l _ z1 f1
    refine ⟨_, _, _, ts ++ [t7], ps ++ [(D last x + p.1, x :: p.2)], rfl, fun b o z => ?_, upd_same, ?_, fun t hm' => ?_, by simp; lia, fun j y hj hy => ?_, fun _ _ _ _ => trivial, fun j t l v e1 e2 => ?_⟩
    ·have hb' : b ≠ lr := ne_of_none z h1
     exact up b o hb' (S7 _ _ (S4 _ _ z))
    ·refine Paired.snoc ?_ ⟨l6, up _ _ n7 e7, up _ _ n6 (s7 _ _ e6)⟩
     have go : ∀ {as : List Addr} {bs : List (Int × List Int)}, Paired (PairH H7) as bs → (∀ t ∈ as, t ≠ lr) → (∀ t ∈ as, ∀ l v, H7 t = some (.tup [.int v, .ref l]) → l ≠ lr) → Paired (PairH (upd H7 lr (.lst ((ts ++ [t7]).map V.ref)))) as bs := by
      intro as bs P
      induction P with
      | nil => intro _ _; exact .nil
      | cons r _ ih =>
        intro z1 z2
        obtain ⟨l, f1, f2⟩ := r
        exact .cons ⟨l, up _ _ (z1 _ List.mem_cons_self) f1, up _ _ (z2 _ List.mem_cons_self l _ f1) f2⟩ (ih (fun t ht => z1 t (List.mem_cons_of_mem _ ht)) (fun t ht => z2 t (List.mem_cons_of_mem _ ht)))
     exact go hP7 hne1 fun t ht l v e => by
      obtain ⟨j, hj, rfl⟩ := List.getElem_of_mem ht
      exact nl7 j _ l v (List.getElem?_eq_getElem hj) e
    ·rcases List.mem_append.mp hm' with q | q
     ·exact hne1 t q
     ·simp at q; subst q; exact n7
    ·by_cases q : j < i
     ·obtain ⟨z, z1, z2⟩ := hb j y q hy
      exact ⟨z, z1, by rw [List.getElem?_append_left (by lia)]; exact z2⟩
     ·obtain rfl : j = i := by lia
      rw [hxi] at hy
      cases hy
      exact ⟨p, hbest, by rw [List.getElem?_append_right (by lia), hpl, Nat.sub_self]; rfl⟩
    ·by_cases q : j < ts.length
     ·rw [List.getElem?_append_left q] at e1
      have : t ≠ lr := hne1 t (List.mem_of_getElem? e1)
      rw [upd_ne this] at e2
      exact nl7 j t l v e1 e2
     ·rw [List.getElem?_append_right (by lia)] at e1
      have hj0 : j - ts.length = 0 := by
       have := (List.getElem?_eq_some_iff.mp e1).1
       simp at this
       lia
      rw [hj0] at e1
      cases e1
      rw [upd_ne n7, e7] at e2
      cases e2
      exact n6
  ·rintro σ H2 ⟨u4, u5, u6, ts, ps, rfl, sm, hR, hP, hne1, hpl, hb, _, hne2⟩
   walk_at "s"
   refine ⟨lr, ts, ps, rfl, hR, hP, by rw [hpl]; exact List.length_pos_iff.mpr hne, fun i t q hti hqi hmin => ?_⟩
   obtain ⟨q', hq', l, f1, f2⟩ := paired_getL hP hti
   rw [hqi] at hq'
   cases hq'
   refine k t l q _ sm f1 f2 (IsBest.step (ps := ps) nd (fun p hp => ?_) (fun x hxm => ?_) (List.mem_of_getElem? hqi) hmin hne)
   ·obtain ⟨j, hj, rfl⟩ := List.getElem_of_mem hp
    have hxj := List.getElem?_eq_getElem (show j < nums.length by lia)
    obtain ⟨z, z1, z2⟩ := hb j _ (by lia) hxj
    rw [List.getElem?_eq_getElem hj] at z2
    exact ⟨_, List.getElem_mem _, z, z1, Option.some.inj z2⟩
   ·obtain ⟨j, hj, rfl⟩ := List.getElem_of_mem hxm
    obtain ⟨z, z1, z2⟩ := hb j _ hj (List.getElem?_eq_getElem hj)
    exact ⟨z, z1, List.mem_of_getElem? z2⟩
theorem ok_best_all (T : Txt mg) (D : Def K mg "best_from" s_best_from) : ∀ m, Callee P w K mg base "best_from" (m + 1) (spBest m)
 | 0 => D.ok (k := 0) (sp := spBest 0) sc_best_from bd_best_from (fun vs H Q E h => by obtain ⟨_, _, _, _, _, _, _, _, _, _, _, h, _⟩ := h; exact absurd h (Nat.not_lt_zero _)) (fun f cdv A outer s H vs Q E hr h => by obtain ⟨_, _, _, _, _, _, _, _, _, _, _, h, _⟩ := h; exact absurd h (Nat.not_lt_zero _))
 | m + 1 => ok_best_step T D (ok_best_all T D m)
theorem ok_best_from (T : Txt mg) (D : Def K mg "best_from" s_best_from) : Callee P w K mg base "best_from" 8 (spBest 7) := ok_best_all T D 7
theorem rsum_get (ps : List Int) : ∀ (sts : List Std) (a : Std), rsum ps a sts = (((a :: sts).zip sts).map fun p => lw ps p.1 p.2).sum
 | [], _ => rfl
 | b :: r, a => by
   simp only [rsum, List.zip_cons_cons, List.map_cons, List.sum_cons]
   rw [rsum_get ps r b]
def spRoundE (CT CS : Addr) : Sp := fun vs H Q E => ∃ (a b c : Addr) (ps ws : List Int) (hd : Int) (ts : List Addr) (sts : List Std), vs = [.ref a, .int hd, .ref b, .ref c] ∧ H a = some (.lst (iL ps)) ∧ H b = some (.lst (iL ws)) ∧ H c = some (.lst (ts.map V.ref)) ∧ StsAt H ts sts ∧ sts.length ≤ 1000 ∧
 (isTr ps → stand ps hd ws → (∀ s ∈ sts, okSt ps s) → ∀ H', Same H H' → Q (.int (rsum ps (hd, ws) sts)) H') ∧ Exs E H CT CS (isTr ps) (stand ps hd ws ∧ ∀ s ∈ sts, okSt ps s)
theorem ok_round_way (T : Txt mg) (Z : Cls K mg) (D : Def K mg "round_way" s_round_way) (C_refuse_no_round : CalleeE P w K mg base "refuse_no_round" 5 (spRefRoundE Z.c_NoTrain Z.c_NoStand)) (C_least_of : Callee P w K mg base "least_of" 9 spLeastOf) : CalleeE P w K mg base "round_way" 10 (spRoundE Z.c_NoTrain Z.c_NoStand) := by
 refine Def.okE D sc_round_way bd_round_way (fun vs H Q E h => ?len) (fun f cdv A outer s H vs Q E hr h => ?body)
 case len => obtain ⟨a, b, c, ps, ws, hd, ts, sts, rfl, _⟩ := h; rfl
 case body =>
  obtain ⟨a, b, c, ps, ws, hd, ts, sts, rfl, hA, hB, hC, hT, hl, k, x⟩ := h
  have hu := hr.units
  have htl : ts.length = sts.length := hT.length
  refine ⟨_, (pss_cons (ps_expr (pe_callE C_refuse_no_round (hr.mono (by decide)) (by rfl) (pa_cons (pv 0) (pa_cons (pv 1) (pa_cons (pv 2) (pa_cons (pv 3) pa_nil))))))
 (pss_cons (ps_set (i := 4) sc_round_way.nd rfl (Or.inl rfl) (pe_listZip (by rfl) (by rfl) (by rfl) T.z_list (by rfl) T.z_zip (pa_cons (pe_op op_addP (pe_lst (pa_cons (pe_tup (pa_cons (pv 1) (pa_cons (pv 2) pa_nil))) pa_nil)) (pv 3)) (pa_cons (pv 3) pa_nil))))
 (pss_one (ps_ret (pe_callB (call_sumK K) (by rfl) T.z_sum bt_sum (pa_cons (by exact pe_comp (N := ["at", "places", "end", "goal", "plays"]) (fr := [none, none, none, none, some 0]) ⟨by rfl, by decide +kernel, by decide +kernel, (show ∀ y ∈ (_ : List (Str × NameKind)), y.2 = NameKind.free → (defScope s_round_way).names.lookup y.1 = some .cell ∨ (defScope s_round_way).names.lookup y.1 = some .free by decide +kernel), (fr_none (fr_none (fr_none (fr_none (fr_some (by rfl) (by first | exact Or.inl rfl | exact Or.inr rfl) (by rfl) fr_nil)))))⟩ (by rfl) (pi_listK K (pv 4)) (fun _ _ _ _ => (pg_tupK K 2 (pgs_cons (pg_tupK K 2 (pgs_cons (pg_name (i := 0) (show List.Nodup (["at", "places", "end", "goal", "plays"] : List Str) by decide) (by rfl) (by first | exact Or.inl rfl | exact Or.inr rfl)) (pgs_cons (pg_name (i := 1) (show List.Nodup (["at", "places", "end", "goal", "plays"] : List Str) by decide) (by rfl) (by first | exact Or.inl rfl | exact Or.inr rfl)) pgs_nil))) (pgs_cons (pg_tupK K 2 (pgs_cons (pg_name (i := 2) (show List.Nodup (["at", "places", "end", "goal", "plays"] : List Str) by decide) (by rfl) (by first | exact Or.inl rfl | exact Or.inr rfl)) (pgs_cons (pg_name (i := 3) (show List.Nodup (["at", "places", "end", "goal", "plays"] : List Str) by decide) (by rfl) (by first | exact Or.inl rfl | exact Or.inr rfl)) pgs_nil))) pgs_nil)))) (fun _ _ _ _ => pifs_nil) (fun _ _ _ _ => (pe_callN C_least_of (hr.mono (by decide)) (by rfl) (pa_cons (pv 4) (pa_cons (pv 0) (pa_cons (pv 1) (pa_cons (pv 2) (pa_cons (pv 3) pa_nil))))))) (gw_tup (gws_cons (gw_tup (gws_cons (gw_name (by rfl)) (gws_cons (gw_name (by rfl)) gws_nil))) (gws_cons (gw_tup (gws_cons (gw_name (by rfl)) (gws_cons (gw_name (by rfl)) gws_nil))) gws_nil)))) pa_nil)))))), ?_⟩
  walk_at "un"
  try clear hu
  walk_at "s"
  refine ⟨a, b, c, ps, ws, hd, ts, sts, rfl, hA, hB, hC, hT, fun ht hs hok H0 s0 => ?_, x⟩
  have k := k ht hs hok
  replace hA := s0 _ _ hA
  replace hB := s0 _ _ hB
  replace hC := s0 _ _ hC
  replace hT := stsMore hT s0
  walk_at "s"
  intro t1 h1
  have s1 : Same H0 _ := same_upd (o := .tup [.int hd, .ref b]) h1
  have e1 : upd H0 t1 (.tup [.int hd, .ref b]) t1 = some (.tup [.int hd, .ref b]) := upd_same
  generalize upd H0 t1 (.tup [.int hd, .ref b]) = H1 at *
  walk_at "s"
  intro l2 h2
  have s2 : Same H1 _ := same_upd (o := .lst [.ref t1]) h2
  have e2 : upd H1 l2 (.lst [.ref t1]) l2 = some (.lst [.ref t1]) := upd_same
  generalize upd H1 l2 (.lst [.ref t1]) = H2 at *
  walk_at "s"
  refine i_addL e2 (s2 _ _ (s1 _ _ hC)) (szl (by simp; lia)) (fun l3 h3 => ?_)
  have ea : [V.ref t1] ++ ts.map V.ref = (t1 :: ts).map V.ref := by simp
  rw [ea]
  have s3 : Same H2 _ := same_upd (o := .lst ((t1 :: ts).map V.ref)) h3
  have e3 : upd H2 l3 (.lst ((t1 :: ts).map V.ref)) l3 = some (.lst ((t1 :: ts).map V.ref)) := upd_same
  generalize upd H2 l3 (.lst ((t1 :: ts).map V.ref)) = H3 at *
  have S3 := s1.trans (s2.trans s3)
  have hall : StsAt H3 (t1 :: ts) ((hd, ws) :: sts) := .cons ⟨b, s3 _ _ (s2 _ _ e1), S3 _ _ hB⟩ (stsMore hT S3)
  have hokA : ∀ s ∈ (hd, ws) :: sts, okSt ps s := fun s hs' => by
   rcases List.mem_cons.mp hs' with q | q
   ·subst q; exact hs
   ·exact hok s q
  walk_at "s"
  refine ⟨l3, c, _, _, rfl, SqL.of e3, SqL.of (S3 _ _ hC), fun l4 qs H4 s4 _ e4 hQ _ _ => ?_⟩
  have hAll4 := stsMore hall s4
  have hT4 := stsMore (stsMore hT S3) s4
  have hA4 := s4 _ _ (S3 _ _ hA)
  have S4 := s0.trans (S3.trans s4)
  have hql : qs.length = sts.length := by
   have := hQ.length
   simp at this
   lia
  have hq : ∀ (i : Nat) (t : Addr), qs[i]? = some t → ∃ (ta tb la lb : Addr) (sa sb : Std), H4 t = some (.tup [.ref ta, .ref tb]) ∧ H4 ta = some (.tup [.int sa.1, .ref la]) ∧ H4 la = some (.lst (iL sa.2)) ∧ H4 tb = some (.tup [.int sb.1, .ref lb]) ∧ H4 lb = some (.lst (iL sb.2)) ∧ okSt ps sa ∧ okSt ps sb ∧ (((hd, ws) :: sts).zip sts)[i]? = some (sa, sb) := fun i t hi => by
   obtain ⟨p, hp, _, hp2⟩ := paired_getL hQ hi
   rw [List.getElem?_zip_eq_some] at hp
   obtain ⟨p1, p2⟩ := hp
   rw [List.getElem?_map] at p1 p2
   obtain ⟨ta, ha, hva⟩ := Option.map_eq_some_iff.mp p1
   obtain ⟨tb, hb, hvb⟩ := Option.map_eq_some_iff.mp p2
   obtain ⟨sa, ha1, la, ha2, ha3⟩ := paired_getL hAll4 ha
   obtain ⟨sb, hb1, lb, hb2, hb3⟩ := paired_getL hT4 hb
   refine ⟨ta, tb, la, lb, sa, sb, ?_, ha2, ha3, hb2, hb3, hokA sa (List.mem_of_getElem? ha1), hok sb (List.mem_of_getElem? hb1), ?_⟩
   ·rw [hp2, ← hva, ← hvb]
   ·rw [List.getElem?_zip_eq_some]
    exact ⟨ha1, hb1⟩
  walk_at "s"
  refine ⟨⟨_, SqL.of e4⟩, cp_list (xs := qs.map V.ref) (fun i ys H5 => ys = iL (((((hd, ws) :: sts).zip sts).map fun p => lw ps p.1 p.2).take i) ∧ i ≤ qs.length ∧ Same H4 H5) ⟨by simp, Nat.zero_le _, Same.refl _⟩ ?_ (szlt (by simp; lia)) ?_ ?_⟩
  ·rintro i ys H5 ⟨rfl, hi, sm⟩
   exact ⟨SqL.of (sm _ _ e4), by simp [iL]; lia⟩
  ·rintro i y ys H5 hy ⟨rfl, hi, sm⟩
   rw [List.getElem?_map] at hy
   obtain ⟨t, hti, rfl⟩ := Option.map_eq_some_iff.mp hy
   have hil : i < qs.length := (List.getElem?_eq_some_iff.mp hti).1
   obtain ⟨ta, tb, la, lb, sa, sb, f1, f2, f3, f4, f5, o1, o2, hz⟩ := hq i t hti
   walk_at "s"
   refine ⟨_, _, rfl, SqT.of (sm _ _ f1), rfl, _, _, rfl, _, _, rfl, SqT.of (sm _ _ f2), rfl, _, _, rfl, _, _, rfl, rfl, _, _, rfl, _, _, rfl, SqT.of (sm _ _ f4), rfl, _, _, rfl, _, _, rfl, rfl, rfl, ?_⟩
   walk_at "s"
   refine ⟨a, la, lb, ps, sa.2, sb.2, sa.1, sb.1, rfl, sm _ _ hA4, sm _ _ f3, sm _ _ f5, ht, o1, o2, fun H6 s6 => ?_⟩
   refine ⟨?_, by lia, sm.trans s6⟩
   rw [take_snoc_get (show ((((hd, ws) :: sts).zip sts).map fun p => lw ps p.1 p.2)[i]? = some (lw ps sa sb) by rw [List.getElem?_map, hz]; rfl)]
   simp [iL, lw]
  ·rintro l6 ys H5 ⟨rfl, hi, sm⟩ hl6
   rw [List.take_of_length_le (by simp; lia)]
   refine i_sum (SqL.of upd_same) ?_
   rw [← rsum_get]
   exact k _ (S4.trans (sm.trans (same_upd hl6)))
theorem ways_tabD {us : List Addr} {H : Hp} {ps : List Int} {start : Std} {sts : List Std} (h : TabAt H us (waysT ps start sts)) : TabD us H sts.length (Dw ps start sts) := by
 refine ⟨by have := h.length; simp [waysT] at this; exact this, fun i u hu => ?_⟩
 obtain ⟨r, hr, hR⟩ := paired_getL h hu
 refine ⟨r, hR, fun x hx => ?_⟩
 unfold waysT at hr
 rw [List.getElem?_map] at hr
 obtain ⟨s', hs', rfl⟩ := Option.map_eq_some_iff.mp hr
 rw [List.getElem?_map, List.getElem?_eq_getElem hx]
 unfold Dw
 rw [stA_get (List.getElem?_eq_getElem hx)]
 have e : stA start sts (if i = sts.length then (-1 : Int) else (i : Int)) = s' := by
  by_cases q : i = sts.length
  ·rw [if_pos q]
   rw [q, List.getElem?_append_right (Nat.le_refl _), Nat.sub_self] at hs'
   simp at hs'
   subst hs'
   rfl
  ·rw [if_neg q]
   have : i < (sts ++ [start]).length := (List.getElem?_eq_some_iff.mp hs').1
   simp at this
   rw [List.getElem?_append_left (by lia)] at hs'
   exact stA_get hs'
 rw [e]
 rfl
def spBestE (CT CS : Addr) : Sp := fun vs H Q E => ∃ (a b c : Addr) (ps ws : List Int) (hd : Int) (ts : List Addr) (sts : List Std), vs = [.ref a, .int hd, .ref b, .ref c] ∧ H a = some (.lst (iL ps)) ∧ H b = some (.lst (iL ws)) ∧ H c = some (.lst (ts.map V.ref)) ∧ StsAt H ts sts ∧ ((∀ s ∈ sts, okSt ps s) → sts.length ≤ 6) ∧
 (isTr ps → stand ps hd ws → (∀ s ∈ sts, okSt ps s) → ∀ (t l : Addr) (p : Int × List Int) (H' : Hp), Same H H' → H' t = some (.tup [.ref l, .int p.1]) → H' l = some (.lst (iL p.2)) → IsBest (Dw ps (hd, ws) sts) (-1) (upto sts.length) p → Q (.ref t) H') ∧ Exs E H CT CS (isTr ps) (stand ps hd ws ∧ ∀ s ∈ sts, okSt ps s)
theorem ok_best_round (T : Txt mg) (Z : Cls K mg) (D : Def K mg "best_round" s_best_round) (C_refuse_no_round : CalleeE P w K mg base "refuse_no_round" 5 (spRefRoundE Z.c_NoTrain Z.c_NoStand)) (C_ways_between : Callee P w K mg base "ways_between" 10 spWays) (C_best_from : Callee P w K mg base "best_from" 8 (spBest 7)) : CalleeE P w K mg base "best_round" 11 (spBestE Z.c_NoTrain Z.c_NoStand) := by
 refine Def.okE D sc_best_round bd_best_round (fun vs H Q E h => ?len) (fun f cdv A outer s H vs Q E hr h => ?body)
 case len => obtain ⟨a, b, c, ps, ws, hd, ts, sts, rfl, _⟩ := h; rfl
 case body =>
  obtain ⟨a, b, c, ps, ws, hd, ts, sts, rfl, hA, hB, hC, hT, hl, k, x⟩ := h
  have hu := hr.units
  have htl : ts.length = sts.length := hT.length
  refine ⟨_, (pss_cons (ps_expr (pe_callE C_refuse_no_round (hr.mono (by decide)) (by rfl) (pa_cons (pv 0) (pa_cons (pv 1) (pa_cons (pv 2) (pa_cons (pv 3) pa_nil))))))
 (pss_cons (ps_set (i := 4) sc_best_round.nd rfl (Or.inl rfl) (pe_callN C_ways_between (hr.mono (by decide)) (by rfl) (pa_cons (pv 0) (pa_cons (pv 1) (pa_cons (pv 2) (pa_cons (pv 3) pa_nil))))))
 (pss_cons (ps_asg (pe_callN C_best_from (hr.mono (by decide)) (by rfl) (pa_cons (pv 4) (pa_cons (pe_negK (r := -1) (by decide)) (pa_cons (pe_listRng (by rfl) (by rfl) T.z_list (by rfl) T.z_range (pa_cons (pe_callB (call_lenK K) (by rfl) T.z_len bt_len (pa_cons (pv 3) pa_nil)) pa_nil)) pa_nil)))) (pg_tupK K 2 (pgs_cons (pg_name (i := 5) sc_best_round.nd rfl (Or.inl rfl)) (pgs_cons (pg_name (i := 6) sc_best_round.nd rfl (Or.inl rfl)) pgs_nil))))
 (pss_one (ps_ret (pe_tup (pa_cons (pv 6) (pa_cons (pv 5) pa_nil)))))))), ?_⟩
  walk_at "un"
  try clear hu
  walk_at "s"
  refine ⟨a, b, c, ps, ws, hd, ts, sts, rfl, hA, hB, hC, hT, fun ht hs hok H0 s0 => ?_, x⟩
  have k := k ht hs hok
  have hl := hl hok
  walk_at "s"
  refine ⟨a, b, c, ps, ws, hd, ts, sts, rfl, s0 _ _ hA, s0 _ _ hB, s0 _ _ hC, stsMore hT s0, ht, hs, hok, by lia, fun lw uw H1 s1 e1 hT1 => ?_⟩
  walk_at "s"
  refine i_len (SqL.of (s1 _ _ (s0 _ _ hC))) ?_
  walk_at "s"
  refine ⟨sts.length, by simp [htl], by lia, fun l2 h2 => ?_⟩
  have s2 : Same H1 _ := same_upd (o := .lst (iL ((List.range sts.length).map fun i : Nat => (i : Int)))) h2
  have e2 : upd H1 l2 (.lst (iL ((List.range sts.length).map fun i : Nat => (i : Int)))) l2 = some (.lst (iL (upto sts.length))) := upd_same
  generalize upd H1 l2 (.lst (iL ((List.range sts.length).map fun i : Nat => (i : Int)))) = H2 at *
  walk_at "s"
  refine ⟨lw, l2, uw, sts.length, Dw ps (hd, ws) sts, upto sts.length, -1, rfl, s2 _ _ e1, (ways_tabD hT1).more s2, e2, by rw [upto_length]; lia, by rw [upto_length]; lia, upto_nodup _, fun x hx => mem_upto.mp hx, .inl rfl, fun t3 l3 p H3 s3 h3 hl3 hbest => ?_⟩
  walk_at "s"
  refine ⟨_, _, rfl, SqT.of h3, rfl, _, _, rfl, _, _, rfl, rfl, ?_⟩
  walk_at "s"
  intro t4 h4
  exact k t4 l3 p _ (s0.trans (s1.trans (s2.trans (s3.trans (same_upd h4))))) upd_same (same_upd h4 _ _ hl3) hbest
def spTrain (K : PySem.W.Frag) : Sp := fun vs H Q _ => ∃ (a : Addr) (ns : List Int), vs = [.ref a] ∧ SqL K H a (iL ns) ∧
 ∀ t lp lw ps ws hd H', H t = none → NewI H H' lp ps → NewI H H' lw ws → lp ≠ lw → H' t = some (.tup [.ref lp, .int hd, .ref lw]) → isTr ps → stand ps hd ws → Q (.ref t) H'
theorem ok_law_a_train (T : Txt mg) (D : Def K mg "_law_a_train" s_law_a_train) (C_law_draws : Callee P w K mg base "_law_draws" 1 spDraws) (C_law_cell_at : Callee P w K mg base "_law_cell_at" 1 (spCellAt K)) : Callee P w K mg base "_law_a_train" 2 (spTrain K) := by
 refine D.ok sc_law_a_train bd_law_a_train (fun vs H Q E h => ?len) (fun f cdv A outer s H vs Q E hr h => ?body)
 case len => obtain ⟨a, ns, rfl, _⟩ := h; rfl
 case body =>
  obtain ⟨a, ns, rfl, hS, k⟩ := h
  refine ⟨_, (pss_cons (ps_set (i := 1) sc_law_a_train.nd rfl (Or.inl rfl) (pe_callN C_law_draws (hr.mono (by decide)) (by rfl) (pa_cons (pe_callN C_law_cell_at (hr.mono (by decide)) (by rfl) (pa_cons (pv 0) (pa_cons pe_int pa_nil))) (pa_cons pe_int (pa_cons pe_int pa_nil)))))
 (pss_cons (ps_set (i := 2) sc_law_a_train.nd rfl (Or.inl rfl) (pe_menu (pa_cons (pe_op op_addP pe_int (pe_op op_mod (pe_ix (ix_K K) (pv 1) pe_int (by exact fun _ _ => rfl)) pe_int)) (pa_cons (pe_op op_addP pe_int (pe_op op_mod (pe_ix (ix_K K) (pv 1) pe_int (by exact fun _ _ => rfl)) pe_int)) (pa_cons pe_int pa_nil))) (pe_op op_mod (pe_ix (ix_K K) (pv 1) pe_int (by exact fun _ _ => rfl)) pe_int) (by exact fun _ _ => rfl)))
 (pss_cons (ps_set (i := 3) sc_law_a_train.nd rfl (Or.inl rfl) (pe_menu (pa_cons pe_int (pa_cons pe_int (pa_cons (pe_powK (r := 100000000000000000000) (by decide)) (pa_cons pe_int pa_nil)))) (pe_op op_mod (pe_ix (ix_K K) (pv 1) pe_int (by exact fun _ _ => rfl)) pe_int) (by exact fun _ _ => rfl)))
 (pss_cons (ps_set (i := 4) sc_law_a_train.nd rfl (Or.inl rfl) (pe_callN C_law_draws (hr.mono (by decide)) (by rfl) (pa_cons (pe_callN C_law_cell_at (hr.mono (by decide)) (by rfl) (pa_cons (pv 0) (pa_cons pe_int pa_nil))) (pa_cons pe_int (pa_cons (pe_powK (r := 1000000000) (by decide)) pa_nil)))))
 (pss_cons (ps_set (i := 5) sc_law_a_train.nd rfl (Or.inl rfl) (pe_lst pa_nil))
 (pss_cons (ps_set (i := 6) sc_law_a_train.nd rfl (Or.inl rfl) (pe_lst pa_nil))
 (pss_cons (ps_set (i := 7) sc_law_a_train.nd rfl (Or.inl rfl) (pe_op op_mulP (pe_op op_sub (pe_ix (ix_K K) (pv 1) pe_int (by exact fun _ _ => rfl)) pe_int) (pe_menu (pa_cons pe_int (pa_cons pe_int (pa_cons (pe_powK (r := 1000000000000000000000000) (by decide)) pa_nil))) (pe_op op_mod (pe_ix (ix_K K) (pv 1) pe_int (by exact fun _ _ => rfl)) pe_int) (by exact fun _ _ => rfl))))
 (pss_cons (ps_set (i := 8) sc_law_a_train.nd rfl (Or.inl rfl) (pv 7))
 (pss_cons (ps_for PassesOwn.never rfl (pi_range1 (by rfl) T.z_range (pa_cons (pv 2) pa_nil)) (pg_name (i := 9) sc_law_a_train.nd rfl (Or.inl rfl))
 (pss_cons (ps_set (i := 10) sc_law_a_train.nd rfl (Or.inl rfl) (pe_op op_mod (pe_op op_mulP (pe_ix (ix_K K) (pv 4) (pv 9) (by exact fun _ _ => rfl)) (pe_op op_addP (pe_powK (r := 1000000000000) (by decide)) pe_int)) (pe_op op_addP (pv 3) pe_int)))
 (pss_join (ps_if (pt_cmpR op_gt (pe_op op_mod (pe_ix (ix_K K) (pv 4) (pv 9) (by exact fun _ _ => rfl)) pe_int) pe_int (nomark _))
 (pss_one (ps_set (i := 10) sc_law_a_train.nd rfl (Or.inl rfl) (pe_op op_mod (pe_ix (ix_K K) (pv 4) (pv 9) (by exact fun _ _ => rfl)) (pe_op op_addP (pv 3) pe_int))))
 pss_nil)
 (pss_cons (ps_set (i := 11) sc_law_a_train.nd rfl (Or.inl rfl) (pe_menu (pa_cons (pe_op op_sub pe_int (pv 10)) (pa_cons (pv 10) (pa_cons (pe_op op_sub (pe_op op_mod (pe_op op_mulP (pe_ix (ix_K K) (pv 4) (pe_op op_addP pe_int (pv 9)) (by exact fun _ _ => rfl)) (pe_op op_addP (pe_powK (r := 1000000000000) (by decide)) pe_int)) (pe_op op_addP (pe_op op_mulP pe_int (pv 10)) pe_int)) (pv 10)) pa_nil))) (pe_op op_mod (pe_ix (ix_K K) (pv 4) (pe_op op_addP pe_int (pv 9)) (by exact fun _ _ => rfl)) pe_int) (by exact fun _ _ => rfl)))
 (pss_cons (ps_expr (pe_bmK K PySem.F.plainAttrs_list PySem.F.slot_list_append PySem.F.type_list_append mt_append (pv 5) (pa_cons (pv 10) pa_nil)))
 (pss_cons (ps_set (i := 8) sc_law_a_train.nd rfl (Or.inl rfl) (pe_op op_addP (pv 8) (pv 11)))
 (pss_one (ps_expr (pe_bmK K PySem.F.plainAttrs_list PySem.F.slot_list_append PySem.F.type_list_append mt_append (pv 6) (pa_cons (pv 8) pa_nil))))))))))
 (pss_one (ps_ret (pe_tup (pa_cons (pv 5) (pa_cons (pv 7) (pa_cons (pv 6) pa_nil))))))))))))))), ?_⟩
  walk_at "un"
  try clear hu
  walk_at "s"
  refine ⟨a, ns, 0, rfl, hS, by decide, fun c0 => ?_⟩
  walk_at "s"
  refine ⟨c0, 6, 1000, rfl, by decide, by decide, by decide, by decide, fun lh H1 hs N1 l1 b1 => ?_⟩
  have q1 := SqL.of (K := K) N1.at_
  walk_at "s"
  refine i_ixL q1 (by lia) (by lia) (fun v0 _ m0 => ?_)
  walk_at "s"
  refine i_ixL q1 (by lia) (by lia) (fun v0' _ m0' => ?_)
  walk_at "s"
  refine i_ixL q1 (by lia) (by lia) (fun v1 _ m1 => ?_)
  walk_at "s"
  have e1 := Int.emod_nonneg v0 (show (12 : Int) ≠ 0 by decide)
  have e2 := Int.emod_lt_of_pos v0 (show (0 : Int) < 12 by decide)
  have e3 := Int.emod_nonneg v0' (show (4 : Int) ≠ 0 by decide)
  have e4 := Int.emod_lt_of_pos v0' (show (0 : Int) < 4 by decide)
  refine i_menu3 (Int.emod_nonneg _ (by decide)) (Int.emod_lt_of_pos _ (by decide)) (fun many hm => ?_)
  have hmany : 1 ≤ many ∧ many ≤ 12 := by lia
  clear hm e1 e2 e3 e4
  walk_at "s"
  refine i_ixL q1 (by lia) (by lia) (fun v2 _ m2 => ?_)
  walk_at "s"
  refine i_menu4 (Int.emod_nonneg _ (by decide)) (Int.emod_lt_of_pos _ (by decide)) (fun far hf => ?_)
  have hfar : 0 ≤ far := by lia
  clear hf
  walk_at "s"
  refine ⟨a, ns, 1, rfl, N1.sm.seq hS, by decide, fun c1 => ?_⟩
  walk_at "s"
  refine ⟨c1, 36, 1000000000, rfl, by decide, by decide, by decide, by decide, fun lq H2 pk N2 l2 b2 => ?_⟩
  have q2 := SqL.of (K := K) N2.at_
  have q1' := N2.sm.seq q1
  walk_at "s"
  intro lp hp
  walk_at "s"
  intro lw hw
  walk_at "s"
  have s3 : Same H2 (upd (upd H2 lp (.lst [])) lw (.lst [])) := (same_upd hp).trans (same_upd hw)
  refine i_ixL (s3.seq q1') (by lia) (by lia) (fun v3 _ m3 => ?_)
  have hb3 := b1 _ m3
  walk_at "s"
  refine i_ixL (s3.seq q1') (by lia) (by lia) (fun v4 _ m4 => ?_)
  walk_at "s"
  refine i_menu3 (Int.emod_nonneg _ (by decide)) (Int.emod_lt_of_pos _ (by decide)) (fun sc _ => ?_)
  refine i_mulI (cmul_l (by lia) (by lia)) ?_
  generalize (v3 - 500) * sc = hd
  walk_at "s"
  have hne : lp ≠ lw := ne_of_none upd_same hw
  have hpf : H lp = none := (N1.sm.trans N2.sm).free hp
  have hwf : H lw = none := (N1.sm.trans N2.sm).free ((same_upd hp).free hw)
  refine ⟨by lia, by lia, lp_range (fun i σ H3 => ∃ (ah : Int) (u1 u2 u3 : Option V) (ps ws : List Int), σ = [some (.ref a), some (.ref lh), some (.int many), some (.int far), some (.ref lq), some (.ref lp), some (.ref lw), some (.int hd), some (.int ah), u1, u2, u3] ∧
   Same H2 H3 ∧ H3 lp = some (.lst (iL ps)) ∧ H3 lw = some (.lst (iL ws)) ∧ ps.length = i ∧ ws.length = i ∧ i ≤ 12 ∧ (∀ p ∈ ps, 0 ≤ p) ∧ keeps ps hd ws ∧ lastOf hd ws = ah) ?_ ?_ ?_⟩
  ·exact ⟨hd, _, _, _, [], [], rfl, s3, by rw [upd_ne hne, upd_same]; rfl, upd_same, rfl, rfl, by decide, by simp, trivial, rfl⟩
  ·rintro i σ H3 hi ⟨ah, u1, u2, u3, ps, ws, rfl, sm, hP, hW, lps, lws, hi12, hpos, hk, hlast⟩
   have q3 := sm.seq q2
   walk_at "s"
   refine i_ixL q3 (by lia) (by lia) (fun w0 _ n0 => ?_)
   have c0 := b2 _ n0
   walk_at "s"
   refine i_mulI (cmul_l (by lia) (by lia)) ?_
   walk_at "s"
   have d1 := Int.emod_nonneg (w0 * (1000000000000 + 1)) (show far + 1 ≠ 0 by lia)
   have d2 := Int.emod_lt_of_pos (w0 * (1000000000000 + 1)) (show 0 < far + 1 by lia)
   generalize (w0 * (1000000000000 + 1)) % (far + 1) = play0 at *
   refine ⟨fun σ H4 => ∃ play : Int, σ = [some (.ref a), some (.ref lh), some (.int many), some (.int far), some (.ref lq), some (.ref lp), some (.ref lw), some (.int hd), some (.int ah), some (.int (0 + (i : Int))), some (.int play), u3] ∧ 0 ≤ play ∧ H4 = H3, ?_, ?_⟩
   ·walk_at "s"
    refine i_ixL q3 (by lia) (by lia) (fun w1 _ n1 => ?_)
    walk_at "s"
    refine i_if (fun _ => ?_) (fun _ => ?_)
    ·walk_at "s"
     refine i_ixL q3 (by lia) (by lia) (fun w2 _ n2 => ?_)
     walk_at "s"
     exact ⟨Int.emod_nonneg _ (by lia), rfl⟩
    ·exact ⟨_, rfl, d1, rfl⟩
   ·rintro σ H4 ⟨play, rfl, hp0, rfl⟩
    walk_at "s"
    refine i_ixL q3 (by lia) (by lia) (fun w3 _ n3 => ?_)
    have c3 := b2 _ n3
    walk_at "s"
    refine i_mulI (cmul_l (by lia) (by lia)) ?_
    walk_at "s"
    refine i_mulI (cmul_l (by decide) (by decide)) ?_
    walk_at "s"
    have g1 := Int.emod_nonneg (w3 * (1000000000000 + 1)) (show 2 * play + 1 ≠ 0 by lia)
    have g2 := Int.emod_lt_of_pos (w3 * (1000000000000 + 1)) (show 0 < 2 * play + 1 by lia)
    generalize (w3 * (1000000000000 + 1)) % (2 * play + 1) = sd at *
    refine i_ixL q3 (by lia) (by lia) (fun w4 _ n4 => ?_)
    walk_at "s"
    refine i_menu3 (Int.emod_nonneg _ (by decide)) (Int.emod_lt_of_pos _ (by decide)) (fun side hside => ?_)
    have hs1 : side ≤ play ∧ -play ≤ side := by lia
    clear hside
    walk_at "s"
    refine ⟨.inl ⟨rfl, _, SqL.of hP⟩, ?_⟩
    walk_at "s"
    refine i_app hP (szlt (by simp [iL]; lia)) ?_
    walk_at "s"
    have hW' : upd H4 lp (.lst (iL ps ++ [V.int play])) lw = some (.lst (iL ws)) := by rw [upd_ne hne.symm]; exact hW
    refine ⟨.inl ⟨rfl, _, SqL.of hW'⟩, ?_⟩
    walk_at "s"
    refine i_app hW' (szlt (by simp [iL]; lia)) ?_
    refine ⟨ah + side, _, _, _, ps ++ [play], ws ++ [ah + side], rfl, fun b o e => ?_, ?_, ?_, by simp; lia, by simp; lia, by lia, ?_, keeps_snoc ps ws hd (by lia) hk (by lia) (by lia), lastOf_snoc _ _ _⟩
    ·have e1 : b ≠ lp := ne_of_none e hp
     have e2 : b ≠ lw := ne_of_none e ((same_upd hp).free hw)
     rw [upd_ne e2, upd_ne e1]; exact sm b o e
    ·rw [upd_ne hne, upd_same]; simp [iL]
    ·rw [upd_same]; simp [iL]
    ·intro p hpm
     rcases List.mem_append.mp hpm with z | z
     ·exact hpos p z
     ·simp at z; subst z; exact hp0
  ·rintro σ H3 ⟨ah, u1, u2, u3, ps, ws, rfl, sm, hP, hW, lps, lws, hi12, hpos, hk, hlast⟩
   walk_at "s"
   intro t ht
   have sA : Same H H3 := (N1.sm.trans N2.sm).trans sm
   exact k t lp lw ps ws hd _ (sA.free ht) ⟨hpf, sA.trans (same_upd ht), same_upd ht _ _ hP⟩ ⟨hwf, sA.trans (same_upd ht), same_upd ht _ _ hW⟩ hne upd_same ⟨by lia, by lia, hpos⟩ ⟨by lia, hk⟩
def But (q : Addr) (H H' : Hp) : Prop := ∀ b o, H b = some o → b ≠ q → H' b = some o
theorem putF_le (f : Str) (v : V) : ∀ fs : List (Str × V), (putF f v fs).length ≤ fs.length + 1
 | [] => by simp [putF]
 | (g, x) :: r => by
   unfold putF
   split
   ·simp
   ·have := putF_le f v r
    simp
    lia
theorem i_repL {H : Hp} {Q : VK} {l : Addr} {xs : List V} {k : Int} (h : H l = some (.lst xs)) (h0 : 0 ≤ k) (h1 : k < 1000) (hs : xs.length * k.toNat ≤ 100000) (q : ∀ p, H p = none → Q (.ref p) (upd H p (.lst (List.replicate k.toNat xs).flatten))) : rMulP (.ref l) (.int k) H Q :=
 .inr ⟨l, k, xs, rfl, rfl, h, by lia, by lia, szl hs, q⟩
def spWInitE (C CT CS : Addr) : Sp := fun vs H Q E => ∃ (p dx a b : Addr) (ps ws : List Int) (hd : Int), vs = [.ref p, .ref a, .int hd, .ref b] ∧ H p = some (.ins C dx []) ∧ H a = some (.lst (iL ps)) ∧ H b = some (.lst (iL ws)) ∧ (isTr ps → stand ps hd ws → ∀ H', But p H H' → Q .non H') ∧ Exs E H CT CS (isTr ps) (stand ps hd ws)
theorem ok_Walker___init__ (T : Txt mg) (Z : Cls K mg) (Y : Own K mg) (D : DefM K Y.c_Walker "__init__" "Walker.__init__" s_Walker___init__) (C_refuse_no_stand : CalleeE P w K mg base "refuse_no_stand" 4 (spRefStandE K Z.c_NoTrain Z.c_NoStand)) : CalleeM (CXE P w) P w K mg base Y.c_Walker "__init__" 5 (spWInitE Y.c_Walker Z.c_NoTrain Z.c_NoStand) := by
 refine DefM.okE D sc_Walker___init__ bd_Walker___init__ (fun vs H Q E h => ?len) (fun f cdv A outer s H vs Q E hr h => ?body)
 case len => obtain ⟨p, dx, a, b, ps, ws, hd, rfl, _⟩ := h; rfl
 case body =>
  obtain ⟨p, dx, a, b, ps, ws, hd, rfl, hp, hA, hB, k, x⟩ := h
  have hu := hr.units
  refine ⟨_, (pss_cons (ps_expr (pe_callE C_refuse_no_stand (hr.mono (by decide)) (by rfl) (pa_cons (pv 1) (pa_cons (pv 2) (pa_cons (pv 3) pa_nil)))))
 (pss_cons (ps_fldK K (pv 0) (pe_callTy (call_listK K) (by rfl) T.z_list bt_list (pa_cons (pv 1) pa_nil)) rfl)
 (pss_one (ps_fldK K (pv 0) (pe_lst (pa_cons (pe_tup (pa_cons (pv 2) (pa_cons (pe_callTy (call_listK K) (by rfl) T.z_list bt_list (pa_cons (pv 3) pa_nil)) (pa_cons (pe_op op_mulP (pe_lst (pa_cons pe_int pa_nil)) (pe_callB (call_lenK K) (by rfl) T.z_len bt_len (pa_cons (pv 3) pa_nil))) pa_nil)))) pa_nil)) rfl)))), ?_⟩
  walk_at "un"
  try clear hu
  walk_at "s"
  refine ⟨a, b, ps, ws, hd, rfl, SqL.of hA, SqL.of hB, fun hT hst H1 s1 => ?_, x⟩
  have k := k hT hst
  walk_at "s"
  refine i_listL (SqL.of (s1 _ _ hA)) (fun lp hlp => ?_)
  have s2 : Same H _ := s1.trans (same_upd (o := .lst (iL ps)) hlp)
  generalize upd H1 lp (.lst (iL ps)) = H2 at *
  walk_at "s"
  refine ⟨p, _, dx, _, rfl, s2 _ _ hp, Y.cl_Walker, Y.na_Walker_plays, by simp, ?_⟩
  have b3 : But p H (upd H2 p (.ins Y.c_Walker dx (putF "plays" (.ref lp) []))) := fun b o e n => by rw [upd_ne n]; exact s2 b o e
  have e3 : upd H2 p (.ins Y.c_Walker dx (putF "plays" (.ref lp) [])) p = some (.ins Y.c_Walker dx (putF "plays" (.ref lp) [])) := upd_same
  have nb : b ≠ p := fun z => by rw [z, hp] at hB; cases hB
  have hB3 := b3 _ _ hB nb
  generalize upd H2 p (.ins Y.c_Walker dx (putF "plays" (.ref lp) [])) = H3 at *
  clear s1 s2 hlp
  walk_at "s"
  refine i_listL (SqL.of hB3) (fun lw hlw => ?_)
  walk_at "s"
  intro g4 hg4
  walk_at "s"
  refine i_lenI (SqL.of ((same_upd hg4) _ _ ((same_upd hlw) _ _ hB3))) ?_
  have hwl : ws.length ≤ 12 := by have := hT.2.1; have := hst.1; lia
  walk_at "s"
  refine i_repL (l := g4) (xs := [V.int 0]) upd_same (by lia) (by lia) (by simp; lia) (fun lg hlg => ?_)
  generalize (List.replicate ((ws.length : Nat) : Int).toNat [V.int 0]).flatten = zs at *
  have s5 : Same H3 _ := ((same_upd (o := .lst (iL ws)) hlw).trans (same_upd (o := .lst [V.int 0]) hg4)).trans (same_upd (o := .lst zs) hlg)
  generalize upd (upd (upd H3 lw (.lst (iL ws))) g4 (.lst [V.int 0])) lg (.lst zs) = H5 at *
  walk_at "s"
  intro t ht
  have s6 : Same H3 _ := s5.trans (same_upd (o := .tup [.int hd, .ref lw, .ref lg]) ht)
  generalize upd H5 t (.tup [.int hd, .ref lw, .ref lg]) = H6 at *
  walk_at "s"
  intro ls hls
  have s7 : Same H3 _ := s6.trans (same_upd (o := .lst [.ref t]) hls)
  generalize upd H6 ls (.lst [.ref t]) = H7 at *
  walk_at "s"
  refine ⟨p, _, dx, _, rfl, s7 _ _ e3, Y.cl_Walker, Y.na_Walker_states, by have := putF_le "plays" (.ref lp) ([] : List (Str × V)); simp at this; lia, ?_⟩
  exact k _ (fun b o e n => by rw [upd_ne n]; exact s7 _ _ (b3 b o e n))
theorem flat_ref (n : Nat) (t : Addr) : (List.replicate n [V.ref t]).flatten = (List.replicate n t).map V.ref := by
 induction n with
 | zero => rfl
 | succ n ih => simp only [List.replicate_succ, List.flatten_cons, ih]; rfl
theorem sts_rep {H : Hp} {t : Addr} {s : Std} (h : StsAt H [t] [s]) : ∀ n : Nat, StsAt H (List.replicate n t) (List.replicate n s)
 | 0 => .nil
 | n + 1 => by
   cases h with
   | cons a b => exact .cons a (sts_rep (.cons a b) n)
def spDoor (CT CS : Addr) : Sp := fun vs H Q E => ∃ (a b : Addr) (ps ws : List Int) (hd door odd : Int), vs = [.int door, .ref a, .int hd, .ref b, .int odd] ∧ H a = some (.lst (iL ps)) ∧ H b = some (.lst (iL ws)) ∧ ws.length ≤ 100 ∧ ((odd = 0 ∧ isTr ps ∧ stand ps hd ws) ∨ (odd = 1 ∧ ¬ (isTr ps ∧ stand ps hd ws))) ∧
 (isTr ps → stand ps hd ws → ∀ H', Same H H' → Q .non H') ∧ Exs E H CT CS (isTr ps) (stand ps hd ws)
theorem ok_law_a_door (T : Txt mg) (Z : Cls K mg) (Y : Own K mg) (D : Def K mg "_law_a_door" s_law_a_door) (C_Walker : CalleeC (CXE P w) P w K mg base Y.c_Walker "Walker" 5 (spWInitE Y.c_Walker Z.c_NoTrain Z.c_NoStand)) (C_grabbed : CalleeE P w K mg base "grabbed" 6 (spGrabbedE Z.c_NoTrain Z.c_NoStand Z.c_NoPiece)) (C_grabs_of : CalleeE P w K mg base "grabs_of" 5 (spGrabsE Z.c_NoTrain Z.c_NoStand Z.c_NoPiece)) (C_ranges_of : CalleeE P w K mg base "ranges_of" 6 (spRangesE K Z.c_NoTrain Z.c_NoStand)) (C_stands_within : CalleeE P w K mg base "stands_within" 6 (spWithinOne Z.c_NoTrain Z.c_NoStand)) (C_round_way : CalleeE P w K mg base "round_way" 10 (spRoundE Z.c_NoTrain Z.c_NoStand)) (C_best_round : CalleeE P w K mg base "best_round" 11 (spBestE Z.c_NoTrain Z.c_NoStand)) : CalleeE P w K mg base "_law_a_door" 12 (spDoor Z.c_NoTrain Z.c_NoStand) := by
 refine Def.okE D sc_law_a_door bd_law_a_door (fun vs H Q E h => ?len) (fun f cdv A outer s H vs Q E hr h => ?body)
 case len => obtain ⟨a, b, ps, ws, hd, door, odd, rfl, _⟩ := h; rfl
 case body =>
  obtain ⟨a, b, ps, ws, hd, door, odd, rfl, hA, hB, hwl, ho, k, x⟩ := h
  have hu := hr.units
  refine ⟨_, (pss_cons (ps_set (i := 5) sc_law_a_door.nd rfl (Or.inl rfl) (pe_tup (pa_cons (pv 2) (pa_cons (pe_op op_addP (pv 3) (pe_lst (pa_cons pe_int (pa_cons pe_int pa_nil)))) pa_nil))))
 (pss_one (ps_if (pt_cmpR (op_eqK K hu) (pv 0) pe_int (nomark _))
 (pss_one (ps_expr (pe_makeE C_Walker (hr.mono (by decide)) (by rfl) (pa_cons (pv 1) (pa_cons (pv 2) (pa_cons (pv 3) pa_nil))))))
 (pss_one (ps_if (pt_cmpR (op_eqK K hu) (pv 0) pe_int (nomark _))
 (pss_one (ps_expr (pe_callE C_grabbed (hr.mono (by decide)) (by rfl) (pa_cons (pv 1) (pa_cons (pv 2) (pa_cons (pv 3) (pa_cons (pe_menu (pa_cons (pe_negK (r := -1) (by decide)) (pa_cons pe_int pa_nil)) (pv 4) (by exact fun _ _ => rfl)) (pa_cons pe_int pa_nil))))))))
 (pss_one (ps_if (pt_cmpR (op_eqK K hu) (pv 0) pe_int (nomark _))
 (pss_one (ps_expr (pe_callE C_grabs_of (hr.mono (by decide)) (by rfl) (pa_cons (pv 1) (pa_cons (pv 2) (pa_cons (pv 3) (pa_cons (pe_lst (pa_cons (pe_tup (pa_cons (pe_negK (r := -1) (by decide)) (pa_cons pe_int pa_nil))) (pa_cons (pe_tup (pa_cons (pe_menu (pa_cons (pe_negK (r := -1) (by decide)) (pa_cons pe_int pa_nil)) (pv 4) (by exact fun _ _ => rfl)) (pa_cons pe_int pa_nil))) pa_nil))) pa_nil)))))))
 (pss_one (ps_if (pt_cmpR (op_eqK K hu) (pv 0) pe_int (nomark _))
 (pss_one (ps_expr (pe_callE C_ranges_of (hr.mono (by decide)) (by rfl) (pa_cons (pv 1) (pa_cons (pv 2) (pa_cons (pv 3) (pa_cons (pe_op op_addP (pv 2) (pv 4)) (pa_cons (pe_op op_addP (pv 2) pe_int) pa_nil))))))))
 (pss_one (ps_if (pt_cmpR (op_eqK K hu) (pv 0) pe_int (nomark _))
 (pss_one (ps_expr (pe_callE C_stands_within (hr.mono (by decide)) (by rfl) (pa_cons (pv 1) (pa_cons (pv 2) (pa_cons (pv 3) (pa_cons (pe_op op_addP (pv 2) (pv 4)) (pa_cons (pv 2) pa_nil))))))))
 (pss_one (ps_if (pt_cmpR (op_eqK K hu) (pv 0) pe_int (nomark _))
 (pss_one (ps_expr (pe_callE C_round_way (hr.mono (by decide)) (by rfl) (pa_cons (pv 1) (pa_cons (pv 2) (pa_cons (pv 3) (pa_cons (pe_op op_mulP (pe_lst (pa_cons (pv 5) pa_nil)) (pv 4)) pa_nil)))))))
 (pss_one (ps_expr (pe_callE C_best_round (hr.mono (by decide)) (by rfl) (pa_cons (pv 1) (pa_cons (pv 2) (pa_cons (pv 3) (pa_cons (pe_op op_mulP (pe_lst (pa_cons (pv 5) pa_nil)) (pv 4)) pa_nil)))))))))))))))))))), ?_⟩
  walk_at "un"
  try clear hu
  walk_at "s"
  intro l1 h1
  refine i_addL (a := b) (b := l1) (same_upd h1 _ _ hB) upd_same (szl (by simp; lia)) (fun l2 h2 => ?_)
  have s2 : Same H _ := (same_upd (o := .lst [.int 0, .int 0]) h1).trans (same_upd (o := .lst (iL ws ++ [.int 0, .int 0])) h2)
  have e2 : upd (upd H l1 (.lst [.int 0, .int 0])) l2 (.lst (iL ws ++ [.int 0, .int 0])) l2 = some (.lst (iL (ws ++ [0, 0]))) := by rw [upd_same]; simp [iL]
  generalize upd (upd H l1 (.lst [.int 0, .int 0])) l2 (.lst (iL ws ++ [.int 0, .int 0])) = H2 at *
  walk_at "s"
  intro tb htb
  have s3 : Same H _ := s2.trans (same_upd (o := .tup [.int hd, .ref l2]) htb)
  have e3 : upd H2 tb (.tup [.int hd, .ref l2]) tb = some (.tup [.int hd, .ref l2]) := upd_same
  have f3 := same_upd (o := .tup [.int hd, .ref l2]) htb _ _ e2
  generalize upd H2 tb (.tup [.int hd, .ref l2]) = H3 at *
  have x3 := x.on s3
  have k3 : isTr ps → stand ps hd ws → ∀ H', Same H3 H' → Q .non H' := fun ht hs H' s => k ht hs H' (s3.trans s)
  have hA3 := s3 _ _ hA
  have hB3 := s3 _ _ hB
  have h0 : isTr ps → stand ps hd ws → odd = 0 := fun ht hs => by
   rcases ho with z | z
   ·exact z.1
   ·exact absurd ⟨ht, hs⟩ z.2
  have hodd : 0 ≤ odd ∧ odd ≤ 1 := by rcases ho with z | z <;> (have := z.1; lia)
  clear k x s2 h1 h2 htb hA hB ho
  walk_at "s"
  refine i_if (fun g => ?_) (fun g0 => ?_)
  ·walk_at "s"
   intro q dx nq ndx neq
   have t1 : Same H3 (upd H3 dx (.own q)) := same_upd ndx
   have nq1 : upd H3 dx (.own q) q = none := by rw [upd_ne (Ne.symm neq)]; exact nq
   have t2 : Same H3 (upd (upd H3 dx (.own q)) q (.ins Y.c_Walker dx [])) := t1.trans (same_upd nq1)
   have eq' : upd (upd H3 dx (.own q)) q (.ins Y.c_Walker dx []) q = some (.ins Y.c_Walker dx []) := upd_same
   generalize upd (upd H3 dx (.own q)) q (.ins Y.c_Walker dx []) = H4 at *
   exact ⟨q, dx, a, b, ps, ws, hd, rfl, eq', t2 _ _ hA3, t2 _ _ hB3, fun ht hs H5 kb => ⟨rfl, k3 ht hs _ fun b' o e => kb b' o (t2 b' o e) (ne_of_none e nq)⟩, x3.on t2⟩
  walk_at "s"
  refine i_if (fun g => ?_) (fun g1 => ?_)
  ·walk_at "s"
   refine i_menu2 (by lia) (by lia) (fun pc hpc => ?_)
   refine ⟨a, b, ps, ws, hd, pc, 3, rfl, hA3, hB3, fun ht hs _ t H' s' _ => k3 ht hs H' s', x3, fun ht hs hn => ?_⟩
   have h0 := h0 ht hs
   exact absurd ⟨by lia, by lia⟩ hn
  walk_at "s"
  refine i_if (fun g => ?_) (fun g2 => ?_)
  ·walk_at "s"
   intro q1 n1
   have t1 : Same H3 _ := same_upd (o := .tup [.int (-1), .int 5]) n1
   have u1 : upd H3 q1 (.tup [.int (-1), .int 5]) q1 = some (.tup [.int (-1), .int 5]) := upd_same
   generalize upd H3 q1 (.tup [.int (-1), .int 5]) = H4 at *
   walk_at "s"
   refine i_menu2 (by lia) (by lia) (fun pc hpc => ?_)
   walk_at "s"
   intro q2 n2
   have t2 : Same H4 _ := same_upd (o := .tup [.int pc, .int 3]) n2
   have u2 : upd H4 q2 (.tup [.int pc, .int 3]) q2 = some (.tup [.int pc, .int 3]) := upd_same
   generalize upd H4 q2 (.tup [.int pc, .int 3]) = H5 at *
   walk_at "s"
   intro q3 n3
   have t3 : Same H5 _ := same_upd (o := .lst [.ref q1, .ref q2]) n3
   have u3 : upd H5 q3 (.lst [.ref q1, .ref q2]) q3 = some (.lst [.ref q1, .ref q2]) := upd_same
   generalize upd H5 q3 (.lst [.ref q1, .ref q2]) = H6 at *
   have T6 := t1.trans (t2.trans t3)
   refine ⟨a, b, q3, ps, ws, hd, [q1, q2], [(-1, 5), (pc, 3)], rfl, T6 _ _ hA3, T6 _ _ hB3, u3, .cons (t3 _ _ (t2 _ _ u1)) (.cons (t3 _ _ u2) .nil), by simp, fun ht hs _ l us H' s' _ _ _ => k3 ht hs H' (T6.trans s'), x3.on T6, fun ht hs hn => ?_⟩
   have h0 := h0 ht hs
   refine absurd (fun z hz => ?_) hn
   simp at hz
   rcases hz with rfl | rfl
   ·exact ⟨by simp, by simp; lia⟩
   ·exact ⟨by simp; lia, by simp; lia⟩
  walk_at "s"
  refine i_if (fun g => ?_) (fun g3 => ?_)
  ·walk_at "s"
   exact ⟨a, b, ps, ws, hd, hd + odd, hd + 2, rfl, SqL.of hA3, SqL.of hB3, fun ht hs _ _ l H' s' => k3 ht hs H' s', x3.imp fun ht hs => ⟨hs, by have := h0 ht hs; lia, by lia⟩⟩
  walk_at "s"
  refine i_if (fun g => ?_) (fun g4 => ?_)
  ·walk_at "s"
   exact ⟨a, b, ps, ws, hd, hd + odd, hd, rfl, hA3, hB3, rfl, by lia, fun ht hs _ l H' s' => k3 ht hs H' s', x3.imp fun ht hs => ⟨hs, by have := h0 ht hs; lia, by lia⟩⟩
  walk_at "s"
  refine i_if (fun g => ?_) (fun g5 => ?_)
  ·walk_at "s"
   intro q1 n1
   have t1 : Same H3 _ := same_upd (o := .lst [.ref tb]) n1
   have u1 : upd H3 q1 (.lst [.ref tb]) q1 = some (.lst [.ref tb]) := upd_same
   generalize upd H3 q1 (.lst [.ref tb]) = H4 at *
   walk_at "s"
   refine i_repL u1 (by lia) (by lia) (by simp; lia) (fun q2 n2 => ?_)
   rw [flat_ref]
   have t2 : Same H3 _ := t1.trans (same_upd (o := .lst ((List.replicate odd.toNat tb).map V.ref)) n2)
   have u2 : upd H4 q2 (.lst ((List.replicate odd.toNat tb).map V.ref)) q2 = some (.lst ((List.replicate odd.toNat tb).map V.ref)) := upd_same
   generalize upd H4 q2 (.lst ((List.replicate odd.toNat tb).map V.ref)) = H5 at *
   have hT5 : StsAt H5 (List.replicate odd.toNat tb) (List.replicate odd.toNat (hd, ws ++ [0, 0])) := sts_rep (.cons ⟨l2, t2 _ _ e3, t2 _ _ f3⟩ .nil) _
   exact ⟨a, b, q2, ps, ws, hd, _, _, rfl, t2 _ _ hA3, t2 _ _ hB3, u2, hT5, by simp; lia, fun ht hs _ H' s' => k3 ht hs H' (t2.trans s'), (x3.on t2).imp fun ht hs => ⟨hs, by rw [h0 ht hs]; simp⟩⟩
  ·walk_at "s"
   intro q1 n1
   have t1 : Same H3 _ := same_upd (o := .lst [.ref tb]) n1
   have u1 : upd H3 q1 (.lst [.ref tb]) q1 = some (.lst [.ref tb]) := upd_same
   generalize upd H3 q1 (.lst [.ref tb]) = H4 at *
   walk_at "s"
   refine i_repL u1 (by lia) (by lia) (by simp; lia) (fun q2 n2 => ?_)
   rw [flat_ref]
   have t2 : Same H3 _ := t1.trans (same_upd (o := .lst ((List.replicate odd.toNat tb).map V.ref)) n2)
   have u2 : upd H4 q2 (.lst ((List.replicate odd.toNat tb).map V.ref)) q2 = some (.lst ((List.replicate odd.toNat tb).map V.ref)) := upd_same
   generalize upd H4 q2 (.lst ((List.replicate odd.toNat tb).map V.ref)) = H5 at *
   have hT5 : StsAt H5 (List.replicate odd.toNat tb) (List.replicate odd.toNat (hd, ws ++ [0, 0])) := sts_rep (.cons ⟨l2, t2 _ _ e3, t2 _ _ f3⟩ .nil) _
   exact ⟨a, b, q2, ps, ws, hd, _, _, rfl, t2 _ _ hA3, t2 _ _ hB3, u2, hT5, fun _ => by simp; lia, fun ht hs _ t l p H' s' _ _ _ => k3 ht hs H' (t2.trans s'), (x3.on t2).imp fun ht hs => ⟨hs, by rw [h0 ht hs]; simp⟩⟩
theorem kin_T (Z : Cls K mg) : KinF Z Z.c_NoTrain true false false false false false false false false false false false := ⟨Z.isi_NoTrain, Z.k_NoTrain_NoTrain, Z.k_NoTrain_NoStand, Z.k_NoTrain_NoPaper, Z.k_NoTrain_NoBox, Z.k_NoTrain_NoSwitch, Z.k_NoTrain_NoPlace, Z.k_NoTrain_NoTable, Z.k_NoTrain_NoText, Z.k_NoTrain_NoRow, Z.k_NoTrain_NoPiece, Z.k_NoTrain_NothingLeft, Z.k_NoTrain_TooMany, Z.k_NoTrain_ValueError⟩
theorem kin_S (Z : Cls K mg) : KinF Z Z.c_NoStand false true false false false false false false false false false false := ⟨Z.isi_NoStand, Z.k_NoStand_NoTrain, Z.k_NoStand_NoStand, Z.k_NoStand_NoPaper, Z.k_NoStand_NoBox, Z.k_NoStand_NoSwitch, Z.k_NoStand_NoPlace, Z.k_NoStand_NoTable, Z.k_NoStand_NoText, Z.k_NoStand_NoRow, Z.k_NoStand_NoPiece, Z.k_NoStand_NothingLeft, Z.k_NoStand_TooMany, Z.k_NoStand_ValueError⟩
theorem due_T : dueX "NoTrain" = [true, false, false, false, false, false, false, false, false, false, false, false, true] := by decide +kernel
theorem due_S : dueX "NoStand" = [false, true, false, false, false, false, false, false, false, false, false, false, true] := by decide +kernel
def spAsked : Sp := fun vs H Q _ => ∃ (t a b : Addr) (ps ws : List Int) (hd door odd : Int) (G : List Bool → Prop), vs = [.int door, .ref t, .int odd] ∧ H t = some (.tup [.ref a, .int hd, .ref b]) ∧ H a = some (.lst (iL ps)) ∧ H b = some (.lst (iL ws)) ∧ ws.length ≤ 100 ∧ ((odd = 0 ∧ isTr ps ∧ stand ps hd ws) ∨ (odd = 1 ∧ ¬ (isTr ps ∧ stand ps hd ws))) ∧
 (isTr ps → stand ps hd ws → G []) ∧ (¬ isTr ps → G (dueX "NoTrain")) ∧ (isTr ps → ¬ stand ps hd ws → G (dueX "NoStand")) ∧ ∀ l bs H', Same H H' → H' l = some (.lst (bL bs)) → G bs → Q (.ref l) H'
theorem ok_law_asked (T : Txt mg) (Z : Cls K mg) (D : Def K mg "_law_asked" s_law_asked) (C_law_a_door : CalleeE P w K mg base "_law_a_door" 12 (spDoor Z.c_NoTrain Z.c_NoStand)) (C_law_a_kin : CalleeN P w K mg base "_law_a_kin" 1 (spKinG Z)) : Callee P w K mg base "_law_asked" 13 spAsked := by
 refine D.ok sc_law_asked bd_law_asked (fun vs H Q E h => ?len) (fun f cdv A outer s H vs Q E hr h => ?body)
 case len => obtain ⟨t, a, b, ps, ws, hd, door, odd, G, rfl, _⟩ := h; rfl
 case body =>
  obtain ⟨t, a, b, ps, ws, hd, door, odd, G, rfl, hT, hA, hB, hwl, ho, g0, gT, gS, k⟩ := h
  have hu := hr.units
  refine ⟨_, (pss_cons (ps_set (i := 3) sc_law_asked.nd rfl (Or.inl rfl) (pe_lst pa_nil))
 (pss_join (ps_try (TC := Z.c_TrainError) (j := 4) rfl rfl rfl Z.m_TrainError (by rfl) sc_law_asked.nd rfl rfl rfl (fun pins ξ Ex hp => (pss_one (ps_expr (pe_callS C_law_a_door (hr.mono (by decide)) (by rfl) hp (pa_cons (pv 0) (pa_cons (pe_ix (ix_K K) (pv 1) pe_int (by exact fun _ _ => rfl)) (pa_cons (pe_ix (ix_K K) (pv 1) pe_int (by exact fun _ _ => rfl)) (pa_cons (pe_ix (ix_K K) (pv 1) pe_int (by exact fun _ _ => rfl)) (pa_cons (pv 2) pa_nil))))))))) (fun pins e => (pss_one (ps_set (i := 3) sc_law_asked.nd rfl (Or.inl rfl) (pe_callC C_law_a_kin ((hr.mono (by decide)).noted _) (by rfl) (pa_cons (pv 4) pa_nil))))))
 (pss_one (ps_ret (pv 3))))), ?_⟩
  walk_at "un"
  try clear hu
  walk_at "s"
  intro l1 h1
  have s1 : Same H _ := same_upd (o := .lst []) h1
  have e1 : upd H l1 (.lst []) l1 = some (.lst []) := upd_same
  generalize upd H l1 (.lst []) = H1 at *
  walk_at "s"
  refine ⟨fun σ H8 => ∃ (lk : Addr) (bs : List Bool) (u : Option V), σ = [some (.int door), some (.ref t), some (.int odd), some (.ref lk), u] ∧ Same H H8 ∧ H8 lk = some (.lst (bL bs)) ∧ G bs, ?_, ?_⟩
  ·walk_at "s"
   refine i_ixT (SqT.of (s1 _ _ hT)) (by decide) rfl ?_
   walk_at "s"
   refine i_ixT (SqT.of (s1 _ _ hT)) (by decide) rfl ?_
   walk_at "s"
   refine i_ixT (SqT.of (s1 _ _ hT)) (by decide) rfl ?_
   walk_at "s"
   refine ⟨a, b, ps, ws, hd, door, odd, rfl, s1 _ _ hA, s1 _ _ hB, hwl, ho, fun ht hs H8 s8 => ?_, ⟨fun hn H8 s8 => ?_, fun ht hn H8 s8 => ?_⟩⟩
   ·exact ⟨l1, [], _, rfl, s1.trans s8, s8 _ _ e1, g0 ht hs⟩
   ·refine ⟨Z.e_NoTrain, fun e he => ?_⟩
    walk_at "s"
    refine ⟨e, _, _, _, _, _, _, _, _, _, _, _, _, _, rfl, upd_same, kin_T Z, fun lk H9 s9 hk => ?_⟩
    have := gT hn
    rw [due_T] at this
    exact ⟨lk, _, _, rfl, (s1.trans s8).trans ((same_upd he).trans s9), hk, this⟩
   ·refine ⟨Z.e_NoStand, fun e he => ?_⟩
    walk_at "s"
    refine ⟨e, _, _, _, _, _, _, _, _, _, _, _, _, _, rfl, upd_same, kin_S Z, fun lk H9 s9 hk => ?_⟩
    have := gS ht hn
    rw [due_S] at this
    exact ⟨lk, _, _, rfl, (s1.trans s8).trans ((same_upd he).trans s9), hk, this⟩
  rintro σ H8 ⟨lk, bs, u, rfl, s8, hk, hg⟩
  walk_at "s"
  exact k lk bs _ s8 hk hg
theorem bad_set {z : Int} : ∀ {ps xs : List Int} {a x p : Int} {i : Nat}, keeps ps a xs → xs[i]? = some x → ps[i]? = some p → (z - x > 2 * p ∨ x - z > 2 * p) → ¬ keeps ps a (xs.set i z)
 | [], _, _, _, _, i, _, _, h, _ => by simp at h
 | _ :: _, [], _, _, _, i, _, h, _, _ => by simp at h
 | q :: ps, y :: ys, a, x, p, 0, hk, hx, hp, hz => by
   simp at hx hp
   subst hx hp
   intro h
   have h1 := hk.1
   have h2 : z - a ≤ q ∧ a - z ≤ q := h.1
   lia
 | q :: ps, y :: ys, a, x, p, i + 1, hk, hx, hp, hz => by
   intro h
   exact bad_set hk.2 (by simpa using hx) (by simpa using hp) hz h.2
theorem sum_ge : ∀ {ps : List Int} {p : Int}, (∀ q ∈ ps, 0 ≤ q) → p ∈ ps → p ≤ ps.sum ∧ 0 ≤ ps.sum
 | [], _, _, h => by cases h
 | q :: ps, p, h0, h => by
   have hq := h0 q (by simp)
   have nn : ∀ l : List Int, (∀ q ∈ l, 0 ≤ q) → 0 ≤ l.sum := fun l => by
    induction l with
    | nil => intro _; simp
    | cons b l ih => intro hl; have := ih fun q hq => hl q (by simp [hq]); have := hl b (by simp); simp; lia
   have hn := nn ps fun q hq => h0 q (by simp [hq])
   simp only [List.sum_cons]
   rcases List.mem_cons.mp h with rfl | h
   ·lia
   ·have := sum_ge (fun q hq => h0 q (by simp [hq])) h
    lia
theorem bad_hd {ps ws : List Int} {hd x p : Int} (hx : ws[0]? = some x) (hp : ps[0]? = some p) (hz : hd - x > p ∨ x - hd > p) : ¬ stand ps hd ws := by
 rintro ⟨_, h⟩
 cases ps with
 | nil => simp at hp
 | cons q ps =>
   cases ws with
   | nil => simp at hx
   | cons y ws =>
     simp at hx hp
     subst hx hp
     have := h.1
     lia
theorem sIx_neg' (n d : Nat) {k : Nat} (hk : 0 < k) : HT.sIx n d (some (-(k : Int))) = n - k := by
 unfold HT.sIx
 simp only
 split <;> (try split) <;> lia
theorem cut_but1 {ws : List Int} : cutV (iL ws) none (some (-1)) = iL (ws.take (ws.length - 1)) := by
 unfold cutV
 rw [show ((-1 : Int)) = -((1 : Nat) : Int) from rfl, sIx_neg' _ _ (by decide)]
 simp [HT.sIx, iL]
theorem cut_end1 {ws : List Int} : cutV (iL ws) (some (-1)) none = iL (ws.drop (ws.length - 1)) := by
 unfold cutV
 rw [show ((-1 : Int)) = -((1 : Nat) : Int) from rfl, sIx_neg' _ _ (by decide)]
 simp [HT.sIx, iL]
 exact List.take_of_length_le (by simp)
def DueS (ps : List Int) (hd : Int) (ws : List Int) (d : Str) : Prop := (d = "NoTrain" ∧ ¬ isTr ps) ∨ (d = "NoStand" ∧ isTr ps ∧ ¬ stand ps hd ws) ∨ (d = "" ∧ isTr ps ∧ stand ps hd ws)
def spSpoilt : Sp := fun vs H Q _ => ∃ (t a b c : Addr) (ps ws pk : List Int) (hd : Int), vs = [.ref t, .ref c] ∧ H t = some (.tup [.ref a, .int hd, .ref b]) ∧ H a = some (.lst (iL ps)) ∧ H b = some (.lst (iL ws)) ∧ H c = some (.lst (iL pk)) ∧ pk.length = 3 ∧ isTr ps ∧ stand ps hd ws ∧
 ∀ t' lp lw ps' ws' hd' d H', Same H H' → H' t' = some (.tup [.ref lp, .int hd', .ref lw, .str d]) → H' lp = some (.lst (iL ps')) → H' lw = some (.lst (iL ws')) → ps'.length ≤ 13 → ws'.length ≤ 13 → DueS ps' hd' ws' d → Q (.ref t') H'
theorem ok_law_a_spoilt (T : Txt mg) (D : Def K mg "_law_a_spoilt" s_law_a_spoilt) : Callee P w K mg base "_law_a_spoilt" 1 spSpoilt := by
 refine D.ok sc_law_a_spoilt bd_law_a_spoilt (fun vs H Q E h => ?len) (fun f cdv A outer s H vs Q E hr h => ?body)
 case len => obtain ⟨t, a, b, c, ps, ws, pk, hd, rfl, _⟩ := h; rfl
 case body =>
  obtain ⟨t, a, b, c, ps, ws, pk, hd, rfl, hT, hA, hB, hC, hpk, ht, hs, k⟩ := h
  have hu := hr.units
  have hp1 := ht.1
  have hp2 := ht.2.1
  have hwl := hs.1
  refine ⟨_, (pss_cons (ps_asg (pe_lst (pa_cons (pe_callTy (call_listK K) (by rfl) T.z_list bt_list (pa_cons (pe_ix (ix_K K) (pv 0) pe_int (by exact fun _ _ => rfl)) pa_nil)) (pa_cons (pe_ix (ix_K K) (pv 0) pe_int (by exact fun _ _ => rfl)) (pa_cons (pe_callTy (call_listK K) (by rfl) T.z_list bt_list (pa_cons (pe_ix (ix_K K) (pv 0) pe_int (by exact fun _ _ => rfl)) pa_nil)) pa_nil)))) (pg_lstK K 3 (pgs_cons (pg_name (i := 2) sc_law_a_spoilt.nd rfl (Or.inl rfl)) (pgs_cons (pg_name (i := 3) sc_law_a_spoilt.nd rfl (Or.inl rfl)) (pgs_cons (pg_name (i := 4) sc_law_a_spoilt.nd rfl (Or.inl rfl)) pgs_nil)))))
 (pss_cons (ps_set (i := 5) sc_law_a_spoilt.nd rfl (Or.inl rfl) (pe_op op_mod (pe_ix (ix_K K) (pv 1) pe_int (by exact fun _ _ => rfl)) (pe_callB (call_lenK K) (by rfl) T.z_len bt_len (pa_cons (pv 2) pa_nil))))
 (pss_cons (ps_set (i := 6) sc_law_a_spoilt.nd rfl (Or.inl rfl) (pe_op op_mod (pe_ix (ix_K K) (pv 1) pe_int (by exact fun _ _ => rfl)) pe_int))
 (pss_cons (ps_if (pt_cmpR (op_eqK K hu) (pv 6) pe_int (nomark _))
 (pss_one (ps_ret (pe_tup (pa_cons (pe_menu (pa_cons (pe_lst pa_nil) (pa_cons (pe_op op_mulP (pe_lst (pa_cons pe_int pa_nil)) pe_int) pa_nil)) (pe_op op_mod (pe_ix (ix_K K) (pv 1) pe_int (by exact fun _ _ => rfl)) pe_int) (by exact fun _ _ => rfl)) (pa_cons (pv 3) (pa_cons (pv 4) (pa_cons pe_str pa_nil)))))))
 pss_nil)
 (pss_cons (ps_if (pt_cmpR (op_eqK K hu) (pv 6) pe_int (nomark _))
 (pss_cons (ps_asg (pe_op op_sub (pe_negK (r := -1) (by decide)) (pe_op op_mod (pe_ix (ix_K K) (pv 1) pe_int (by exact fun _ _ => rfl)) pe_int)) (pg_sub (pv 2) (pv 5) set_list))
 (pss_one (ps_ret (pe_tup (pa_cons (pv 2) (pa_cons (pv 3) (pa_cons (pv 4) (pa_cons pe_str pa_nil))))))))
 pss_nil)
 (pss_cons (ps_if (pt_cmpR (op_eqK K hu) (pv 6) pe_int (nomark _))
 (pss_cons (ps_set (i := 7) sc_law_a_spoilt.nd rfl (Or.inl rfl) (pe_lst (pa_cons (pe_slice (sl_listK K) (pv 4) po_none (po_some (pe_negK (r := -1) (by decide)))) (pa_cons (pe_op op_addP (pv 4) (pe_slice (sl_listK K) (pv 4) (po_some (pe_negK (r := -1) (by decide))) po_none)) (pa_cons (pe_lst pa_nil) pa_nil)))))
 (pss_one (ps_ret (pe_tup (pa_cons (pv 2) (pa_cons (pv 3) (pa_cons (pe_ix (ix_K K) (pv 7) (pe_op op_mod (pe_ix (ix_K K) (pv 1) pe_int (by exact fun _ _ => rfl)) pe_int) (by exact fun _ _ => rfl)) (pa_cons pe_str pa_nil))))))))
 pss_nil)
 (pss_cons (ps_if (pt_cmpR (op_eqK K hu) (pv 6) pe_int (nomark _))
 (pss_cons (ps_asg (pe_op op_addP (pe_ix (ix_K K) (pv 4) (pv 5) (by exact fun _ _ => rfl)) (pe_op op_mulP (pe_menu (pa_cons pe_int (pa_cons (pe_negK (r := -1) (by decide)) pa_nil)) (pe_op op_mod (pe_ix (ix_K K) (pv 1) pe_int (by exact fun _ _ => rfl)) pe_int) (by exact fun _ _ => rfl)) (pe_op op_addP (pe_op op_mulP pe_int (pe_callB (call_sumK K) (by rfl) T.z_sum bt_sum (pa_cons (pv 2) pa_nil))) pe_int))) (pg_sub (pv 4) (pv 5) set_list))
 (pss_one (ps_ret (pe_tup (pa_cons (pv 2) (pa_cons (pv 3) (pa_cons (pv 4) (pa_cons pe_str pa_nil))))))))
 pss_nil)
 (pss_cons (ps_if (pt_cmpR (op_eqK K hu) (pv 6) pe_int (nomark _))
 (pss_one (ps_ret (pe_tup (pa_cons (pv 2) (pa_cons (pe_op op_addP (pe_ix (ix_K K) (pv 4) pe_int (by exact fun _ _ => rfl)) (pe_op op_mulP (pe_menu (pa_cons pe_int (pa_cons (pe_negK (r := -1) (by decide)) pa_nil)) (pe_op op_mod (pe_ix (ix_K K) (pv 1) pe_int (by exact fun _ _ => rfl)) pe_int) (by exact fun _ _ => rfl)) (pe_op op_addP (pe_ix (ix_K K) (pv 2) pe_int (by exact fun _ _ => rfl)) pe_int))) (pa_cons (pv 4) (pa_cons pe_str pa_nil)))))))
 pss_nil)
 (pss_one (ps_ret (pe_tup (pa_cons (pv 2) (pa_cons (pv 3) (pa_cons (pv 4) (pa_cons pe_str pa_nil))))))))))))))), ?_⟩
  walk_at "un"
  try clear hu
  walk_at "s"
  refine i_ixT (SqT.of hT) (by decide) rfl ?_
  walk_at "s"
  refine i_listL (SqL.of hA) (fun lp hlp => ?_)
  have s1 : Same H _ := same_upd (o := .lst (iL ps)) hlp
  have e1 : upd H lp (.lst (iL ps)) lp = some (.lst (iL ps)) := upd_same
  generalize upd H lp (.lst (iL ps)) = H1 at *
  walk_at "s"
  refine i_ixT (SqT.of (s1 _ _ hT)) (by decide) rfl ?_
  walk_at "s"
  refine i_ixT (SqT.of (s1 _ _ hT)) (by decide) rfl ?_
  walk_at "s"
  refine i_listL (SqL.of (s1 _ _ hB)) (fun lw hlw => ?_)
  have s2 : Same H1 _ := same_upd (o := .lst (iL ws)) hlw
  have e2 : upd H1 lw (.lst (iL ws)) lw = some (.lst (iL ws)) := upd_same
  have fw : H lw = none := s1.free hlw
  have nlw : lp ≠ lw := fun z => by rw [← z, e1] at hlw; cases hlw
  generalize upd H1 lw (.lst (iL ws)) = H2 at *
  have S2 := s1.trans s2
  have f2 := s2 _ _ e1
  walk_at "s"
  intro l3 h3
  have s3 : Same H2 _ := same_upd (o := .lst [.ref lp, .int hd, .ref lw]) h3
  have e3 : upd H2 l3 (.lst [.ref lp, .int hd, .ref lw]) l3 = some (.lst [.ref lp, .int hd, .ref lw]) := upd_same
  generalize upd H2 l3 (.lst [.ref lp, .int hd, .ref lw]) = H3 at *
  have S3 := S2.trans s3
  have f3 := s3 _ _ f2
  have g3 := s3 _ _ e2
  have nlp : H lp = none := hlp
  refine ⟨_, _, rfl, SqL.of e3, rfl, _, _, rfl, _, _, rfl, _, _, rfl, rfl, ?_⟩
  have it : ∀ {Q' : VK} {H' : Hp} {j : Int}, Same H H' → 0 ≤ j → j < 3 → (∀ v, Q' (.int v) H') → rIxP K (.ref c) (.int j) H' Q' := fun e h0 h1 q => i_ixL (SqL.of (e _ _ hC)) h0 (by lia) fun v _ m => q v
  clear s1 s2 s3 e1 f2 e2 hlw e3 h3 S2 hT hA hB
  walk_at "s"
  refine it S3 (by lia) (by lia) (fun v1 => ?_)
  walk_at "s"
  refine i_lenI (SqL.of f3) ?_
  walk_at "s"
  refine it S3 (by lia) (by lia) (fun v0 => ?_)
  walk_at "s"
  have r3 := Int.emod_nonneg v1 (show (ps.length : Int) ≠ 0 by lia)
  have r4 := Int.emod_lt_of_pos v1 (show 0 < (ps.length : Int) by lia)
  generalize v1 % (ps.length : Int) = at_ at *
  generalize v0 % 7 = form at *
  refine i_if (fun g => ?_) (fun g0 => ?_)
  ·walk_at "s"
   intro q1 hq1
   have s4 : Same H3 _ := same_upd (o := .lst []) hq1
   have e4 : upd H3 q1 (.lst []) q1 = some (.lst (iL [])) := upd_same
   generalize upd H3 q1 (.lst []) = H4 at *
   walk_at "s"
   intro q2 hq2
   have s5 : Same H4 _ := same_upd (o := .lst [.int 1]) hq2
   have e5 : upd H4 q2 (.lst [.int 1]) q2 = some (.lst [.int 1]) := upd_same
   generalize upd H4 q2 (.lst [.int 1]) = H5 at *
   walk_at "s"
   refine i_repL e5 (by decide) (by decide) (by simp) (fun q3 hq3 => ?_)
   have s6 : Same H5 _ := same_upd (o := .lst (List.replicate (13 : Int).toNat [V.int 1]).flatten) hq3
   have e6 : upd H5 q3 (.lst (List.replicate (13 : Int).toNat [V.int 1]).flatten) q3 = some (.lst (iL (List.replicate 13 1))) := upd_same
   generalize upd H5 q3 (.lst (List.replicate (13 : Int).toNat [V.int 1]).flatten) = H6 at *
   have S6 := ((S3.trans s4).trans s5).trans s6
   have e7 := s6 _ _ (s5 _ _ e4)
   have g7 := s6 _ _ (s5 _ _ (s4 _ _ g3))
   walk_at "s"
   refine it S6 (by lia) (by lia) (fun v2 => ?_)
   walk_at "s"
   have r5 := Int.emod_nonneg v2 (show (2 : Int) ≠ 0 by decide)
   have r6 := Int.emod_lt_of_pos v2 (show 0 < (2 : Int) by decide)
   generalize v2 % 2 = v2 at *
   refine i_menu r5 (by simpa using r6) (fun u hu2 => ?_)
   obtain ⟨q, qs, rfl, eq_, hql, hqt⟩ : ∃ (q : Addr) (qs : List Int), u = .ref q ∧ H6 q = some (.lst (iL qs)) ∧ qs.length ≤ 13 ∧ ¬ isTr qs := by
    rcases show v2 = 0 ∨ v2 = 1 by lia with rfl | rfl
    ·simp at hu2
     exact ⟨q1, [], hu2.symm, e7, by decide, fun z => absurd z.1 (by decide)⟩
    ·simp at hu2
     exact ⟨q3, _, hu2.symm, e6, by decide, fun z => absurd z.2.1 (by decide)⟩
   walk_at "s"
   intro t5 h5
   exact k t5 q lw qs ws hd "NoTrain" _ (S6.trans (same_upd h5)) upd_same (same_upd h5 _ _ eq_) (same_upd h5 _ _ g7) hql (by lia) (.inl ⟨rfl, hqt⟩)
  walk_at "s"
  refine i_if (fun g => ?_) (fun g1 => ?_)
  ·walk_at "s"
   refine it S3 (by lia) (by lia) (fun v2 => ?_)
   walk_at "s"
   refine ⟨lp, _, at_, at_.toNat, rfl, rfl, f3, ixN_pos r3 (by simp [iL]; lia), ?_⟩
   have r5 := Int.emod_nonneg v2 (show (3 : Int) ≠ 0 by decide)
   rw [show ∀ z, (iL ps).set at_.toNat (V.int z) = iL (ps.set at_.toNat z) from fun z => by simp [iL]]
   have s4 : Same H (upd H3 lp (.lst (iL (ps.set at_.toNat (-1 - v2 % 3))))) := fun q o e => by
    rw [upd_ne (ne_of_none e nlp)]
    exact S3 _ _ e
   have e4 : upd H3 lp (.lst (iL (ps.set at_.toNat (-1 - v2 % 3)))) lp = some (.lst (iL (ps.set at_.toNat (-1 - v2 % 3)))) := upd_same
   have g4 : upd H3 lp (.lst (iL (ps.set at_.toNat (-1 - v2 % 3)))) lw = some (.lst (iL ws)) := by rw [upd_ne (Ne.symm nlw)]; exact g3
   generalize upd H3 lp (.lst (iL (ps.set at_.toNat (-1 - v2 % 3)))) = H4 at *
   walk_at "s"
   intro t5 h5
   refine k t5 lp lw _ ws hd "NoTrain" _ (s4.trans (same_upd h5)) upd_same (same_upd h5 _ _ e4) (same_upd h5 _ _ g4) (by simp; lia) (by lia) (.inl ⟨rfl, fun z => ?_⟩)
   have hm : (-1 - v2 % 3) ∈ ps.set at_.toNat (-1 - v2 % 3) := List.mem_iff_getElem?.mpr ⟨at_.toNat, by rw [List.getElem?_set_self (by lia)]⟩
   have := z.2.2 _ hm
   lia
  walk_at "s"
  refine i_if (fun g => ?_) (fun g2 => ?_)
  ·walk_at "s"
   refine ⟨lw, _, rfl, SqL.of g3, fun q1 hq1 => ?_⟩
   rw [cut_but1]
   have s4 : Same H3 _ := same_upd (o := .lst (iL (ws.take (ws.length - 1)))) hq1
   have e4 : upd H3 q1 (.lst (iL (ws.take (ws.length - 1)))) q1 = some (.lst (iL (ws.take (ws.length - 1)))) := upd_same
   generalize upd H3 q1 (.lst (iL (ws.take (ws.length - 1)))) = H4 at *
   walk_at "s"
   refine ⟨lw, _, rfl, SqL.of (s4 _ _ g3), fun q2 hq2 => ?_⟩
   rw [cut_end1]
   have s5 : Same H4 _ := same_upd (o := .lst (iL (ws.drop (ws.length - 1)))) hq2
   have e5 : upd H4 q2 (.lst (iL (ws.drop (ws.length - 1)))) q2 = some (.lst (iL (ws.drop (ws.length - 1)))) := upd_same
   generalize upd H4 q2 (.lst (iL (ws.drop (ws.length - 1)))) = H5 at *
   walk_at "s"
   refine i_addL (s5 _ _ (s4 _ _ g3)) e5 (by simp [iL, sizeLine]; lia) (fun q3 hq3 => ?_)
   have s6 : Same H5 _ := same_upd (o := .lst (iL ws ++ iL (ws.drop (ws.length - 1)))) hq3
   have e6 : upd H5 q3 (.lst (iL ws ++ iL (ws.drop (ws.length - 1)))) q3 = some (.lst (iL (ws ++ ws.drop (ws.length - 1)))) := by rw [upd_same]; simp [iL]
   generalize upd H5 q3 (.lst (iL ws ++ iL (ws.drop (ws.length - 1)))) = H6 at *
   walk_at "s"
   intro q4 hq4
   have s7 : Same H6 _ := same_upd (o := .lst []) hq4
   have e7 : upd H6 q4 (.lst []) q4 = some (.lst (iL [])) := upd_same
   generalize upd H6 q4 (.lst []) = H7 at *
   walk_at "s"
   intro q5 hq5
   have s8 : Same H7 _ := same_upd (o := .lst [.ref q1, .ref q3, .ref q4]) hq5
   have e8 : upd H7 q5 (.lst [.ref q1, .ref q3, .ref q4]) q5 = some (.lst [.ref q1, .ref q3, .ref q4]) := upd_same
   generalize upd H7 q5 (.lst [.ref q1, .ref q3, .ref q4]) = H8 at *
   have S8 := ((((S3.trans s4).trans s5).trans s6).trans s7).trans s8
   have f8 := s8 _ _ (s7 _ _ (s6 _ _ (s5 _ _ (s4 _ _ f3))))
   have e4 := s8 _ _ (s7 _ _ (s6 _ _ (s5 _ _ e4)))
   have e6 := s8 _ _ (s7 _ _ e6)
   have e7 := s8 _ _ e7
   walk_at "s"
   refine it S8 (by lia) (by lia) (fun v2 => ?_)
   walk_at "s"
   have r5 := Int.emod_nonneg v2 (show (3 : Int) ≠ 0 by decide)
   have r6 := Int.emod_lt_of_pos v2 (show 0 < (3 : Int) by decide)
   generalize v2 % 3 = v2 at *
   obtain ⟨q, qs, hq, eq_, hql, hqt⟩ : ∃ (q : Addr) (qs : List Int), ([.ref q1, .ref q3, .ref q4] : List V)[v2.toNat]? = some (.ref q) ∧ H8 q = some (.lst (iL qs)) ∧ qs.length ≤ 13 ∧ qs.length ≠ ps.length := by
    rcases show v2 = 0 ∨ v2 = 1 ∨ v2 = 2 by lia with rfl | rfl | rfl
    ·exact ⟨q1, _, rfl, e4, by simp; lia, by simp; lia⟩
    ·exact ⟨q3, _, rfl, e6, by simp; lia, by simp; lia⟩
    ·exact ⟨q4, _, rfl, e7, by simp, by simp; lia⟩
   refine i_ixN (SqL.of e8) r5 hq ?_
   walk_at "s"
   intro t5 h5
   exact k t5 lp q ps qs hd "NoStand" _ (S8.trans (same_upd h5)) upd_same (same_upd h5 _ _ f8) (same_upd h5 _ _ eq_) (by lia) hql (.inr (.inl ⟨rfl, ht, fun z => hqt z.1⟩))
  walk_at "s"
  refine i_if (fun g => ?_) (fun g3' => ?_)
  ·walk_at "s"
   refine i_ixL (SqL.of g3) r3 (by lia) (fun x hx _ => ?_)
   walk_at "s"
   refine it S3 (by lia) (by lia) (fun v2 => ?_)
   walk_at "s"
   refine i_menu2 (Int.emod_nonneg _ (by decide)) (Int.emod_lt_of_pos _ (by decide)) (fun sg hsg => ?_)
   walk_at "s"
   refine i_sum (SqL.of f3) ?_
   walk_at "s"
   refine i_mulI (cmul_l (by decide) (by decide)) ?_
   walk_at "s"
   refine i_mulI (cmul_l (by lia) (by lia)) ?_
   walk_at "s"
   refine ⟨lw, _, at_, at_.toNat, rfl, rfl, g3, ixN_pos r3 (by simp [iL]; lia), ?_⟩
   rw [show ∀ z, (iL ws).set at_.toNat (V.int z) = iL (ws.set at_.toNat z) from fun z => by simp [iL]]
   generalize hz : x + sg * (2 * ps.sum + 3) = z at *
   have s4 : Same H (upd H3 lw (.lst (iL (ws.set at_.toNat z)))) := fun q o e => by
    rw [upd_ne (ne_of_none e fw)]
    exact S3 _ _ e
   have e4 : upd H3 lw (.lst (iL (ws.set at_.toNat z))) lw = some (.lst (iL (ws.set at_.toNat z))) := upd_same
   have g4 : upd H3 lw (.lst (iL (ws.set at_.toNat z))) lp = some (.lst (iL ps)) := by rw [upd_ne nlw]; exact f3
   generalize upd H3 lw (.lst (iL (ws.set at_.toNat z))) = H4 at *
   walk_at "s"
   intro t5 h5
   obtain ⟨p, hp⟩ : ∃ p, ps[at_.toNat]? = some p := ⟨_, List.getElem?_eq_getElem (by lia)⟩
   have hsum := sum_ge ht.2.2 (List.mem_of_getElem? hp)
   refine k t5 lp lw ps _ hd "NoStand" _ (s4.trans (same_upd h5)) upd_same (same_upd h5 _ _ g4) (same_upd h5 _ _ e4) (by lia) (by simp; lia) (.inr (.inl ⟨rfl, ht, fun zz => bad_set hs.2 hx hp ?_ zz.2⟩))
   rcases hsg with ⟨_, rfl⟩ | ⟨_, rfl⟩
   ·left; lia
   ·right; lia
  walk_at "s"
  refine i_if (fun g => ?_) (fun g4 => ?_)
  ·walk_at "s"
   refine i_ixL (SqL.of g3) (by decide) (by lia) (fun x hx _ => ?_)
   walk_at "s"
   refine it S3 (by lia) (by lia) (fun v2 => ?_)
   walk_at "s"
   refine i_menu2 (Int.emod_nonneg _ (by decide)) (Int.emod_lt_of_pos _ (by decide)) (fun sg hsg => ?_)
   walk_at "s"
   refine i_ixL (SqL.of f3) (by decide) (by lia) (fun p hp _ => ?_)
   walk_at "s"
   refine i_mulI (cmul_l (by lia) (by lia)) ?_
   walk_at "s"
   intro t5 h5
   refine k t5 lp lw ps ws _ "NoStand" _ (S3.trans (same_upd h5)) upd_same (same_upd h5 _ _ f3) (same_upd h5 _ _ g3) (by lia) (by lia) (.inr (.inl ⟨rfl, ht, bad_hd (by simpa using hx) (by simpa using hp) ?_⟩))
   rcases hsg with ⟨_, rfl⟩ | ⟨_, rfl⟩
   ·left; lia
   ·right; lia
  walk_at "s"
  intro t5 h5
  exact k t5 lp lw ps ws hd "" _ (S3.trans (same_upd h5)) upd_same (same_upd h5 _ _ f3) (same_upd h5 _ _ g3) (by lia) (by lia) (.inr (.inr ⟨rfl, ht, hs⟩))
theorem pd_bls {H : Hp} {l : Addr} {bs : List Bool} {n : Nat} (h : H l = some (.lst (bL bs))) : PdAt K H (n + 1) (.list (bs.map PyData.bool)) (.ref l) := by
 refine pd_lst (SqL.of h) ?_
 induction bs with
 | nil => exact .nil
 | cons b bs ih => exact .cons pd_bl (pdb bs)
theorem ok_law {f : Addr} {fd : FuncData} (F : Fun K "law" "law" s_law f fd) (T : Txt mg) (Z : Cls K mg) (Y : Own K mg) (C_law_a_train : Callee P w K mg base "_law_a_train" 2 (spTrain K)) (C_law_cell_at : Callee P w K mg base "_law_cell_at" 1 (spCellAt K)) (C_law_draws : Callee P w K mg base "_law_draws" 1 spDraws) (C_law_a_spoilt : Callee P w K mg base "_law_a_spoilt" 1 spSpoilt) (C_law_asked : Callee P w K mg base "_law_asked" 13 spAsked) (C_law_due_kin : Callee P w K mg base "_law_due_kin" 1 spDueKinG) :
 FnOk P w K mg base CX0 14 f fd ["script"] (spLaw K) := by
 refine F.ok sc_law (fun vs H Q E h => ?_) (fun cdv A outer s H vs Q E hr h => ?_)
 ·obtain ⟨a, ns, rfl, _⟩ := h
  rfl
 ·obtain ⟨a, ns, rfl, hS, hlen, k⟩ := h
  have hu := hr.units
  refine ⟨_, (pss_cons (ps_set (i := 1) sc_law.nd rfl (Or.inl rfl) (pe_callN C_law_a_train (hr.mono (by decide)) (by rfl) (pa_cons (pv 0) pa_nil)))
 (pss_cons (ps_for PassesOwn.never rfl (pi_listK K (pe_op op_addP (pe_lst (pa_cons (pe_callN C_law_cell_at (hr.mono (by decide)) (by rfl) (pa_cons (pv 0) (pa_cons pe_int pa_nil))) pa_nil)) (pe_slice (sl_listK K) (pv 0) (po_some pe_int) (po_some pe_int)))) (pg_name (i := 2) sc_law.nd rfl (Or.inl rfl))
 (pss_cons (ps_asg (pe_callN C_law_a_spoilt (hr.mono (by decide)) (by rfl) (pa_cons (pv 1) (pa_cons (pe_callN C_law_draws (hr.mono (by decide)) (by rfl) (pa_cons (pv 2) (pa_cons pe_int (pa_cons pe_int pa_nil)))) pa_nil))) (pg_tupK K 4 (pgs_cons (pg_name (i := 3) sc_law.nd rfl (Or.inl rfl)) (pgs_cons (pg_name (i := 4) sc_law.nd rfl (Or.inl rfl)) (pgs_cons (pg_name (i := 5) sc_law.nd rfl (Or.inl rfl)) (pgs_cons (pg_name (i := 6) sc_law.nd rfl (Or.inl rfl)) pgs_nil))))))
 (pss_cons (ps_set (i := 7) sc_law.nd rfl (Or.inl rfl) (pe_tup (pa_cons (pe_callTy (call_listK K) (by rfl) T.z_list bt_list (pa_cons (pv 3) pa_nil)) (pa_cons (pv 4) (pa_cons (pe_callTy (call_listK K) (by rfl) T.z_list bt_list (pa_cons (pv 5) pa_nil)) pa_nil)))))
 (pss_one (ps_for PassesOwn.never rfl (pi_range1 (by rfl) T.z_range (pa_cons pe_int pa_nil)) (pg_name (i := 8) sc_law.nd rfl (Or.inl rfl))
 (pss_cons (ps_set (i := 9) sc_law.nd rfl (Or.inl rfl) (pe_callN C_law_asked (hr.mono (by decide)) (by rfl) (pa_cons (pv 8) (pa_cons (pv 7) (pa_cons (pe_callTy call_intK (by rfl) T.z_int bt_int (pa_cons (pe_cmpR (op_neK K hu) (pv 6) pe_str (nomark _)) pa_nil)) pa_nil)))))
 (pss_cons (ps_if (pt_cmpR (op_neK K hu) (pv 7) (pe_tup (pa_cons (pv 3) (pa_cons (pv 4) (pa_cons (pv 5) pa_nil)))) (nomark _))
 (pss_one (ps_ret pe_bl))
 pss_nil)
 (pss_one (ps_if (PW.pt (pw_or (PW.pt (pw_and (pt_cmpR (op_neK K hu) (pv 6) pe_str (nomark _)) (pw_and1 (pt_cmpR (op_neK K hu) (pv 9) (pe_callN C_law_due_kin (hr.mono (by decide)) (by rfl) (pa_cons (pv 6) pa_nil)) (nomark _))))) (pw_or1 (PW.pt (pw_and (pt_cmpR (op_eqK K hu) (pv 6) pe_str (nomark _)) (pw_and1 (pt_cmpR (op_neK K hu) (pv 9) (pe_lst pa_nil) (nomark _))))))))
 (pss_one (ps_ret pe_bl))
 pss_nil)))))))))
 (pss_one (ps_ret pe_bl)))), ?_⟩
  walk_at "un"
  try clear hu
  walk_at "s"
  refine ⟨a, ns, rfl, hS, fun t0 lp lw ps ws hd H1 ft0 N1 N2 npw e0 hT hSt => ?_⟩
  have sH1 := N1.sm
  have p1 := N1.at_
  have w1 := N2.at_
  clear N1 N2
  walk_at "s"
  refine ⟨a, ns, 2, rfl, sH1.seq hS, by decide, fun c2 => ?_⟩
  walk_at "s"
  intro g2 hg2
  walk_at "s"
  refine i_slMid ((same_upd hg2).seq (sH1.seq hS)) (by decide) (by decide) (fun g3 hg3 => ?_)
  generalize hcs : (ns.drop (3 : Int).toNat).take ((12 : Int).toNat - (3 : Int).toNat) = cs at *
  have hcl : cs.length ≤ 9 := by rw [← hcs, List.length_take]; exact Nat.min_le_left _ _
  refine i_addL (a := g2) (b := g3) (xs := [.int c2]) (ys := iL cs) (same_upd hg3 _ _ upd_same) upd_same (szl (by simp [iL]; lia)) (fun lc hlc => ?_)
  have s4 : Same H1 _ := (same_upd (o := .lst [.int c2]) hg2).trans ((same_upd (o := .lst (iL cs)) hg3).trans (same_upd (o := .lst ([.int c2] ++ iL cs)) hlc))
  have e4 : upd (upd (upd H1 g2 (.lst [.int c2])) g3 (.lst (iL cs))) lc (.lst ([.int c2] ++ iL cs)) lc = some (.lst (iL (c2 :: cs))) := by rw [upd_same]; rfl
  generalize upd (upd (upd H1 g2 (.lst [.int c2])) g3 (.lst (iL cs))) lc (.lst ([.int c2] ++ iL cs)) = H4 at *
  replace e0 := s4 _ _ e0
  replace p1 := s4 _ _ p1
  replace w1 := s4 _ _ w1
  clear s4 hg2 hg3 hlc sH1
  walk_at "s"
  refine ⟨⟨_, SqL.of e4⟩, lp_ints (ns := c2 :: cs) (fun i σ H5 => ∃ (u2 u3 u4 u5 u6 u7 u8 u9 : Option V), σ = [some (.ref a), some (.ref t0), u2, u3, u4, u5, u6, u7, u8, u9] ∧ Same H4 H5) ?_ ?_ ?_ ?_⟩
  ·exact ⟨_, _, _, _, _, _, _, _, rfl, Same.refl _⟩
  ·rintro i σ H5 _ ⟨u2, u3, u4, u5, u6, u7, u8, u9, rfl, sm⟩
   exact SqL.of (sm _ _ e4)
  ·rintro i cell σ H5 hx ⟨u2, u3, u4, u5, u6, u7, u8, u9, rfl, sm⟩
   walk_at "s"
   refine ⟨cell, 3, 1000, rfl, by decide, by decide, by decide, by decide, fun lq H6 pk N6 l6 b6 => ?_⟩
   have sm6 := sm.trans N6.sm
   have q6 := N6.at_
   clear N6 sm
   walk_at "s"
   refine ⟨t0, lp, lw, lq, ps, ws, pk, hd, rfl, sm6 _ _ e0, sm6 _ _ p1, sm6 _ _ w1, q6, by lia, hT, hSt, fun t5 l5 m5 ps5 ws5 hd5 d H7 s7 e7 p7 w7 hl1 hl2 hd7 => ?_⟩
   have sm7 := sm6.trans s7
   clear sm6 s7 q6
   walk_at "s"
   refine ⟨_, _, rfl, SqT.of e7, rfl, _, _, rfl, _, _, rfl, _, _, rfl, _, _, rfl, rfl, ?_⟩
   walk_at "s"
   refine i_listL (SqL.of p7) (fun lp8 hlp8 => ?_)
   have s8 : Same H7 _ := same_upd (o := .lst (iL ps5)) hlp8
   have e8 : upd H7 lp8 (.lst (iL ps5)) lp8 = some (.lst (iL ps5)) := upd_same
   generalize upd H7 lp8 (.lst (iL ps5)) = H8 at *
   walk_at "s"
   refine i_listL (SqL.of (s8 _ _ w7)) (fun lw9 hlw9 => ?_)
   have s9 : Same H8 _ := same_upd (o := .lst (iL ws5)) hlw9
   have e9 : upd H8 lw9 (.lst (iL ws5)) lw9 = some (.lst (iL ws5)) := upd_same
   generalize upd H8 lw9 (.lst (iL ws5)) = H9 at *
   walk_at "s"
   intro t10 ht10
   have s10 : Same H9 _ := same_upd (o := .tup [.ref lp8, .int hd5, .ref lw9]) ht10
   have e10 : upd H9 t10 (.tup [.ref lp8, .int hd5, .ref lw9]) t10 = some (.tup [.ref lp8, .int hd5, .ref lw9]) := upd_same
   generalize upd H9 t10 (.tup [.ref lp8, .int hd5, .ref lw9]) = H10 at *
   replace e8 := s10 _ _ (s9 _ _ e8)
   replace e9 := s10 _ _ e9
   replace p7 := s10 _ _ (s9 _ _ (s8 _ _ p7))
   replace w7 := s10 _ _ (s9 _ _ (s8 _ _ w7))
   have sm10 := ((sm7.trans s8).trans s9).trans s10
   clear sm7 s8 s9 s10 hlp8 hlw9 ht10 e7 e0 p1 w1
   have hdok : PyData.strOk d = true := by rcases hd7 with ⟨rfl, _⟩ | ⟨rfl, _⟩ | ⟨rfl, _⟩ <;> decide +kernel
   walk_at "s"
   refine ⟨by lia, by lia, lp_range (fun i σ H5 => ∃ (u8 u9 : Option V), σ = [some (.ref a), some (.ref t0), some (.int cell), some (.ref l5), some (.int hd5), some (.ref m5), some (.str d), some (.ref t10), u8, u9] ∧ Same H10 H5) ?_ ?_ ?_⟩
   ·exact ⟨_, _, rfl, Same.refl _⟩
   ·rintro door σ H11 hd0 ⟨u8, u9, rfl, s11⟩
    walk_at "s"
    refine i_neS hdok (by decide +kernel) ?_
    walk_at "s"
    have hda : (d = "" ∧ isTr ps5 ∧ stand ps5 hd5 ws5) ∨ (d ≠ "" ∧ ¬ (isTr ps5 ∧ stand ps5 hd5 ws5)) := by
     rcases hd7 with ⟨rfl, z⟩ | ⟨rfl, z, z2⟩ | ⟨rfl, z, z2⟩
     ·exact .inr ⟨by decide +kernel, fun q => z q.1⟩
     ·exact .inr ⟨by decide +kernel, fun q => z2 q.2⟩
     ·exact .inl ⟨rfl, z, z2⟩
    refine ⟨t10, lp8, lw9, ps5, ws5, hd5, _, _, (fun bs => bs = if d = "" then [] else dueX d), rfl, s11 _ _ e10, s11 _ _ e8, s11 _ _ e9, by lia, ?_, ?_, ?_, ?_, fun l12 bs H12 s12 e12 hbs => ?_⟩
    ·rcases hda with ⟨rfl, z⟩ | ⟨z, z2⟩
     ·exact .inl ⟨by decide +kernel, z⟩
     ·refine .inr ⟨?_, z2⟩
      rw [show (d == Str.ofString "") = false from beq_eq_false_iff_ne.mpr z]
      rfl
    ·intro z1 z2
     rcases hda with ⟨rfl, _⟩ | ⟨_, z⟩
     ·rw [if_pos rfl]
     ·exact absurd ⟨z1, z2⟩ z
    ·intro z
     rcases hd7 with ⟨rfl, _⟩ | ⟨rfl, z1, z2⟩ | ⟨rfl, z1, z2⟩
     ·rw [if_neg (by decide +kernel)]
     ·exact absurd z1 z
     ·exact absurd z1 z
    ·intro z z'
     rcases hd7 with ⟨rfl, z1⟩ | ⟨rfl, z1, z2⟩ | ⟨rfl, z1, z2⟩
     ·exact absurd z z1
     ·rw [if_neg (by decide +kernel)]
     ·exact absurd z2 z'
    have S12 := s11.trans s12
    walk_at "s"
    intro p13 hp13
    have s13 : Same H12 _ := same_upd (o := .tup [.ref l5, .int hd5, .ref m5]) hp13
    have e13 : upd H12 p13 (.tup [.ref l5, .int hd5, .ref m5]) p13 = some (.tup [.ref l5, .int hd5, .ref m5]) := upd_same
    generalize upd H12 p13 (.tup [.ref l5, .int hd5, .ref m5]) = H13 at *
    have S13 := S12.trans s13
    refine i_neSame (.tuple [pL ps5, .int hd5, pL ws5]) (pd_tup (SqT.of (S13 _ _ e10)) (.cons (pd_ints (SqL.of (S13 _ _ e8))) (.cons pd_int (.cons (pd_ints (SqL.of (S13 _ _ e9))) .nil)))) (pd_tup (SqT.of e13) (.cons (pd_ints (SqL.of (S13 _ _ p7))) (.cons pd_int (.cons (pd_ints (SqL.of (S13 _ _ w7))) .nil)))) ?_
    replace e12 := s13 _ _ e12
    walk_at "s"
    refine i_neS hdok (by decide +kernel) ?_
    walk_at "s"
    rcases hda with ⟨rfl, _⟩ | ⟨z, _⟩
    ·refine ifF (by decide +kernel) ?_
     rw [if_pos rfl] at hbs
     subst hbs
     walk_at "s"
     refine i_eqS hdok (by decide +kernel) ?_
     walk_at "s"
     refine ifT (by decide +kernel) ?_
     walk_at "s"
     intro p14 hp14
     refine i_neSame (.list []) (pd_bls (bs := []) (same_upd hp14 _ _ e12)) (pd_bls (bs := []) upd_same) ?_
     walk_at "s"
     exact ⟨_, _, rfl, S13.trans (same_upd hp14)⟩
    ·refine ifT (by rw [show (d == Str.ofString "") = false from beq_eq_false_iff_ne.mpr z]; rfl) ?_
     rw [if_neg z] at hbs
     subst hbs
     walk_at "s"
     refine ⟨d, rfl, hdok, fun l14 H14 s14 h14 => ?_⟩
     walk_at "s"
     refine i_neSame (.list ((dueX d).map PyData.bool)) (pd_bls (s14 _ _ e12)) (pd_bls h14) ?_
     walk_at "s"
     refine i_eqS hdok (by decide +kernel) ?_
     walk_at "s"
     refine ifF (by rw [show (d == Str.ofString "") = false from beq_eq_false_iff_ne.mpr z]) ?_
     walk_at "s"
     exact ⟨_, _, rfl, S13.trans s14⟩
   ·rintro σ H12 ⟨u8, u9, rfl, s12⟩
    exact ⟨_, _, _, _, _, _, _, _, rfl, sm10.trans s12⟩
  ·rintro σ H5 ⟨u2, u3, u4, u5, u6, u7, u8, u9, rfl, sm⟩
   walk_at "s"
   exact k _
end
theorem all_mk {l : PySem.W.OpenLaw} {w : World} {K : PySem.W.Frag} {h : Heap} {mg : Str → Option Value} {fa : Addr} (X : K.In h) (G : h.Ns mainGlobals mg) (hfa : mg "law" = some (.ref fa))
 {c_Walker : Addr}
 {f0 : Addr} {o0 n0 : Option Addr} {s0 : Array (Option Value)} {q0 k0 d0 p0 e0 t0 : Value}
 {f1 : Addr} {o1 n1 : Option Addr} {s1 : Array (Option Value)} {q1 k1 d1 p1 e1 t1 : Value}
 {f2 : Addr} {o2 n2 : Option Addr} {s2 : Array (Option Value)} {q2 k2 d2 p2 e2 t2 : Value}
 {f3 : Addr} {o3 n3 : Option Addr} {s3 : Array (Option Value)} {q3 k3 d3 p3 e3 t3 : Value}
 {f4 : Addr} {o4 n4 : Option Addr} {s4 : Array (Option Value)} {q4 k4 d4 p4 e4 t4 : Value}
 {f5 : Addr} {o5 n5 : Option Addr} {s5 : Array (Option Value)} {q5 k5 d5 p5 e5 t5 : Value}
 {f6 : Addr} {o6 n6 : Option Addr} {s6 : Array (Option Value)} {q6 k6 d6 p6 e6 t6 : Value}
 {f7 : Addr} {o7 n7 : Option Addr} {s7 : Array (Option Value)} {q7 k7 d7 p7 e7 t7 : Value}
 {f8 : Addr} {o8 n8 : Option Addr} {s8 : Array (Option Value)} {q8 k8 d8 p8 e8 t8 : Value}
 {f9 : Addr} {o9 n9 : Option Addr} {s9 : Array (Option Value)} {q9 k9 d9 p9 e9 t9 : Value}
 {f10 : Addr} {o10 n10 : Option Addr} {s10 : Array (Option Value)} {q10 k10 d10 p10 e10 t10 : Value}
 {f11 : Addr} {o11 n11 : Option Addr} {s11 : Array (Option Value)} {q11 k11 d11 p11 e11 t11 : Value}
 {f12 : Addr} {o12 n12 : Option Addr} {s12 : Array (Option Value)} {q12 k12 d12 p12 e12 t12 : Value}
 {f13 : Addr} {o13 n13 : Option Addr} {s13 : Array (Option Value)} {q13 k13 d13 p13 e13 t13 : Value}
 {f14 : Addr} {o14 n14 : Option Addr} {s14 : Array (Option Value)} {q14 k14 d14 p14 e14 t14 : Value}
 {f15 : Addr} {o15 n15 : Option Addr} {s15 : Array (Option Value)} {q15 k15 d15 p15 e15 t15 : Value}
 {f16 : Addr} {o16 n16 : Option Addr} {s16 : Array (Option Value)} {q16 k16 d16 p16 e16 t16 : Value}
 {f17 : Addr} {o17 n17 : Option Addr} {s17 : Array (Option Value)} {q17 k17 d17 p17 e17 t17 : Value}
 {f18 : Addr} {o18 n18 : Option Addr} {s18 : Array (Option Value)} {q18 k18 d18 p18 e18 t18 : Value}
 {f19 : Addr} {o19 n19 : Option Addr} {s19 : Array (Option Value)} {q19 k19 d19 p19 e19 t19 : Value}
 {f20 : Addr} {o20 n20 : Option Addr} {s20 : Array (Option Value)} {q20 k20 d20 p20 e20 t20 : Value}
 {f21 : Addr} {o21 n21 : Option Addr} {s21 : Array (Option Value)} {q21 k21 d21 p21 e21 t21 : Value}
 {f22 : Addr} {o22 n22 : Option Addr} {s22 : Array (Option Value)} {q22 k22 d22 p22 e22 t22 : Value}
 {f23 : Addr} {o23 n23 : Option Addr} {s23 : Array (Option Value)} {q23 k23 d23 p23 e23 t23 : Value}
 {f24 : Addr} {o24 n24 : Option Addr} {s24 : Array (Option Value)} {q24 k24 d24 p24 e24 t24 : Value}
 {f25 : Addr} {o25 n25 : Option Addr} {s25 : Array (Option Value)} {q25 k25 d25 p25 e25 t25 : Value}
 {f26 : Addr} {o26 n26 : Option Addr} {s26 : Array (Option Value)} {q26 k26 d26 p26 e26 t26 : Value}
 {f27 : Addr} {o27 n27 : Option Addr} {s27 : Array (Option Value)} {q27 k27 d27 p27 e27 t27 : Value}
 {f28 : Addr} {o28 n28 : Option Addr} {s28 : Array (Option Value)} {q28 k28 d28 p28 e28 t28 : Value}
 {f29 : Addr} {o29 n29 : Option Addr} {s29 : Array (Option Value)} {q29 k29 d29 p29 e29 t29 : Value}
 {f30 : Addr} {o30 n30 : Option Addr} {s30 : Array (Option Value)} {q30 k30 d30 p30 e30 t30 : Value}
 {f31 : Addr} {o31 n31 : Option Addr} {s31 : Array (Option Value)} {q31 k31 d31 p31 e31 t31 : Value}
 {f32 : Addr} {o32 n32 : Option Addr} {s32 : Array (Option Value)} {q32 k32 d32 p32 e32 t32 : Value}
 {f33 : Addr} {o33 n33 : Option Addr} {s33 : Array (Option Value)} {q33 k33 d33 p33 e33 t33 : Value}
 {f34 : Addr} {o34 n34 : Option Addr} {s34 : Array (Option Value)} {q34 k34 d34 p34 e34 t34 : Value}
 {f35 : Addr} {o35 n35 : Option Addr} {s35 : Array (Option Value)} {q35 k35 d35 p35 e35 t35 : Value}
 {f36 : Addr} {o36 n36 : Option Addr} {s36 : Array (Option Value)} {q36 k36 d36 p36 e36 t36 : Value}
 {f37 : Addr} {o37 n37 : Option Addr} {s37 : Array (Option Value)} {q37 k37 d37 p37 e37 t37 : Value}
 {f38 : Addr} {o38 n38 : Option Addr} {s38 : Array (Option Value)} {q38 k38 d38 p38 e38 t38 : Value}
 {f39 : Addr} {o39 n39 : Option Addr} {s39 : Array (Option Value)} {q39 k39 d39 p39 e39 t39 : Value}
 {f40 : Addr} {o40 n40 : Option Addr} {s40 : Array (Option Value)} {q40 k40 d40 p40 e40 t40 : Value}
 {t_MOST_PLAYS : Tok}
 {t_MOST_STANDS : Tok}
 {c_TrainError : Addr}
 {c_NoTrain : Addr}
 {c_NoStand : Addr}
 {c_NoPaper : Addr}
 {c_NoBox : Addr}
 {c_NoSwitch : Addr}
 {c_NoPlace : Addr}
 {c_NoTable : Addr}
 {c_NoText : Addr}
 {c_NoRow : Addr}
 {c_NoPiece : Addr}
 {c_NothingLeft : Addr}
 {c_TooMany : Addr}
 (a0 : W.nsIn K mainGlobals "_law_cell_at" = some (some (.ref f0))) (l0 : K.lookup f0 = some ⟨q0, o0, .func (W.fnOf "_law_cell_at" "_law_cell_at" (defArgs s_law_cell_at) (defBody s_law_cell_at) (defScope s_law_cell_at) .none k0 d0 p0 n0 e0 t0), s0⟩) (c0 : W.codeIn K e0 "_law_cell_at" = true) (b0 : W.keepIn K (.ref f0) = true)
 (a1 : W.nsIn K mainGlobals "_law_draws" = some (some (.ref f1))) (l1 : K.lookup f1 = some ⟨q1, o1, .func (W.fnOf "_law_draws" "_law_draws" (defArgs s_law_draws) (defBody s_law_draws) (defScope s_law_draws) .none k1 d1 p1 n1 e1 t1), s1⟩) (c1 : W.codeIn K e1 "_law_draws" = true) (b1 : W.keepIn K (.ref f1) = true)
 (a2 : W.nsIn K mainGlobals "_law_a_kin" = some (some (.ref f2))) (l2 : K.lookup f2 = some ⟨q2, o2, .func (W.fnOf "_law_a_kin" "_law_a_kin" (defArgs s_law_a_kin) (defBody s_law_a_kin) (defScope s_law_a_kin) .none k2 d2 p2 n2 e2 t2), s2⟩) (c2 : W.codeIn K e2 "_law_a_kin" = true) (b2 : W.keepIn K (.ref f2) = true)
 (a3 : W.nsIn K mainGlobals "_law_due_kin" = some (some (.ref f3))) (l3 : K.lookup f3 = some ⟨q3, o3, .func (W.fnOf "_law_due_kin" "_law_due_kin" (defArgs s_law_due_kin) (defBody s_law_due_kin) (defScope s_law_due_kin) .none k3 d3 p3 n3 e3 t3), s3⟩) (c3 : W.codeIn K e3 "_law_due_kin" = true) (b3 : W.keepIn K (.ref f3) = true)
 (a4 : W.nsIn K mainGlobals "is_train" = some (some (.ref f4))) (l4 : K.lookup f4 = some ⟨q4, o4, .func (W.fnOf "is_train" "is_train" (defArgs s_is_train) (defBody s_is_train) (defScope s_is_train) .none k4 d4 p4 n4 e4 t4), s4⟩) (c4 : W.codeIn K e4 "is_train" = true) (b4 : W.keepIn K (.ref f4) = true)
 (a5 : W.nsIn K mainGlobals "keeps_plays" = some (some (.ref f5))) (l5 : K.lookup f5 = some ⟨q5, o5, .func (W.fnOf "keeps_plays" "keeps_plays" (defArgs s_keeps_plays) (defBody s_keeps_plays) (defScope s_keeps_plays) .none k5 d5 p5 n5 e5 t5), s5⟩) (c5 : W.codeIn K e5 "keeps_plays" = true) (b5 : W.keepIn K (.ref f5) = true)
 (a6 : W.nsIn K mainGlobals "dragged" = some (some (.ref f6))) (l6 : K.lookup f6 = some ⟨q6, o6, .func (W.fnOf "dragged" "dragged" (defArgs s_dragged) (defBody s_dragged) (defScope s_dragged) .none k6 d6 p6 n6 e6 t6), s6⟩) (c6 : W.codeIn K e6 "dragged" = true) (b6 : W.keepIn K (.ref f6) = true)
 (a7 : W.nsIn K mainGlobals "all_dragged" = some (some (.ref f7))) (l7 : K.lookup f7 = some ⟨q7, o7, .func (W.fnOf "all_dragged" "all_dragged" (defArgs s_all_dragged) (defBody s_all_dragged) (defScope s_all_dragged) .none k7 d7 p7 n7 e7 t7), s7⟩) (c7 : W.codeIn K e7 "all_dragged" = true) (b7 : W.keepIn K (.ref f7) = true)
 (a8 : W.nsIn K mainGlobals "refuse_no_train" = some (some (.ref f8))) (l8 : K.lookup f8 = some ⟨q8, o8, .func (W.fnOf "refuse_no_train" "refuse_no_train" (defArgs s_refuse_no_train) (defBody s_refuse_no_train) (defScope s_refuse_no_train) .none k8 d8 p8 n8 e8 t8), s8⟩) (c8 : W.codeIn K e8 "refuse_no_train" = true) (b8 : W.keepIn K (.ref f8) = true)
 (a9 : W.nsIn K mainGlobals "is_stand" = some (some (.ref f9))) (l9 : K.lookup f9 = some ⟨q9, o9, .func (W.fnOf "is_stand" "is_stand" (defArgs s_is_stand) (defBody s_is_stand) (defScope s_is_stand) .none k9 d9 p9 n9 e9 t9), s9⟩) (c9 : W.codeIn K e9 "is_stand" = true) (b9 : W.keepIn K (.ref f9) = true)
 (a10 : W.nsIn K mainGlobals "depths_of" = some (some (.ref f10))) (l10 : K.lookup f10 = some ⟨q10, o10, .func (W.fnOf "depths_of" "depths_of" (defArgs s_depths_of) (defBody s_depths_of) (defScope s_depths_of) .none k10 d10 p10 n10 e10 t10), s10⟩) (c10 : W.codeIn K e10 "depths_of" = true) (b10 : W.keepIn K (.ref f10) = true)
 (a11 : W.nsIn K mainGlobals "refuse_no_stand" = some (some (.ref f11))) (l11 : K.lookup f11 = some ⟨q11, o11, .func (W.fnOf "refuse_no_stand" "refuse_no_stand" (defArgs s_refuse_no_stand) (defBody s_refuse_no_stand) (defScope s_refuse_no_stand) .none k11 d11 p11 n11 e11 t11), s11⟩) (c11 : W.codeIn K e11 "refuse_no_stand" = true) (b11 : W.keepIn K (.ref f11) = true)
 (a12 : W.nsIn K mainGlobals "refuse_no_bounds" = some (some (.ref f12))) (l12 : K.lookup f12 = some ⟨q12, o12, .func (W.fnOf "refuse_no_bounds" "refuse_no_bounds" (defArgs s_refuse_no_bounds) (defBody s_refuse_no_bounds) (defScope s_refuse_no_bounds) .none k12 d12 p12 n12 e12 t12), s12⟩) (c12 : W.codeIn K e12 "refuse_no_bounds" = true) (b12 : W.keepIn K (.ref f12) = true)
 (a13 : W.nsIn K mainGlobals "ranges_of" = some (some (.ref f13))) (l13 : K.lookup f13 = some ⟨q13, o13, .func (W.fnOf "ranges_of" "ranges_of" (defArgs s_ranges_of) (defBody s_ranges_of) (defScope s_ranges_of) .none k13 d13 p13 n13 e13 t13), s13⟩) (c13 : W.codeIn K e13 "ranges_of" = true) (b13 : W.keepIn K (.ref f13) = true)
 (a14 : W.nsIn K mainGlobals "stands_beside" = some (some (.ref f14))) (l14 : K.lookup f14 = some ⟨q14, o14, .func (W.fnOf "stands_beside" "stands_beside" (defArgs s_stands_beside) (defBody s_stands_beside) (defScope s_stands_beside) .none k14 d14 p14 n14 e14 t14), s14⟩) (c14 : W.codeIn K e14 "stands_beside" = true) (b14 : W.keepIn K (.ref f14) = true)
 (a15 : W.nsIn K mainGlobals "stands_within" = some (some (.ref f15))) (l15 : K.lookup f15 = some ⟨q15, o15, .func (W.fnOf "stands_within" "stands_within" (defArgs s_stands_within) (defBody s_stands_within) (defScope s_stands_within) .none k15 d15 p15 n15 e15 t15), s15⟩) (c15 : W.codeIn K e15 "stands_within" = true) (b15 : W.keepIn K (.ref f15) = true)
 (a16 : W.nsIn K mainGlobals "refuse_no_piece" = some (some (.ref f16))) (l16 : K.lookup f16 = some ⟨q16, o16, .func (W.fnOf "refuse_no_piece" "refuse_no_piece" (defArgs s_refuse_no_piece) (defBody s_refuse_no_piece) (defScope s_refuse_no_piece) .none k16 d16 p16 n16 e16 t16), s16⟩) (c16 : W.codeIn K e16 "refuse_no_piece" = true) (b16 : W.keepIn K (.ref f16) = true)
 (a17 : W.nsIn K mainGlobals "moved" = some (some (.ref f17))) (l17 : K.lookup f17 = some ⟨q17, o17, .func (W.fnOf "moved" "moved" (defArgs s_moved) (defBody s_moved) (defScope s_moved) .none k17 d17 p17 n17 e17 t17), s17⟩) (c17 : W.codeIn K e17 "moved" = true) (b17 : W.keepIn K (.ref f17) = true)
 (a18 : W.nsIn K mainGlobals "grabs_of" = some (some (.ref f18))) (l18 : K.lookup f18 = some ⟨q18, o18, .func (W.fnOf "grabs_of" "grabs_of" (defArgs s_grabs_of) (defBody s_grabs_of) (defScope s_grabs_of) .none k18 d18 p18 n18 e18 t18), s18⟩) (c18 : W.codeIn K e18 "grabs_of" = true) (b18 : W.keepIn K (.ref f18) = true)
 (a19 : W.nsIn K mainGlobals "grabbed" = some (some (.ref f19))) (l19 : K.lookup f19 = some ⟨q19, o19, .func (W.fnOf "grabbed" "grabbed" (defArgs s_grabbed) (defBody s_grabbed) (defScope s_grabbed) .none k19 d19 p19 n19 e19 t19), s19⟩) (c19 : W.codeIn K e19 "grabbed" = true) (b19 : W.keepIn K (.ref f19) = true)
 (a20 : W.nsIn K mainGlobals "pieces_of" = some (some (.ref f20))) (l20 : K.lookup f20 = some ⟨q20, o20, .func (W.fnOf "pieces_of" "pieces_of" (defArgs s_pieces_of) (defBody s_pieces_of) (defScope s_pieces_of) .none k20 d20 p20 n20 e20 t20), s20⟩) (c20 : W.codeIn K e20 "pieces_of" = true) (b20 : W.keepIn K (.ref f20) = true)
 (a21 : W.nsIn K mainGlobals "must_place" = some (some (.ref f21))) (l21 : K.lookup f21 = some ⟨q21, o21, .func (W.fnOf "must_place" "must_place" (defArgs s_must_place) (defBody s_must_place) (defScope s_must_place) .none k21 d21 p21 n21 e21 t21), s21⟩) (c21 : W.codeIn K e21 "must_place" = true) (b21 : W.keepIn K (.ref f21) = true)
 (a22 : W.nsIn K mainGlobals "side_to_go" = some (some (.ref f22))) (l22 : K.lookup f22 = some ⟨q22, o22, .func (W.fnOf "side_to_go" "side_to_go" (defArgs s_side_to_go) (defBody s_side_to_go) (defScope s_side_to_go) .none k22 d22 p22 n22 e22 t22), s22⟩) (c22 : W.codeIn K e22 "side_to_go" = true) (b22 : W.keepIn K (.ref f22) = true)
 (a23 : W.nsIn K mainGlobals "is_beyond" = some (some (.ref f23))) (l23 : K.lookup f23 = some ⟨q23, o23, .func (W.fnOf "is_beyond" "is_beyond" (defArgs s_is_beyond) (defBody s_is_beyond) (defScope s_is_beyond) .none k23 d23 p23 n23 e23 t23), s23⟩) (c23 : W.codeIn K e23 "is_beyond" = true) (b23 : W.keepIn K (.ref f23) = true)
 (a24 : W.nsIn K mainGlobals "first_musts" = some (some (.ref f24))) (l24 : K.lookup f24 = some ⟨q24, o24, .func (W.fnOf "first_musts" "first_musts" (defArgs s_first_musts) (defBody s_first_musts) (defScope s_first_musts) .none k24 d24 p24 n24 e24 t24), s24⟩) (c24 : W.codeIn K e24 "first_musts" = true) (b24 : W.keepIn K (.ref f24) = true)
 (a25 : W.nsIn K mainGlobals "way_of" = some (some (.ref f25))) (l25 : K.lookup f25 = some ⟨q25, o25, .func (W.fnOf "way_of" "way_of" (defArgs s_way_of) (defBody s_way_of) (defScope s_way_of) .none k25 d25 p25 n25 e25 t25), s25⟩) (c25 : W.codeIn K e25 "way_of" = true) (b25 : W.keepIn K (.ref f25) = true)
 (a26 : W.nsIn K mainGlobals "refuse_no_errand" = some (some (.ref f26))) (l26 : K.lookup f26 = some ⟨q26, o26, .func (W.fnOf "refuse_no_errand" "refuse_no_errand" (defArgs s_refuse_no_errand) (defBody s_refuse_no_errand) (defScope s_refuse_no_errand) .none k26 d26 p26 n26 e26 t26), s26⟩) (c26 : W.codeIn K e26 "refuse_no_errand" = true) (b26 : W.keepIn K (.ref f26) = true)
 (a27 : W.nsIn K mainGlobals "paper_of" = some (some (.ref f27))) (l27 : K.lookup f27 = some ⟨q27, o27, .func (W.fnOf "paper_of" "paper_of" (defArgs s_paper_of) (defBody s_paper_of) (defScope s_paper_of) .none k27 d27 p27 n27 e27 t27), s27⟩) (c27 : W.codeIn K e27 "paper_of" = true) (b27 : W.keepIn K (.ref f27) = true)
 (a28 : W.nsIn K mainGlobals "least_row" = some (some (.ref f28))) (l28 : K.lookup f28 = some ⟨q28, o28, .func (W.fnOf "least_row" "least_row" (defArgs s_least_row) (defBody s_least_row) (defScope s_least_row) .none k28 d28 p28 n28 e28 t28), s28⟩) (c28 : W.codeIn K e28 "least_row" = true) (b28 : W.keepIn K (.ref f28) = true)
 (a29 : W.nsIn K mainGlobals "least_of" = some (some (.ref f29))) (l29 : K.lookup f29 = some ⟨q29, o29, .func (W.fnOf "least_of" "least_of" (defArgs s_least_of) (defBody s_least_of) (defScope s_least_of) .none k29 d29 p29 n29 e29 t29), s29⟩) (c29 : W.codeIn K e29 "least_of" = true) (b29 : W.keepIn K (.ref f29) = true)
 (a30 : W.nsIn K mainGlobals "refuse_no_round" = some (some (.ref f30))) (l30 : K.lookup f30 = some ⟨q30, o30, .func (W.fnOf "refuse_no_round" "refuse_no_round" (defArgs s_refuse_no_round) (defBody s_refuse_no_round) (defScope s_refuse_no_round) .none k30 d30 p30 n30 e30 t30), s30⟩) (c30 : W.codeIn K e30 "refuse_no_round" = true) (b30 : W.keepIn K (.ref f30) = true)
 (a31 : W.nsIn K mainGlobals "ways_between" = some (some (.ref f31))) (l31 : K.lookup f31 = some ⟨q31, o31, .func (W.fnOf "ways_between" "ways_between" (defArgs s_ways_between) (defBody s_ways_between) (defScope s_ways_between) .none k31 d31 p31 n31 e31 t31), s31⟩) (c31 : W.codeIn K e31 "ways_between" = true) (b31 : W.keepIn K (.ref f31) = true)
 (a32 : W.nsIn K mainGlobals "best_from" = some (some (.ref f32))) (l32 : K.lookup f32 = some ⟨q32, o32, .func (W.fnOf "best_from" "best_from" (defArgs s_best_from) (defBody s_best_from) (defScope s_best_from) .none k32 d32 p32 n32 e32 t32), s32⟩) (c32 : W.codeIn K e32 "best_from" = true) (b32 : W.keepIn K (.ref f32) = true)
 (a33 : W.nsIn K mainGlobals "round_way" = some (some (.ref f33))) (l33 : K.lookup f33 = some ⟨q33, o33, .func (W.fnOf "round_way" "round_way" (defArgs s_round_way) (defBody s_round_way) (defScope s_round_way) .none k33 d33 p33 n33 e33 t33), s33⟩) (c33 : W.codeIn K e33 "round_way" = true) (b33 : W.keepIn K (.ref f33) = true)
 (a34 : W.nsIn K mainGlobals "best_round" = some (some (.ref f34))) (l34 : K.lookup f34 = some ⟨q34, o34, .func (W.fnOf "best_round" "best_round" (defArgs s_best_round) (defBody s_best_round) (defScope s_best_round) .none k34 d34 p34 n34 e34 t34), s34⟩) (c34 : W.codeIn K e34 "best_round" = true) (b34 : W.keepIn K (.ref f34) = true)
 (a35 : W.nsIn K mainGlobals "_law_a_train" = some (some (.ref f35))) (l35 : K.lookup f35 = some ⟨q35, o35, .func (W.fnOf "_law_a_train" "_law_a_train" (defArgs s_law_a_train) (defBody s_law_a_train) (defScope s_law_a_train) .none k35 d35 p35 n35 e35 t35), s35⟩) (c35 : W.codeIn K e35 "_law_a_train" = true) (b35 : W.keepIn K (.ref f35) = true)
 (a36 : W.findIn K (.ref c_Walker) "__init__" = some (some (.ref f36))) (i36 : W.isFn K (.ref f36) = true) (l36 : K.lookup f36 = some ⟨q36, o36, .func (W.fnOf "__init__" "Walker.__init__" (defArgs s_Walker___init__) (defBody s_Walker___init__) (defScope s_Walker___init__) .none k36 d36 p36 n36 e36 t36), s36⟩) (c36 : W.codeIn K e36 "Walker.__init__" = true) (b36 : W.keepIn K (.ref f36) = true)
 (a37 : W.nsIn K mainGlobals "_law_a_door" = some (some (.ref f37))) (l37 : K.lookup f37 = some ⟨q37, o37, .func (W.fnOf "_law_a_door" "_law_a_door" (defArgs s_law_a_door) (defBody s_law_a_door) (defScope s_law_a_door) .none k37 d37 p37 n37 e37 t37), s37⟩) (c37 : W.codeIn K e37 "_law_a_door" = true) (b37 : W.keepIn K (.ref f37) = true)
 (a38 : W.nsIn K mainGlobals "_law_asked" = some (some (.ref f38))) (l38 : K.lookup f38 = some ⟨q38, o38, .func (W.fnOf "_law_asked" "_law_asked" (defArgs s_law_asked) (defBody s_law_asked) (defScope s_law_asked) .none k38 d38 p38 n38 e38 t38), s38⟩) (c38 : W.codeIn K e38 "_law_asked" = true) (b38 : W.keepIn K (.ref f38) = true)
 (a39 : W.nsIn K mainGlobals "_law_a_spoilt" = some (some (.ref f39))) (l39 : K.lookup f39 = some ⟨q39, o39, .func (W.fnOf "_law_a_spoilt" "_law_a_spoilt" (defArgs s_law_a_spoilt) (defBody s_law_a_spoilt) (defScope s_law_a_spoilt) .none k39 d39 p39 n39 e39 t39), s39⟩) (c39 : W.codeIn K e39 "_law_a_spoilt" = true) (b39 : W.keepIn K (.ref f39) = true)
 (a40 : W.nsIn K mainGlobals "law" = some (some (.ref f40))) (l40 : K.lookup f40 = some ⟨q40, o40, .func (W.fnOf "law" "law" (defArgs s_law) (defBody s_law) (defScope s_law) .none k40 d40 p40 n40 e40 t40), s40⟩) (c40 : W.codeIn K e40 "law" = true) (b40 : W.keepIn K (.ref f40) = true)
 (z_ValueError : PySem.W.nsIn K mainGlobals "ValueError" = some none)
 (z_abs : PySem.W.nsIn K mainGlobals "abs" = some none)
 (z_int : PySem.W.nsIn K mainGlobals "int" = some none)
 (z_isinstance : PySem.W.nsIn K mainGlobals "isinstance" = some none)
 (z_len : PySem.W.nsIn K mainGlobals "len" = some none)
 (z_list : PySem.W.nsIn K mainGlobals "list" = some none)
 (z_max : PySem.W.nsIn K mainGlobals "max" = some none)
 (z_min : PySem.W.nsIn K mainGlobals "min" = some none)
 (z_range : PySem.W.nsIn K mainGlobals "range" = some none)
 (z_sorted : PySem.W.nsIn K mainGlobals "sorted" = some none)
 (z_sum : PySem.W.nsIn K mainGlobals "sum" = some none)
 (z_tuple : PySem.W.nsIn K mainGlobals "tuple" = some none)
 (z_zip : PySem.W.nsIn K mainGlobals "zip" = some none)
 (g_MOST_PLAYS : PySem.W.nsIn K mainGlobals "MOST_PLAYS" = some (some (.int 12 t_MOST_PLAYS)))
 (g_MOST_STANDS : PySem.W.nsIn K mainGlobals "MOST_STANDS" = some (some (.int 500 t_MOST_STANDS)))
 (w_Walker : PySem.W.nsIn K mainGlobals "Walker" = some (some (.ref c_Walker)))
 (pg_Walker : PySem.W.plainGet K c_Walker Str.empty = true)
 (hd_Walker : PySem.W.hasDictIn K c_Walker = true)
 (po_Walker : PySem.W.plainOver K c_Walker = true)
 (sa_Walker : PySem.W.findIn K (.ref c_Walker) "__setattr__" = some (some (.builtin "object.__setattr__")))
 (mk_Walker : PySem.W.makesIn K c_Walker = true)
 (kc_Walker : PySem.W.keepIn K (.ref c_Walker) = true)
 (na_Walker_plays : PySem.W.findIn K (.ref c_Walker) "plays" = some none)
 (na_Walker_states : PySem.W.findIn K (.ref c_Walker) "states" = some none)
 (n_TrainError : PySem.W.nsIn K mainGlobals "TrainError" = some (some (.ref c_TrainError)))
 (n_NoTrain : PySem.W.nsIn K mainGlobals "NoTrain" = some (some (.ref c_NoTrain)))
 (n_NoStand : PySem.W.nsIn K mainGlobals "NoStand" = some (some (.ref c_NoStand)))
 (n_NoPaper : PySem.W.nsIn K mainGlobals "NoPaper" = some (some (.ref c_NoPaper)))
 (n_NoBox : PySem.W.nsIn K mainGlobals "NoBox" = some (some (.ref c_NoBox)))
 (n_NoSwitch : PySem.W.nsIn K mainGlobals "NoSwitch" = some (some (.ref c_NoSwitch)))
 (n_NoPlace : PySem.W.nsIn K mainGlobals "NoPlace" = some (some (.ref c_NoPlace)))
 (n_NoTable : PySem.W.nsIn K mainGlobals "NoTable" = some (some (.ref c_NoTable)))
 (n_NoText : PySem.W.nsIn K mainGlobals "NoText" = some (some (.ref c_NoText)))
 (n_NoRow : PySem.W.nsIn K mainGlobals "NoRow" = some (some (.ref c_NoRow)))
 (n_NoPiece : PySem.W.nsIn K mainGlobals "NoPiece" = some (some (.ref c_NoPiece)))
 (n_NothingLeft : PySem.W.nsIn K mainGlobals "NothingLeft" = some (some (.ref c_NothingLeft)))
 (n_TooMany : PySem.W.nsIn K mainGlobals "TooMany" = some (some (.ref c_TooMany)))
 (x_NoTrain : PySem.W.excIn K c_NoTrain [.type "ValueError", .type "Exception", .type "BaseException", .type "object"] "ValueError.__new__" = true)
 (e_NoTrain : PySem.W.exmOne K (.ref c_NoTrain) (.ref c_TrainError) = some true)
 (i_NoTrain_ga : PySem.W.findIn K (.ref c_NoTrain) "__getattribute__" = some (some (.builtin "BaseException.__getattribute__")))
 (i_NoTrain_gt : PySem.W.findIn K (.ref c_NoTrain) "__getattr__" = some none)
 (i_NoTrain_mb : PySem.W.mroIn K c_NoTrain (.type "BaseException") = some true)
 (i_NoTrain_hd : PySem.W.hasDictIn K c_NoTrain = true)
 (i_NoTrain_ca : PySem.W.findIn K (.ref c_NoTrain) "__class__" = some (some (.builtin "object.__class__")))
 (i_NoTrain_sp : PySem.W.specialIn K (.builtin "object.__class__") "__get__" = some (some (.builtin "getset_descriptor.__get__")))
 (i_NoTrain_tk : PySem.W.takesIn K (.builtin "object.__class__") = some true)
 (i_NoTrain_mr : PySem.W.mroIn K c_NoTrain (.type "object") = some true)
 (k_NoTrain_NoTrain : PySem.W.kitOne K (.ref c_NoTrain) (.ref c_NoTrain) = some true)
 (k_NoTrain_NoStand : PySem.W.kitOne K (.ref c_NoTrain) (.ref c_NoStand) = some false)
 (k_NoTrain_NoPaper : PySem.W.kitOne K (.ref c_NoTrain) (.ref c_NoPaper) = some false)
 (k_NoTrain_NoBox : PySem.W.kitOne K (.ref c_NoTrain) (.ref c_NoBox) = some false)
 (k_NoTrain_NoSwitch : PySem.W.kitOne K (.ref c_NoTrain) (.ref c_NoSwitch) = some false)
 (k_NoTrain_NoPlace : PySem.W.kitOne K (.ref c_NoTrain) (.ref c_NoPlace) = some false)
 (k_NoTrain_NoTable : PySem.W.kitOne K (.ref c_NoTrain) (.ref c_NoTable) = some false)
 (k_NoTrain_NoText : PySem.W.kitOne K (.ref c_NoTrain) (.ref c_NoText) = some false)
 (k_NoTrain_NoRow : PySem.W.kitOne K (.ref c_NoTrain) (.ref c_NoRow) = some false)
 (k_NoTrain_NoPiece : PySem.W.kitOne K (.ref c_NoTrain) (.ref c_NoPiece) = some false)
 (k_NoTrain_NothingLeft : PySem.W.kitOne K (.ref c_NoTrain) (.ref c_NothingLeft) = some false)
 (k_NoTrain_TooMany : PySem.W.kitOne K (.ref c_NoTrain) (.ref c_TooMany) = some false)
 (k_NoTrain_ValueError : PySem.W.kitOne K (.ref c_NoTrain) (.type "ValueError") = some true)
 (x_NoStand : PySem.W.excIn K c_NoStand [.type "ValueError", .type "Exception", .type "BaseException", .type "object"] "ValueError.__new__" = true)
 (e_NoStand : PySem.W.exmOne K (.ref c_NoStand) (.ref c_TrainError) = some true)
 (i_NoStand_ga : PySem.W.findIn K (.ref c_NoStand) "__getattribute__" = some (some (.builtin "BaseException.__getattribute__")))
 (i_NoStand_gt : PySem.W.findIn K (.ref c_NoStand) "__getattr__" = some none)
 (i_NoStand_mb : PySem.W.mroIn K c_NoStand (.type "BaseException") = some true)
 (i_NoStand_hd : PySem.W.hasDictIn K c_NoStand = true)
 (i_NoStand_ca : PySem.W.findIn K (.ref c_NoStand) "__class__" = some (some (.builtin "object.__class__")))
 (i_NoStand_sp : PySem.W.specialIn K (.builtin "object.__class__") "__get__" = some (some (.builtin "getset_descriptor.__get__")))
 (i_NoStand_tk : PySem.W.takesIn K (.builtin "object.__class__") = some true)
 (i_NoStand_mr : PySem.W.mroIn K c_NoStand (.type "object") = some true)
 (k_NoStand_NoTrain : PySem.W.kitOne K (.ref c_NoStand) (.ref c_NoTrain) = some false)
 (k_NoStand_NoStand : PySem.W.kitOne K (.ref c_NoStand) (.ref c_NoStand) = some true)
 (k_NoStand_NoPaper : PySem.W.kitOne K (.ref c_NoStand) (.ref c_NoPaper) = some false)
 (k_NoStand_NoBox : PySem.W.kitOne K (.ref c_NoStand) (.ref c_NoBox) = some false)
 (k_NoStand_NoSwitch : PySem.W.kitOne K (.ref c_NoStand) (.ref c_NoSwitch) = some false)
 (k_NoStand_NoPlace : PySem.W.kitOne K (.ref c_NoStand) (.ref c_NoPlace) = some false)
 (k_NoStand_NoTable : PySem.W.kitOne K (.ref c_NoStand) (.ref c_NoTable) = some false)
 (k_NoStand_NoText : PySem.W.kitOne K (.ref c_NoStand) (.ref c_NoText) = some false)
 (k_NoStand_NoRow : PySem.W.kitOne K (.ref c_NoStand) (.ref c_NoRow) = some false)
 (k_NoStand_NoPiece : PySem.W.kitOne K (.ref c_NoStand) (.ref c_NoPiece) = some false)
 (k_NoStand_NothingLeft : PySem.W.kitOne K (.ref c_NoStand) (.ref c_NothingLeft) = some false)
 (k_NoStand_TooMany : PySem.W.kitOne K (.ref c_NoStand) (.ref c_TooMany) = some false)
 (k_NoStand_ValueError : PySem.W.kitOne K (.ref c_NoStand) (.type "ValueError") = some true)
 (x_NoPiece : PySem.W.excIn K c_NoPiece [.type "ValueError", .type "Exception", .type "BaseException", .type "object"] "ValueError.__new__" = true)
 (e_NoPiece : PySem.W.exmOne K (.ref c_NoPiece) (.ref c_TrainError) = some true)
 (i_NoPiece_ga : PySem.W.findIn K (.ref c_NoPiece) "__getattribute__" = some (some (.builtin "BaseException.__getattribute__")))
 (i_NoPiece_gt : PySem.W.findIn K (.ref c_NoPiece) "__getattr__" = some none)
 (i_NoPiece_mb : PySem.W.mroIn K c_NoPiece (.type "BaseException") = some true)
 (i_NoPiece_hd : PySem.W.hasDictIn K c_NoPiece = true)
 (i_NoPiece_ca : PySem.W.findIn K (.ref c_NoPiece) "__class__" = some (some (.builtin "object.__class__")))
 (i_NoPiece_sp : PySem.W.specialIn K (.builtin "object.__class__") "__get__" = some (some (.builtin "getset_descriptor.__get__")))
 (i_NoPiece_tk : PySem.W.takesIn K (.builtin "object.__class__") = some true)
 (i_NoPiece_mr : PySem.W.mroIn K c_NoPiece (.type "object") = some true)
 (k_NoPiece_NoTrain : PySem.W.kitOne K (.ref c_NoPiece) (.ref c_NoTrain) = some false)
 (k_NoPiece_NoStand : PySem.W.kitOne K (.ref c_NoPiece) (.ref c_NoStand) = some false)
 (k_NoPiece_NoPaper : PySem.W.kitOne K (.ref c_NoPiece) (.ref c_NoPaper) = some false)
 (k_NoPiece_NoBox : PySem.W.kitOne K (.ref c_NoPiece) (.ref c_NoBox) = some false)
 (k_NoPiece_NoSwitch : PySem.W.kitOne K (.ref c_NoPiece) (.ref c_NoSwitch) = some false)
 (k_NoPiece_NoPlace : PySem.W.kitOne K (.ref c_NoPiece) (.ref c_NoPlace) = some false)
 (k_NoPiece_NoTable : PySem.W.kitOne K (.ref c_NoPiece) (.ref c_NoTable) = some false)
 (k_NoPiece_NoText : PySem.W.kitOne K (.ref c_NoPiece) (.ref c_NoText) = some false)
 (k_NoPiece_NoRow : PySem.W.kitOne K (.ref c_NoPiece) (.ref c_NoRow) = some false)
 (k_NoPiece_NoPiece : PySem.W.kitOne K (.ref c_NoPiece) (.ref c_NoPiece) = some true)
 (k_NoPiece_NothingLeft : PySem.W.kitOne K (.ref c_NoPiece) (.ref c_NothingLeft) = some false)
 (k_NoPiece_TooMany : PySem.W.kitOne K (.ref c_NoPiece) (.ref c_TooMany) = some false)
 (k_NoPiece_ValueError : PySem.W.kitOne K (.ref c_NoPiece) (.type "ValueError") = some true)
 (x_TooMany : PySem.W.excIn K c_TooMany [.type "ValueError", .type "Exception", .type "BaseException", .type "object"] "ValueError.__new__" = true)
 (e_TooMany : PySem.W.exmOne K (.ref c_TooMany) (.ref c_TrainError) = some true)
 (i_TooMany_ga : PySem.W.findIn K (.ref c_TooMany) "__getattribute__" = some (some (.builtin "BaseException.__getattribute__")))
 (i_TooMany_gt : PySem.W.findIn K (.ref c_TooMany) "__getattr__" = some none)
 (i_TooMany_mb : PySem.W.mroIn K c_TooMany (.type "BaseException") = some true)
 (i_TooMany_hd : PySem.W.hasDictIn K c_TooMany = true)
 (i_TooMany_ca : PySem.W.findIn K (.ref c_TooMany) "__class__" = some (some (.builtin "object.__class__")))
 (i_TooMany_sp : PySem.W.specialIn K (.builtin "object.__class__") "__get__" = some (some (.builtin "getset_descriptor.__get__")))
 (i_TooMany_tk : PySem.W.takesIn K (.builtin "object.__class__") = some true)
 (i_TooMany_mr : PySem.W.mroIn K c_TooMany (.type "object") = some true)
 (k_TooMany_NoTrain : PySem.W.kitOne K (.ref c_TooMany) (.ref c_NoTrain) = some false)
 (k_TooMany_NoStand : PySem.W.kitOne K (.ref c_TooMany) (.ref c_NoStand) = some false)
 (k_TooMany_NoPaper : PySem.W.kitOne K (.ref c_TooMany) (.ref c_NoPaper) = some false)
 (k_TooMany_NoBox : PySem.W.kitOne K (.ref c_TooMany) (.ref c_NoBox) = some false)
 (k_TooMany_NoSwitch : PySem.W.kitOne K (.ref c_TooMany) (.ref c_NoSwitch) = some false)
 (k_TooMany_NoPlace : PySem.W.kitOne K (.ref c_TooMany) (.ref c_NoPlace) = some false)
 (k_TooMany_NoTable : PySem.W.kitOne K (.ref c_TooMany) (.ref c_NoTable) = some false)
 (k_TooMany_NoText : PySem.W.kitOne K (.ref c_TooMany) (.ref c_NoText) = some false)
 (k_TooMany_NoRow : PySem.W.kitOne K (.ref c_TooMany) (.ref c_NoRow) = some false)
 (k_TooMany_NoPiece : PySem.W.kitOne K (.ref c_TooMany) (.ref c_NoPiece) = some false)
 (k_TooMany_NothingLeft : PySem.W.kitOne K (.ref c_TooMany) (.ref c_NothingLeft) = some false)
 (k_TooMany_TooMany : PySem.W.kitOne K (.ref c_TooMany) (.ref c_TooMany) = some true)
 (k_TooMany_ValueError : PySem.W.kitOne K (.ref c_TooMany) (.type "ValueError") = some true) :
 ∃ fd : FuncData, (∀ (s : Shared) (v : Value), BindsTo s fd ⟨[v], []⟩ [("script", v)]) ∧ ∀ base : Heap, K.In base → base.Ns mainGlobals mg → FnOk l.prog w K mg base CX0 14 fa fd ["script"] (spLaw K) := by
 have e := hfa.symm.trans (PySem.W.mg_of X G a40)
 cases e
 have T : Txt mg := ⟨PySem.W.mg_none_of X G z_ValueError, PySem.W.mg_none_of X G z_abs, PySem.W.mg_none_of X G z_int, PySem.W.mg_none_of X G z_isinstance, PySem.W.mg_none_of X G z_len, PySem.W.mg_none_of X G z_list, PySem.W.mg_none_of X G z_max, PySem.W.mg_none_of X G z_min, PySem.W.mg_none_of X G z_range, PySem.W.mg_none_of X G z_sorted, PySem.W.mg_none_of X G z_sum, PySem.W.mg_none_of X G z_tuple, PySem.W.mg_none_of X G z_zip, ⟨_, PySem.W.mg_of X G g_MOST_PLAYS⟩, ⟨_, PySem.W.mg_of X G g_MOST_STANDS⟩⟩
 let Z : Cls K mg := ⟨c_TrainError, c_NoTrain, c_NoStand, c_NoPaper, c_NoBox, c_NoSwitch, c_NoPlace, c_NoTable, c_NoText, c_NoRow, c_NoPiece, c_NothingLeft, c_TooMany, PySem.W.mg_of X G n_TrainError, PySem.W.mg_of X G n_NoTrain, PySem.W.mg_of X G n_NoStand, PySem.W.mg_of X G n_NoPaper, PySem.W.mg_of X G n_NoBox, PySem.W.mg_of X G n_NoSwitch, PySem.W.mg_of X G n_NoPlace, PySem.W.mg_of X G n_NoTable, PySem.W.mg_of X G n_NoText, PySem.W.mg_of X G n_NoRow, PySem.W.mg_of X G n_NoPiece, PySem.W.mg_of X G n_NothingLeft, PySem.W.mg_of X G n_TooMany, x_NoTrain, e_NoTrain, i_NoTrain_ga, i_NoTrain_gt, i_NoTrain_mb, i_NoTrain_hd, i_NoTrain_ca, i_NoTrain_sp, i_NoTrain_tk, i_NoTrain_mr, k_NoTrain_NoTrain, k_NoTrain_NoStand, k_NoTrain_NoPaper, k_NoTrain_NoBox, k_NoTrain_NoSwitch, k_NoTrain_NoPlace, k_NoTrain_NoTable, k_NoTrain_NoText, k_NoTrain_NoRow, k_NoTrain_NoPiece, k_NoTrain_NothingLeft, k_NoTrain_TooMany, k_NoTrain_ValueError, x_NoStand, e_NoStand, i_NoStand_ga, i_NoStand_gt, i_NoStand_mb, i_NoStand_hd, i_NoStand_ca, i_NoStand_sp, i_NoStand_tk, i_NoStand_mr, k_NoStand_NoTrain, k_NoStand_NoStand, k_NoStand_NoPaper, k_NoStand_NoBox, k_NoStand_NoSwitch, k_NoStand_NoPlace, k_NoStand_NoTable, k_NoStand_NoText, k_NoStand_NoRow, k_NoStand_NoPiece, k_NoStand_NothingLeft, k_NoStand_TooMany, k_NoStand_ValueError, x_NoPiece, e_NoPiece, i_NoPiece_ga, i_NoPiece_gt, i_NoPiece_mb, i_NoPiece_hd, i_NoPiece_ca, i_NoPiece_sp, i_NoPiece_tk, i_NoPiece_mr, k_NoPiece_NoTrain, k_NoPiece_NoStand, k_NoPiece_NoPaper, k_NoPiece_NoBox, k_NoPiece_NoSwitch, k_NoPiece_NoPlace, k_NoPiece_NoTable, k_NoPiece_NoText, k_NoPiece_NoRow, k_NoPiece_NoPiece, k_NoPiece_NothingLeft, k_NoPiece_TooMany, k_NoPiece_ValueError, x_TooMany, e_TooMany, i_TooMany_ga, i_TooMany_gt, i_TooMany_mb, i_TooMany_hd, i_TooMany_ca, i_TooMany_sp, i_TooMany_tk, i_TooMany_mr, k_TooMany_NoTrain, k_TooMany_NoStand, k_TooMany_NoPaper, k_TooMany_NoBox, k_TooMany_NoSwitch, k_TooMany_NoPlace, k_TooMany_NoTable, k_TooMany_NoText, k_TooMany_NoRow, k_TooMany_NoPiece, k_TooMany_NothingLeft, k_TooMany_TooMany, k_TooMany_ValueError⟩
 let Y : Own K mg := ⟨c_Walker, PySem.W.mg_of X G w_Walker, pg_Walker, hd_Walker, po_Walker, sa_Walker, mk_Walker, kc_Walker, na_Walker_plays, na_Walker_states⟩
 have F_law_cell_at := fun_mk (st := s_law_cell_at) l0 c0 b0
 have D_law_cell_at : Def K mg "_law_cell_at" s_law_cell_at := ⟨_, _, F_law_cell_at, W.mg_of X G a0⟩
 have F_law_draws := fun_mk (st := s_law_draws) l1 c1 b1
 have D_law_draws : Def K mg "_law_draws" s_law_draws := ⟨_, _, F_law_draws, W.mg_of X G a1⟩
 have F_law_a_kin := fun_mk (st := s_law_a_kin) l2 c2 b2
 have D_law_a_kin : Def K mg "_law_a_kin" s_law_a_kin := ⟨_, _, F_law_a_kin, W.mg_of X G a2⟩
 have F_law_due_kin := fun_mk (st := s_law_due_kin) l3 c3 b3
 have D_law_due_kin : Def K mg "_law_due_kin" s_law_due_kin := ⟨_, _, F_law_due_kin, W.mg_of X G a3⟩
 have F_is_train := fun_mk (st := s_is_train) l4 c4 b4
 have D_is_train : Def K mg "is_train" s_is_train := ⟨_, _, F_is_train, W.mg_of X G a4⟩
 have F_keeps_plays := fun_mk (st := s_keeps_plays) l5 c5 b5
 have D_keeps_plays : Def K mg "keeps_plays" s_keeps_plays := ⟨_, _, F_keeps_plays, W.mg_of X G a5⟩
 have F_dragged := fun_mk (st := s_dragged) l6 c6 b6
 have D_dragged : Def K mg "dragged" s_dragged := ⟨_, _, F_dragged, W.mg_of X G a6⟩
 have F_all_dragged := fun_mk (st := s_all_dragged) l7 c7 b7
 have D_all_dragged : Def K mg "all_dragged" s_all_dragged := ⟨_, _, F_all_dragged, W.mg_of X G a7⟩
 have F_refuse_no_train := fun_mk (st := s_refuse_no_train) l8 c8 b8
 have D_refuse_no_train : Def K mg "refuse_no_train" s_refuse_no_train := ⟨_, _, F_refuse_no_train, W.mg_of X G a8⟩
 have F_is_stand := fun_mk (st := s_is_stand) l9 c9 b9
 have D_is_stand : Def K mg "is_stand" s_is_stand := ⟨_, _, F_is_stand, W.mg_of X G a9⟩
 have F_depths_of := fun_mk (st := s_depths_of) l10 c10 b10
 have D_depths_of : Def K mg "depths_of" s_depths_of := ⟨_, _, F_depths_of, W.mg_of X G a10⟩
 have F_refuse_no_stand := fun_mk (st := s_refuse_no_stand) l11 c11 b11
 have D_refuse_no_stand : Def K mg "refuse_no_stand" s_refuse_no_stand := ⟨_, _, F_refuse_no_stand, W.mg_of X G a11⟩
 have F_refuse_no_bounds := fun_mk (st := s_refuse_no_bounds) l12 c12 b12
 have D_refuse_no_bounds : Def K mg "refuse_no_bounds" s_refuse_no_bounds := ⟨_, _, F_refuse_no_bounds, W.mg_of X G a12⟩
 have F_ranges_of := fun_mk (st := s_ranges_of) l13 c13 b13
 have D_ranges_of : Def K mg "ranges_of" s_ranges_of := ⟨_, _, F_ranges_of, W.mg_of X G a13⟩
 have F_stands_beside := fun_mk (st := s_stands_beside) l14 c14 b14
 have D_stands_beside : Def K mg "stands_beside" s_stands_beside := ⟨_, _, F_stands_beside, W.mg_of X G a14⟩
 have F_stands_within := fun_mk (st := s_stands_within) l15 c15 b15
 have D_stands_within : Def K mg "stands_within" s_stands_within := ⟨_, _, F_stands_within, W.mg_of X G a15⟩
 have F_refuse_no_piece := fun_mk (st := s_refuse_no_piece) l16 c16 b16
 have D_refuse_no_piece : Def K mg "refuse_no_piece" s_refuse_no_piece := ⟨_, _, F_refuse_no_piece, W.mg_of X G a16⟩
 have F_moved := fun_mk (st := s_moved) l17 c17 b17
 have D_moved : Def K mg "moved" s_moved := ⟨_, _, F_moved, W.mg_of X G a17⟩
 have F_grabs_of := fun_mk (st := s_grabs_of) l18 c18 b18
 have D_grabs_of : Def K mg "grabs_of" s_grabs_of := ⟨_, _, F_grabs_of, W.mg_of X G a18⟩
 have F_grabbed := fun_mk (st := s_grabbed) l19 c19 b19
 have D_grabbed : Def K mg "grabbed" s_grabbed := ⟨_, _, F_grabbed, W.mg_of X G a19⟩
 have F_pieces_of := fun_mk (st := s_pieces_of) l20 c20 b20
 have D_pieces_of : Def K mg "pieces_of" s_pieces_of := ⟨_, _, F_pieces_of, W.mg_of X G a20⟩
 have F_must_place := fun_mk (st := s_must_place) l21 c21 b21
 have D_must_place : Def K mg "must_place" s_must_place := ⟨_, _, F_must_place, W.mg_of X G a21⟩
 have F_side_to_go := fun_mk (st := s_side_to_go) l22 c22 b22
 have D_side_to_go : Def K mg "side_to_go" s_side_to_go := ⟨_, _, F_side_to_go, W.mg_of X G a22⟩
 have F_is_beyond := fun_mk (st := s_is_beyond) l23 c23 b23
 have D_is_beyond : Def K mg "is_beyond" s_is_beyond := ⟨_, _, F_is_beyond, W.mg_of X G a23⟩
 have F_first_musts := fun_mk (st := s_first_musts) l24 c24 b24
 have D_first_musts : Def K mg "first_musts" s_first_musts := ⟨_, _, F_first_musts, W.mg_of X G a24⟩
 have F_way_of := fun_mk (st := s_way_of) l25 c25 b25
 have D_way_of : Def K mg "way_of" s_way_of := ⟨_, _, F_way_of, W.mg_of X G a25⟩
 have F_refuse_no_errand := fun_mk (st := s_refuse_no_errand) l26 c26 b26
 have D_refuse_no_errand : Def K mg "refuse_no_errand" s_refuse_no_errand := ⟨_, _, F_refuse_no_errand, W.mg_of X G a26⟩
 have F_paper_of := fun_mk (st := s_paper_of) l27 c27 b27
 have D_paper_of : Def K mg "paper_of" s_paper_of := ⟨_, _, F_paper_of, W.mg_of X G a27⟩
 have F_least_row := fun_mk (st := s_least_row) l28 c28 b28
 have D_least_row : Def K mg "least_row" s_least_row := ⟨_, _, F_least_row, W.mg_of X G a28⟩
 have F_least_of := fun_mk (st := s_least_of) l29 c29 b29
 have D_least_of : Def K mg "least_of" s_least_of := ⟨_, _, F_least_of, W.mg_of X G a29⟩
 have F_refuse_no_round := fun_mk (st := s_refuse_no_round) l30 c30 b30
 have D_refuse_no_round : Def K mg "refuse_no_round" s_refuse_no_round := ⟨_, _, F_refuse_no_round, W.mg_of X G a30⟩
 have F_ways_between := fun_mk (st := s_ways_between) l31 c31 b31
 have D_ways_between : Def K mg "ways_between" s_ways_between := ⟨_, _, F_ways_between, W.mg_of X G a31⟩
 have F_best_from := fun_mk (st := s_best_from) l32 c32 b32
 have D_best_from : Def K mg "best_from" s_best_from := ⟨_, _, F_best_from, W.mg_of X G a32⟩
 have F_round_way := fun_mk (st := s_round_way) l33 c33 b33
 have D_round_way : Def K mg "round_way" s_round_way := ⟨_, _, F_round_way, W.mg_of X G a33⟩
 have F_best_round := fun_mk (st := s_best_round) l34 c34 b34
 have D_best_round : Def K mg "best_round" s_best_round := ⟨_, _, F_best_round, W.mg_of X G a34⟩
 have F_law_a_train := fun_mk (st := s_law_a_train) l35 c35 b35
 have D_law_a_train : Def K mg "_law_a_train" s_law_a_train := ⟨_, _, F_law_a_train, W.mg_of X G a35⟩
 have F_Walker___init__ := fun_mk (st := s_Walker___init__) l36 c36 b36
 have D_Walker___init__ : DefM K Y.c_Walker "__init__" "Walker.__init__" s_Walker___init__ := ⟨_, _, F_Walker___init__, ⟨a36, i36, b36⟩⟩
 have F_law_a_door := fun_mk (st := s_law_a_door) l37 c37 b37
 have D_law_a_door : Def K mg "_law_a_door" s_law_a_door := ⟨_, _, F_law_a_door, W.mg_of X G a37⟩
 have F_law_asked := fun_mk (st := s_law_asked) l38 c38 b38
 have D_law_asked : Def K mg "_law_asked" s_law_asked := ⟨_, _, F_law_asked, W.mg_of X G a38⟩
 have F_law_a_spoilt := fun_mk (st := s_law_a_spoilt) l39 c39 b39
 have D_law_a_spoilt : Def K mg "_law_a_spoilt" s_law_a_spoilt := ⟨_, _, F_law_a_spoilt, W.mg_of X G a39⟩
 have F_law := fun_mk (st := s_law) l40 c40 b40
 have D_law : Def K mg "law" s_law := ⟨_, _, F_law, W.mg_of X G a40⟩
 refine ⟨PySem.W.fnOf "law" "law" (defArgs s_law) (defBody s_law) (defScope s_law) .none k40 d40 p40 n40 e40 t40, fun s v => .of_eq rfl, fun base _ _ => ?_⟩
 have C_law_cell_at := ok_law_cell_at (P := l.prog) (w := w) (base := base) T D_law_cell_at
 have C_law_draws := ok_law_draws (P := l.prog) (w := w) (base := base) T D_law_draws
 have C_law_a_kin := ok_law_a_kin (P := l.prog) (w := w) (base := base) T Z D_law_a_kin
 have C_law_due_kin := ok_law_due_kin (P := l.prog) (w := w) (base := base) T D_law_due_kin
 have C_is_train := ok_is_train (P := l.prog) (w := w) (base := base) T D_is_train
 have C_keeps_plays := ok_keeps_plays (P := l.prog) (w := w) (base := base) T D_keeps_plays
 have C_dragged := ok_dragged (P := l.prog) (w := w) (base := base) T D_dragged
 have C_all_dragged := ok_all_dragged (P := l.prog) (w := w) (base := base) T D_all_dragged (C_dragged := C_dragged)
 have C_refuse_no_train := ok_refuse_no_train (P := l.prog) (w := w) (base := base) T Z D_refuse_no_train (C_is_train := C_is_train)
 have C_is_stand := ok_is_stand (P := l.prog) (w := w) (base := base) T Z D_is_stand (C_refuse_no_train := C_refuse_no_train) (C_keeps_plays := C_keeps_plays)
 have C_depths_of := ok_depths_of (P := l.prog) (w := w) (base := base) T Z D_depths_of (C_refuse_no_train := C_refuse_no_train)
 have C0_depths_of := calm_depths_of C_depths_of
 have C_refuse_no_stand := ok_refuse_no_stand (P := l.prog) (w := w) (base := base) T Z D_refuse_no_stand (C_is_stand := C_is_stand)
 have C0_refuse_no_stand := calm_refuse_no_stand C_refuse_no_stand
 have C_refuse_no_bounds := ok_refuse_no_bounds (P := l.prog) (w := w) (base := base) T Z D_refuse_no_bounds (C_refuse_no_stand := C_refuse_no_stand)
 have C_ranges_of := ok_ranges_of (P := l.prog) (w := w) (base := base) T Z D_ranges_of (C_refuse_no_bounds := C_refuse_no_bounds) (C_depths_of := C0_depths_of)
 have C_stands_beside := ok_stands_beside (P := l.prog) (w := w) (base := base) T D_stands_beside (C_all_dragged := C_all_dragged)
 have C_stands_within := ok_stands_within (P := l.prog) (w := w) (base := base) T Z D_stands_within (C_refuse_no_bounds := C_refuse_no_bounds) (C_stands_beside := C_stands_beside)
 have C_refuse_no_piece := ok_refuse_no_piece (P := l.prog) (w := w) (base := base) T Z D_refuse_no_piece
 have C_moved := ok_moved (P := l.prog) (w := w) (base := base) T D_moved (C_all_dragged := C_all_dragged)
 have C_grabs_of := ok_grabs_of (P := l.prog) (w := w) (base := base) T Z D_grabs_of (C_refuse_no_stand := C_refuse_no_stand) (C_refuse_no_piece := C_refuse_no_piece) (C_moved := C_moved)
 have C_grabbed := ok_grabbed (P := l.prog) (w := w) (base := base) T Z D_grabbed (C_grabs_of := C_grabs_of)
 have C_pieces_of := ok_pieces_of (P := l.prog) (w := w) (base := base) T D_pieces_of
 have C_must_place := ok_must_place (P := l.prog) (w := w) (base := base) T D_must_place (C_refuse_no_stand := C0_refuse_no_stand) (C_pieces_of := C_pieces_of) (C_depths_of := C0_depths_of)
 have C_side_to_go := ok_side_to_go (P := l.prog) (w := w) (base := base) T D_side_to_go (C_pieces_of := C_pieces_of)
 have C_is_beyond := ok_is_beyond (P := l.prog) (w := w) (base := base) T D_is_beyond (C_pieces_of := C_pieces_of) (C_depths_of := C0_depths_of) (C_must_place := C_must_place)
 have C_first_musts := ok_first_musts (P := l.prog) (w := w) (base := base) T D_first_musts (C_side_to_go := C_side_to_go)
 have C_way_of := ok_way_of (P := l.prog) (w := w) (base := base) T D_way_of
 have C_refuse_no_errand := ok_refuse_no_errand (P := l.prog) (w := w) (base := base) T Z D_refuse_no_errand (C_refuse_no_stand := C_refuse_no_stand)
 have C_paper_of := ok_paper_of (P := l.prog) (w := w) (base := base) T Z D_paper_of (C_refuse_no_errand := C_refuse_no_errand) (C_first_musts := C_first_musts) (C_is_beyond := C_is_beyond)
 have C_least_row := ok_least_row (P := l.prog) (w := w) (base := base) T Z D_least_row (C_paper_of := C_paper_of) (C_must_place := C_must_place)
 have C_least_of := ok_least_of (P := l.prog) (w := w) (base := base) T Z D_least_of (C_way_of := C_way_of) (C_least_row := C_least_row)
 have C0_least_of := calm_least_of C_least_of
 have C_refuse_no_round := ok_refuse_no_round (P := l.prog) (w := w) (base := base) T Z D_refuse_no_round (C_refuse_no_stand := C_refuse_no_stand)
 have C_ways_between := ok_ways_between (P := l.prog) (w := w) (base := base) T D_ways_between (C_least_of := C0_least_of)
 have C_best_from := ok_best_from (P := l.prog) (w := w) (base := base) T D_best_from
 have C_round_way := ok_round_way (P := l.prog) (w := w) (base := base) T Z D_round_way (C_refuse_no_round := C_refuse_no_round) (C_least_of := C0_least_of)
 have C_best_round := ok_best_round (P := l.prog) (w := w) (base := base) T Z D_best_round (C_refuse_no_round := C_refuse_no_round) (C_ways_between := C_ways_between) (C_best_from := C_best_from)
 have C_law_a_train := ok_law_a_train (P := l.prog) (w := w) (base := base) T D_law_a_train (C_law_draws := C_law_draws) (C_law_cell_at := C_law_cell_at)
 have C_Walker___init__ := ok_Walker___init__ (P := l.prog) (w := w) (base := base) T Z Y D_Walker___init__ (C_refuse_no_stand := C_refuse_no_stand)
 have C_Walker := CalleeM.made (x := "Walker") C_Walker___init__ Y.mk_Walker Y.kc_Walker Y.m_Walker
 have C_law_a_door := ok_law_a_door (P := l.prog) (w := w) (base := base) T Z Y D_law_a_door (C_Walker := C_Walker) (C_grabbed := C_grabbed) (C_grabs_of := C_grabs_of) (C_ranges_of := C_ranges_of) (C_stands_within := C_stands_within) (C_round_way := C_round_way) (C_best_round := C_best_round)
 have C_law_asked := ok_law_asked (P := l.prog) (w := w) (base := base) T Z D_law_asked (C_law_a_door := C_law_a_door) (C_law_a_kin := C_law_a_kin)
 have C_law_a_spoilt := ok_law_a_spoilt (P := l.prog) (w := w) (base := base) T D_law_a_spoilt
 exact ok_law F_law T Z Y (C_law_a_train := C_law_a_train) (C_law_cell_at := C_law_cell_at) (C_law_a_spoilt := C_law_a_spoilt) (C_law_draws := C_law_draws) (C_law_asked := C_law_asked) (C_law_due_kin := C_law_due_kin)
theorem walk {l : PySem.W.OpenLaw} {q : Program} {loose : List Str} {XP : (Str → Option Value) → Heap → Prop} {YP : World → Heap → Prop} {d : DefRec} {K : Params → PySem.W.Frag} (hn : l.most = some 63) (hdf : d.params.defaults = [])
 (hY : ∀ (w : World) (h : Heap), YP w h → (K w.params).In h)
 (F : ∀ (w : World) (mg : Str → Option Value) (fa : Addr) (h : Heap), (K w.params).In h → h.Ns mainGlobals mg → mg d.name = some (.ref fa) →
  ∃ fd : FuncData, (∀ (s : Shared) (u : Value), BindsTo s fd ⟨[u], []⟩ [("script", u)]) ∧ ∀ base : Heap, (K w.params).In base → base.Ns mainGlobals mg → FnOk l.prog w (K w.params) mg base CX0 14 fa fd ["script"] (spLaw (K w.params))) :
 PySem.W.WalkO q loose XP YP l.row.toRowW d [] (fun f vs => PySem.call f vs) :=
 L2.walk_of (n := 63) (k := 14) (x := "script") (CX := fun _ => CX0) (sp := fun w => spLaw (K w.params)) hn (by decide) hdf ⟨rfl, by decide, by decide⟩ hY F (fun _ _ a ns hl _ hS => ⟨a, ns, rfl, hS, hl, fun _ => rfl⟩) fun _ _ _ _ _ z => z
end My
inductive PySem.W.Fast : Prop where
| tw11933319801310996173
| tw4085825142604407883
| tw8514047605720908945
| tw5276935657874207772
| tw12313762808742708784
| tw6573245042349754036
| tw16103197377275926430
| tw5852550685757486104
| tw13374672450662069688
| tw14426789698839348544
| tw2473305161975565538
| tw9948488933919992762
| tw12355035717294430151
| tw6412534425646205806
| tw18028729217755918053
| tw312773556197178204
| tw10263905993067358484
| tw18051494702651245972
| tw12629282943579331735
| tw5158545003797847627
| tw17684038260359671648
| tw532673838077726882
| tw1032853223909576616
| tw14984640279225605993
| tw16352882712969202266
| tw6740768788437874860
| tw6007064486534241382
| tw10021012723666847751
| tw8086717763941073527
| tw14115189993513106573
| tw8477374530382550050
| tw15216520687461150311
| tw649099093210171976
| tw159281650045069521
| tw5603842858193519218
| tw4041135415776820232
| tw2893790098661891726
| tw18208413481466864198
| tw10556464414141723087
| tw7491389633494893910
| tw10282476593495570357
| tw17910964133306081789
| tw18325085805903459300
| tw7527802031861091684
| tw12030435411511165109
| tw9276393266280952302
| tw7984086480840419680
| tw4075119477693569649
| tw6678763606134645367
| tw12827783769040429884
| tw4885383905101128147
| tw15027590759863745397
| tw7518875806393278191
| tw10909147241406068950
| tw4689576202702352629
| tw807663833548181857
| tw10074737427844016618
| tw14530614879284841898
| tw12826500235315958790
| tw2737251620651360166
| tw7693160826404269350
| tw7412863752003782695
| tw6434428104810056799
| tw16596202953239049756
| tw13556788342434682727
| tw1786318428313371302
| tw8955499175839655945
| tw3953418881424839216
| tw6106484981799784340
| tw5420152180166066934
| tw2570506372395999873
| tw16251792588830698199
| tw11310853506679324428
| tw11695808812982305576
| tw16841082595529416439
| tw17915978091482153337
| tw9763041201082977696
| tw7782380879856479897
| tw8922654679067100574
| tw4790314313957864855
| tw5589102123275157277
| tw2396077869046435362
| tw14852735502169876477
| tw5845061058273675778
| tw17153126959416467474
| tw459792110908467115
| tw8890284664781427295
| tw10433309026335105134
| tw8315666408126542935
| tw9945863506568628572
| tw16663331380363863132
| tw10130999976094036111
| tw561246197493384127
| tw1395323138854269470
| tw9863304456900922026
| tw6211551201998394366
| tw13650188924479724853
| tw6352345416027131067
| tw8960367560586144239
| tw10980340466820783385
| tw18118584318331103774
| tw9454025748840869601
| tw10664492302843662520
| tw17109959155786767929
| tw3431404311962034284
| tw15235473056740134848
| tw12770619050690770615
| tw1008197657013631638
| tw7754777094285992472
| tw17133060528523584144
| tw5808549918946860585
| tw6445199616410714070
| tw6517234327826857295
| tw15789823046411825761
| tw11246209142284623889
| tw13000443111342314398
| tw12597316505049207827
| tw2838127728159709258
| tw1978495314990184569
| tw14491066438043907124
| tw16425621943215878796
| tw10964386153705798458
| tw10248304113187085471
| tw7358282171891819985
| tw6505422338831922224
| tw18166277894591493895
| tw2105576960861971650
| tw8077712595505982182
| tw2203775643323135846
| tw9682586046061762137
| tw6188449382556820181
| tw11239185875387020972
| tw10830676806677543409
| tw1155297509433601972
| tw6823945251316092303
| tw12044067987252567246
| tw12088430080662487100
| tw1145572512010818403
| tw11630403506883526243
| tw12831034531499456028
| tw1046151164104848066
| tw9429923521670471820
| tw11740025292762052152
| tw3561286244599082906
| tw14185687428887865662
| tw2220236479926492388
| tw10063047309067541951
| tw5510888879461123113
| tw8571095192711491098
| tw5504140202568303883
| tw10898761690030125565
| tw9108231374451920974
| tw12054863443776976407
| tw17698131896528598017
| tw14868223023997090619
| tw2365642205617506674
| tw5924990527809566454
| tw704405058673041578
| tw17769445899090842151
| tw3345315647013028908
| tw13528962058439706401
| tw17767721434385713801
| tw12489847307941723154
| tw300107483604561377
| tw3345437183986553213
| tw2179013350826770734
| tw12975950928205287450
| tw14198310446672516104
| tw17917199272309914839
| tw11649058330555051414
| tw11406047034843131332
| tw6293438107641080209
| tw13532277838880696718
| tw7545228643456882216
| tw14812663889550475454
| tw8373033072928537668
| tw12000482598732771488
| tw10609844912834813462
| tw7430812187735410320
| tw12426898645051842014
| tw422700379137865983
| tw1496891953917912239
| tw2283312713066827447
| tw8935736520327208064
| tw11705112523271464725
| tw17348503852242609714
| tw5239023900210837206
| tw16529995309526850462
| tw1682592906789092849
| tw12790487430152959389
| tw5458056542454283166
| tw12974490388223336139
| tw14242912921330852866
| tw11357308844185117928
| tw10132251552907080205
| tw17899713622205081351
| tw7088950124065221741
| tw3077854711774156824
| tw14081440123241753758
| tw2123034565664151047
| tw17043732495161093472
| tw11092597032892436573
| tw11706883840536326779
| tw3656741488749649856
| tw182253602173629267
| tw11612863273619729395
| tw3678455495628365443
| tw14460726940367986992
| tw14551808747597703972
| tw16959144140274249271
| tw17835629597795600237
| tw17280839101526962479
| tw3287409577299738007
| tw1081223831256260027
| tw16821499504691541722
| tw6910210950094324215
| tw3420987535091788944
| tw2213278088267909915
| tw18091538969286259565
| tw14499058670107413694
| tw8711945233646218949
| tw8219371206754018104
| tw989493107717469034
| tw15232696533175694668
| tw18035922592579768156
| tw18173666836380440666
| tw7305632184936888339
| tw17176680596929851633
| tw898462397182234502
| tw7359909663593696395
| tw11554527038316987249
| tw3376466088389218901
| tw3934905460941286542
| tw6189198010263781201
| tw8808426758712560479
| tw6070937515985385416
| tw15293864571399755361
| tw2221255694251507746
| tw8735215698612007382
| tw11940485973252654541
| tw3623008326749937580
| tw1797175731021947798
| tw1096293687471873683
| tw14570967183358469390
| tw16378067740475846226
| tw438211341428457035
| tw15636095681481023209
| tw10197603051896567838
| tw16333384457992214337
| tw11680276442678135763
| tw7799940835967203299
| tw15085068334357984777
| tw9197516429999468514
| tw8795414275461199956
| tw13986863033094359691
| tw18039531074267591868
| tw14497077035534930273
| tw4237892302779576343
| tw13809703562982961950
| tw130577617961201179
| tw15637813298487091942
| tw2485274791019240032
| tw8418539729129829461
| tw16364179961254699460
| tw1938704303110753231
| tw17461310108287915902
| tw9207197328984691373
| tw7477012644312717548
| tw13827617340641785252
| tw11107077172569131574
| tw8088123944872809292
| tw6029798283198418772
| tw8842548394002525900
| tw5531216581286272197
| tw11014916046907040823
| tw17169191354499806837
| tw12727743647506877978
| tw7718312442459584875
| tw5396429670028127956
| tw8341619847921846865
| tw1112741686936449874
| tw1983005575139550332
| tw15676338099265002639
| tw149009618986814239
| tw2099464949760819165
| tw3605793907666586509
| tw10773809369946952835
| tw16041909741319287242
| tw4607728812862264786
| tw7282283698690777757
| tw5432728153508750027
| tw9908348842433256943
| tw136090943112289680
| tw5770133835776864037
| tw10315218452434118551
| tw420251960977640124
| tw4618698808093418728
| tw2568905160684156590
| tw17248354626379592870
| tw6371790160267968699
| tw10021306621907209844
| tw2549252659616774527
| tw2494244200834730894
| tw2514068540409711353
| tw12124419177536064609
| tw9710411826729332709
| tw775458474369557746
| tw7606071761365072084
| tw3216695414142457301
| tw8403452143980563376
| tw10351095800546248610
| tw280829494762111942
| tw3842639608229212294
| tw15765933397861604625
| tw12272785222136283715
| tw914285849407852618
| tw16103653741476465432
| tw4877480831489509008
| tw15715257792224145237
| tw2090418319597450216
| tw4223132028605685993
| tw5263057456919770114
| tw3148603803384185302
| tw2450890081750336295
| tw4992936047498339339
| tw5261509267653735833
| tw15022582048839293319
| tw18042822997998659903
| tw14175204531313475673
| tw16626934567493114423
| tw1990516502260097207
| tw12062774975361964241
| tw17731839868425366952
| tw11955259848015667048
| tw7492384113402368897
| tw16489327277401830898
| tw2678596807090899743
| tw717872098736126515
| tw9519696646913143883
| tw788288954291522149
| tw11358465436285196594
| tw16854854794288862295
| tw13088261955617478782
| tw15735013005675694024
| tw7305205199864212155
| tw13294528970303447839
| tw16844865247247766365
| tw15422199743704812134
| tw1345282378516898136
| tw16138246551308596323
| tw10069104068092461705
| tw10832567716513314933
| tw4630775782507043015
| tw10766693864132883411
| tw10624923496074702924
| tw1489249179141506037
| tw10601892241638518379
| tw1062014039099481348
| tw12298436980692866208
| tw5563723056630990740
| tw10863877186730093730
| tw14838516090344653201
| tw9544806346135413287
| tw16118879759681388466
| tw12850206573700253589
| tw10652292571280886691
| tw3370586621394733126
| tw9901901205497518198
| tw4060839017930202657
| tw4352239470447546924
| tw3772657075872232140
| tw11502579654673756355
| tw15159343132025378381
| tw15148089762938330024
| tw16816743429694746455
| tw7400504910575315978
| tw17389466745716385169
| tw640063692762176118
| tw4497111150791005574
| tw12786345646604041727
| tw4021345880400209170
| tw8706504063609021098
| tw644465309618769310
| tw14505331300996703230
| tw5542620931696749551
| tw13238704002824814582
| tw5550009722567783263
| tw7718437348851821492
| tw16044607099631416759
| tw17577901954222569858
| tw2427770757998859898
| tw4803223717371738400
| tw8265457654011446593
| tw4782750884041383987
| tw7035930966696053914
| tw7750017377684283636
| tw9013011712201310984
| tw13400330895141527959
| tw15439510841676615935
| tw18248367105924495592
| tw14623410320744321739
| tw3868319987100121152
| tw7562081083257453035
| tw11644861352636224673
| tw16320048534864699381
| tw5539279519857065631
| tw11999358191197454228
| tw15405053278847010555
| tw2484481371904297734
| tw17269938500225175314
| tw13624952707254113707
| tw13484102382659992638
| tw5076830736390684080
| tw13251126244624697143
| tw1770546120430059168
| tw1952818862050505407
| tw12963799375598247308
| tw4037005874395928278
| tw3889728116924023790
| tw10233611162416765059
| tw4211988001906097602
| tw13377070958711632585
| tw783314472461804979
| tw15579334642805513339
| tw10978460093002097968
| tw2275499083059406322
| tw2746713365751065929
| tw15981863412773591559
| tw4213224393623533201
| tw6972714072286759351
| tw13972152657466644113
| tw12446285223591339418
| tw17994202322421543507
| tw12348991732981294138
| tw4684912237401736253
| tw8884007936297736180
| tw5082912550140537535
| tw10511750036971268837
| tw9435611567382116917
| tw15638296469963900856
| tw11377461337017873396
| tw180158764440691633
| tw13121581705161426723
| tw7815305099595748646
| tw4630463161805695648
| tw4321474192967259902
| tw16375619384802728378
| tw12834753606148684725
| tw6145969123426491300
| tw1511554480495612738
| tw7787069549208830152
| tw4855492746651879302
| tw3872921790961323071
| tw16316124864919027190
| tw18042165631077580435
| tw9560545405148045607
| tw8722406232312398191
| tw17468690167042108394
| tw5833976184548016185
| tw2913722706513614602
| tw449441090481377824
| tw6634781325265857126
| tw464981097316415894
| tw12214494476772940669
| tw12207492131321552466
| tw13693911095080960490
| tw4566450582137559408
| tw887987783847029008
| tw10848999473908717613
| tw7316529844598939365
| tw15810371625058181841
| tw4018922516344463215
| tw11124596799380414825
| tw16685087654265323595
| tw13495017746043109610
| tw17990820754863566169
| tw17842875605871947129
| tw5178028727419749872
| tw10958561563633417285
| tw5255368719874040846
| tw12155975458329690326
| tw3065584558663518476
| tw12167877201339723969
| tw4185576929111349537
| tw9415029055644919676
| tw14980564724306056823
| tw7900068934741545963
| tw17221297080605925363
| tw164148906930712014
| tw165455695620519300
| tw1826343327189783029
| tw14747484753328006999
| tw12542161158127440618
| tw566577380526389842
| tw6343895843745497963
| tw7185950910282361473
| tw12363558409451832401
| tw18177134758972541426
| tw8017135524481722191
| tw6775454207983447394
open PySem PySem.W PyProof.Rows
set_option maxRecDepth 100000 in
set_option maxHeartbeats 0 in
theorem PySem.Challenge.cw_lugtrain_k45_refused_at_all_new_doors_holds : PySem.Challenge.rw_lugtrain_k45_refused_at_all_new_doors.Holds := by
 w_on; o_law; k_head; (case hw => w_witness2)
 k_fill
 refine My.walk (l := PySem.Challenge.rw_lugtrain_k45_refused_at_all_new_doors) rfl rfl (fun w h Y => PySem.W.kIn_of Y) ?F
 case F =>
  intro w mg fa h KX G hmg
  refine' My.all_mk KX G hmg ?a0 ?l0 ?c0 ?b0 ?a1 ?l1 ?c1 ?b1 ?a2 ?l2 ?c2 ?b2 ?a3 ?l3 ?c3 ?b3 ?a4 ?l4 ?c4 ?b4 ?a5 ?l5 ?c5 ?b5 ?a6 ?l6 ?c6 ?b6 ?a7 ?l7 ?c7 ?b7 ?a8 ?l8 ?c8 ?b8 ?a9 ?l9 ?c9 ?b9 ?a10 ?l10 ?c10 ?b10 ?a11 ?l11 ?c11 ?b11 ?a12 ?l12 ?c12 ?b12 ?a13 ?l13 ?c13 ?b13 ?a14 ?l14 ?c14 ?b14 ?a15 ?l15 ?c15 ?b15 ?a16 ?l16 ?c16 ?b16 ?a17 ?l17 ?c17 ?b17 ?a18 ?l18 ?c18 ?b18 ?a19 ?l19 ?c19 ?b19 ?a20 ?l20 ?c20 ?b20 ?a21 ?l21 ?c21 ?b21 ?a22 ?l22 ?c22 ?b22 ?a23 ?l23 ?c23 ?b23 ?a24 ?l24 ?c24 ?b24 ?a25 ?l25 ?c25 ?b25 ?a26 ?l26 ?c26 ?b26 ?a27 ?l27 ?c27 ?b27 ?a28 ?l28 ?c28 ?b28 ?a29 ?l29 ?c29 ?b29 ?a30 ?l30 ?c30 ?b30 ?a31 ?l31 ?c31 ?b31 ?a32 ?l32 ?c32 ?b32 ?a33 ?l33 ?c33 ?b33 ?a34 ?l34 ?c34 ?b34 ?a35 ?l35 ?c35 ?b35 ?a36 ?i36 ?l36 ?c36 ?b36 ?a37 ?l37 ?c37 ?b37 ?a38 ?l38 ?c38 ?b38 ?a39 ?l39 ?c39 ?b39 ?a40 ?l40 ?c40 ?b40 ?z_ValueError ?z_abs ?z_int ?z_isinstance ?z_len ?z_list ?z_max ?z_min ?z_range ?z_sorted ?z_sum ?z_tuple ?z_zip ?g_MOST_PLAYS ?g_MOST_STANDS ?w_Walker ?pg_Walker ?hd_Walker ?po_Walker ?sa_Walker ?mk_Walker ?kc_Walker ?na_Walker_plays ?na_Walker_states ?n_TrainError ?n_NoTrain ?n_NoStand ?n_NoPaper ?n_NoBox ?n_NoSwitch ?n_NoPlace ?n_NoTable ?n_NoText ?n_NoRow ?n_NoPiece ?n_NothingLeft ?n_TooMany ?x_NoTrain ?e_NoTrain ?i_NoTrain_ga ?i_NoTrain_gt ?i_NoTrain_mb ?i_NoTrain_hd ?i_NoTrain_ca ?i_NoTrain_sp ?i_NoTrain_tk ?i_NoTrain_mr ?k_NoTrain_NoTrain ?k_NoTrain_NoStand ?k_NoTrain_NoPaper ?k_NoTrain_NoBox ?k_NoTrain_NoSwitch ?k_NoTrain_NoPlace ?k_NoTrain_NoTable ?k_NoTrain_NoText ?k_NoTrain_NoRow ?k_NoTrain_NoPiece ?k_NoTrain_NothingLeft ?k_NoTrain_TooMany ?k_NoTrain_ValueError ?x_NoStand ?e_NoStand ?i_NoStand_ga ?i_NoStand_gt ?i_NoStand_mb ?i_NoStand_hd ?i_NoStand_ca ?i_NoStand_sp ?i_NoStand_tk ?i_NoStand_mr ?k_NoStand_NoTrain ?k_NoStand_NoStand ?k_NoStand_NoPaper ?k_NoStand_NoBox ?k_NoStand_NoSwitch ?k_NoStand_NoPlace ?k_NoStand_NoTable ?k_NoStand_NoText ?k_NoStand_NoRow ?k_NoStand_NoPiece ?k_NoStand_NothingLeft ?k_NoStand_TooMany ?k_NoStand_ValueError ?x_NoPiece ?e_NoPiece ?i_NoPiece_ga ?i_NoPiece_gt ?i_NoPiece_mb ?i_NoPiece_hd ?i_NoPiece_ca ?i_NoPiece_sp ?i_NoPiece_tk ?i_NoPiece_mr ?k_NoPiece_NoTrain ?k_NoPiece_NoStand ?k_NoPiece_NoPaper ?k_NoPiece_NoBox ?k_NoPiece_NoSwitch ?k_NoPiece_NoPlace ?k_NoPiece_NoTable ?k_NoPiece_NoText ?k_NoPiece_NoRow ?k_NoPiece_NoPiece ?k_NoPiece_NothingLeft ?k_NoPiece_TooMany ?k_NoPiece_ValueError ?x_TooMany ?e_TooMany ?i_TooMany_ga ?i_TooMany_gt ?i_TooMany_mb ?i_TooMany_hd ?i_TooMany_ca ?i_TooMany_sp ?i_TooMany_tk ?i_TooMany_mr ?k_TooMany_NoTrain ?k_TooMany_NoStand ?k_TooMany_NoPaper ?k_TooMany_NoBox ?k_TooMany_NoSwitch ?k_TooMany_NoPlace ?k_TooMany_NoTable ?k_TooMany_NoText ?k_TooMany_NoRow ?k_TooMany_NoPiece ?k_TooMany_NothingLeft ?k_TooMany_TooMany ?k_TooMany_ValueError
  (case w_Walker => k_is)
  (case a0 => k_is)
  (case l0 => k_is)
  (case c0 => k_is)
  (case b0 => k_is)
  (case a1 => k_is)
  (case l1 => k_is)
  (case c1 => k_is)
  (case b1 => k_is)
  (case a2 => k_is)
  (case l2 => k_is)
  (case c2 => k_is)
  (case b2 => k_is)
  (case a3 => k_is)
  (case l3 => k_is)
  (case c3 => k_is)
  (case b3 => k_is)
  (case a4 => k_is)
  (case l4 => k_is)
  (case c4 => k_is)
  (case b4 => k_is)
  (case a5 => k_is)
  (case l5 => k_is)
  (case c5 => k_is)
  (case b5 => k_is)
  (case a6 => k_is)
  (case l6 => k_is)
  (case c6 => k_is)
  (case b6 => k_is)
  (case a7 => k_is)
  (case l7 => k_is)
  (case c7 => k_is)
  (case b7 => k_is)
  (case a8 => k_is)
  (case l8 => k_is)
  (case c8 => k_is)
  (case b8 => k_is)
  (case a9 => k_is)
  (case l9 => k_is)
  (case c9 => k_is)
  (case b9 => k_is)
  (case a10 => k_is)
  (case l10 => k_is)
  (case c10 => k_is)
  (case b10 => k_is)
  (case a11 => k_is)
  (case l11 => k_is)
  (case c11 => k_is)
  (case b11 => k_is)
  (case a12 => k_is)
  (case l12 => k_is)
  (case c12 => k_is)
  (case b12 => k_is)
  (case a13 => k_is)
  (case l13 => k_is)
  (case c13 => k_is)
  (case b13 => k_is)
  (case a14 => k_is)
  (case l14 => k_is)
  (case c14 => k_is)
  (case b14 => k_is)
  (case a15 => k_is)
  (case l15 => k_is)
  (case c15 => k_is)
  (case b15 => k_is)
  (case a16 => k_is)
  (case l16 => k_is)
  (case c16 => k_is)
  (case b16 => k_is)
  (case a17 => k_is)
  (case l17 => k_is)
  (case c17 => k_is)
  (case b17 => k_is)
  (case a18 => k_is)
  (case l18 => k_is)
  (case c18 => k_is)
  (case b18 => k_is)
  (case a19 => k_is)
  (case l19 => k_is)
  (case c19 => k_is)
  (case b19 => k_is)
  (case a20 => k_is)
  (case l20 => k_is)
  (case c20 => k_is)
  (case b20 => k_is)
  (case a21 => k_is)
  (case l21 => k_is)
  (case c21 => k_is)
  (case b21 => k_is)
  (case a22 => k_is)
  (case l22 => k_is)
  (case c22 => k_is)
  (case b22 => k_is)
  (case a23 => k_is)
  (case l23 => k_is)
  (case c23 => k_is)
  (case b23 => k_is)
  (case a24 => k_is)
  (case l24 => k_is)
  (case c24 => k_is)
  (case b24 => k_is)
  (case a25 => k_is)
  (case l25 => k_is)
  (case c25 => k_is)
  (case b25 => k_is)
  (case a26 => k_is)
  (case l26 => k_is)
  (case c26 => k_is)
  (case b26 => k_is)
  (case a27 => k_is)
  (case l27 => k_is)
  (case c27 => k_is)
  (case b27 => k_is)
  (case a28 => k_is)
  (case l28 => k_is)
  (case c28 => k_is)
  (case b28 => k_is)
  (case a29 => k_is)
  (case l29 => k_is)
  (case c29 => k_is)
  (case b29 => k_is)
  (case a30 => k_is)
  (case l30 => k_is)
  (case c30 => k_is)
  (case b30 => k_is)
  (case a31 => k_is)
  (case l31 => k_is)
  (case c31 => k_is)
  (case b31 => k_is)
  (case a32 => k_is)
  (case l32 => k_is)
  (case c32 => k_is)
  (case b32 => k_is)
  (case a33 => k_is)
  (case l33 => k_is)
  (case c33 => k_is)
  (case b33 => k_is)
  (case a34 => k_is)
  (case l34 => k_is)
  (case c34 => k_is)
  (case b34 => k_is)
  (case a35 => k_is)
  (case l35 => k_is)
  (case c35 => k_is)
  (case b35 => k_is)
  (case a36 => k_is)
  (case i36 => k_is)
  (case l36 => k_is)
  (case c36 => k_is)
  (case b36 => k_is)
  (case a37 => k_is)
  (case l37 => k_is)
  (case c37 => k_is)
  (case b37 => k_is)
  (case a38 => k_is)
  (case l38 => k_is)
  (case c38 => k_is)
  (case b38 => k_is)
  (case a39 => k_is)
  (case l39 => k_is)
  (case c39 => k_is)
  (case b39 => k_is)
  (case a40 => k_is)
  (case l40 => k_is)
  (case c40 => k_is)
  (case b40 => k_is)
  (case z_ValueError => k_is)
  (case z_abs => k_is)
  (case z_int => k_is)
  (case z_isinstance => k_is)
  (case z_len => k_is)
  (case z_list => k_is)
  (case z_max => k_is)
  (case z_min => k_is)
  (case z_range => k_is)
  (case z_sorted => k_is)
  (case z_sum => k_is)
  (case z_tuple => k_is)
  (case z_zip => k_is)
  (case g_MOST_PLAYS => k_is)
  (case g_MOST_STANDS => k_is)
  (case pg_Walker => k_is)
  (case hd_Walker => k_is)
  (case po_Walker => k_is)
  (case sa_Walker => k_is)
  (case mk_Walker => k_is)
  (case kc_Walker => k_is)
  (case na_Walker_plays => k_is)
  (case na_Walker_states => k_is)
  (case n_TrainError => k_is)
  (case n_NoTrain => k_is)
  (case n_NoStand => k_is)
  (case n_NoPaper => k_is)
  (case n_NoBox => k_is)
  (case n_NoSwitch => k_is)
  (case n_NoPlace => k_is)
  (case n_NoTable => k_is)
  (case n_NoText => k_is)
  (case n_NoRow => k_is)
  (case n_NoPiece => k_is)
  (case n_NothingLeft => k_is)
  (case n_TooMany => k_is)
  (case x_NoTrain => k_exc)
  (case e_NoTrain => kts_exm)
  (case i_NoTrain_ga => k_is)
  (case i_NoTrain_gt => k_is)
  (case i_NoTrain_mb => k_is)
  (case i_NoTrain_hd => k_is)
  (case i_NoTrain_ca => k_is)
  (case i_NoTrain_sp => k_is)
  (case i_NoTrain_tk => k_is)
  (case i_NoTrain_mr => k_is)
  (case k_NoTrain_NoTrain => kit_is)
  (case k_NoTrain_NoStand => kit_is)
  (case k_NoTrain_NoPaper => kit_is)
  (case k_NoTrain_NoBox => kit_is)
  (case k_NoTrain_NoSwitch => kit_is)
  (case k_NoTrain_NoPlace => kit_is)
  (case k_NoTrain_NoTable => kit_is)
  (case k_NoTrain_NoText => kit_is)
  (case k_NoTrain_NoRow => kit_is)
  (case k_NoTrain_NoPiece => kit_is)
  (case k_NoTrain_NothingLeft => kit_is)
  (case k_NoTrain_TooMany => kit_is)
  (case k_NoTrain_ValueError => kit_is)
  (case x_NoStand => k_exc)
  (case e_NoStand => kts_exm)
  (case i_NoStand_ga => k_is)
  (case i_NoStand_gt => k_is)
  (case i_NoStand_mb => k_is)
  (case i_NoStand_hd => k_is)
  (case i_NoStand_ca => k_is)
  (case i_NoStand_sp => k_is)
  (case i_NoStand_tk => k_is)
  (case i_NoStand_mr => k_is)
  (case k_NoStand_NoTrain => kit_is)
  (case k_NoStand_NoStand => kit_is)
  (case k_NoStand_NoPaper => kit_is)
  (case k_NoStand_NoBox => kit_is)
  (case k_NoStand_NoSwitch => kit_is)
  (case k_NoStand_NoPlace => kit_is)
  (case k_NoStand_NoTable => kit_is)
  (case k_NoStand_NoText => kit_is)
  (case k_NoStand_NoRow => kit_is)
  (case k_NoStand_NoPiece => kit_is)
  (case k_NoStand_NothingLeft => kit_is)
  (case k_NoStand_TooMany => kit_is)
  (case k_NoStand_ValueError => kit_is)
  (case x_NoPiece => k_exc)
  (case e_NoPiece => kts_exm)
  (case i_NoPiece_ga => k_is)
  (case i_NoPiece_gt => k_is)
  (case i_NoPiece_mb => k_is)
  (case i_NoPiece_hd => k_is)
  (case i_NoPiece_ca => k_is)
  (case i_NoPiece_sp => k_is)
  (case i_NoPiece_tk => k_is)
  (case i_NoPiece_mr => k_is)
  (case k_NoPiece_NoTrain => kit_is)
  (case k_NoPiece_NoStand => kit_is)
  (case k_NoPiece_NoPaper => kit_is)
  (case k_NoPiece_NoBox => kit_is)
  (case k_NoPiece_NoSwitch => kit_is)
  (case k_NoPiece_NoPlace => kit_is)
  (case k_NoPiece_NoTable => kit_is)
  (case k_NoPiece_NoText => kit_is)
  (case k_NoPiece_NoRow => kit_is)
  (case k_NoPiece_NoPiece => kit_is)
  (case k_NoPiece_NothingLeft => kit_is)
  (case k_NoPiece_TooMany => kit_is)
  (case k_NoPiece_ValueError => kit_is)
  (case x_TooMany => k_exc)
  (case e_TooMany => kts_exm)
  (case i_TooMany_ga => k_is)
  (case i_TooMany_gt => k_is)
  (case i_TooMany_mb => k_is)
  (case i_TooMany_hd => k_is)
  (case i_TooMany_ca => k_is)
  (case i_TooMany_sp => k_is)
  (case i_TooMany_tk => k_is)
  (case i_TooMany_mr => k_is)
  (case k_TooMany_NoTrain => kit_is)
  (case k_TooMany_NoStand => kit_is)
  (case k_TooMany_NoPaper => kit_is)
  (case k_TooMany_NoBox => kit_is)
  (case k_TooMany_NoSwitch => kit_is)
  (case k_TooMany_NoPlace => kit_is)
  (case k_TooMany_NoTable => kit_is)
  (case k_TooMany_NoText => kit_is)
  (case k_TooMany_NoRow => kit_is)
  (case k_TooMany_NoPiece => kit_is)
  (case k_TooMany_NothingLeft => kit_is)
  (case k_TooMany_TooMany => kit_is)
  (case k_TooMany_ValueError => kit_is)
