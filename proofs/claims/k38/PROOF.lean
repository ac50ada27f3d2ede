import PyProof.Rows.All
import Wide.All
import OpenK.AllK
import Wide.FinOn
import Lean
import PyProof.EqAt
import PyProof.EqKinds
import PyProof.TupleCall
import PyProof.StationsW
import PyProof.ExcAttrAll.ValueError
import PySem.Challenge.RW_lugtrain_k38_ranges_and_stands_within
set_option hygiene false in
local macro_rules | `(tactic| walk_at "z0") => `(tactic| (exact wpS_pure ⟨gs2, .inr ⟨_, _, _, _, _, _, rfl, mC, by lia, by have := lib2; lia, by lia⟩⟩))
set_option hygiene false in
local macro_rules | `(tactic| walk_at "z1") => `(tactic| (exact wpS_pure ⟨gs2, _, _, _, _, _, _, rfl, mC, by lia, by have := lib2; lia, by lia⟩))
set_option hygiene false in
local macro_rules | `(tactic| walk_at "z2") => `(tactic| refine wpS_ite (fun _ => ?_) (fun _ => ?_))
set_option hygiene false in
local macro_rules | `(tactic| walk_at "z3") => `(tactic| refine ⟨_, _, rfl, ⟨_, s1.seq hA⟩, ⟨_, SqT.of (s1 _ _ hB)⟩, lp_zipT (xs := iL ps) (ys := iL xs) (fun i σ H2 => ∃ (ah : Int) (u v : Option V) (dn : List Int), σ = [some (.ref a), some (.ref b), some (.int c), some (.ref l), some (.int ah), u, v] ∧ NewI H H2 l dn ∧ dn.length ≤ 12 ∧ dn.length = i ∧ dragAll ps xs c = dn ++ dragAll (ps.drop i) (xs.drop i) ah) ?_ ?_ ?_ ?_⟩)
set_option hygiene false in
local macro_rules | `(tactic| walk_at "z4") => `(tactic| simp only [Bool.not_true, Bool.false_eq_true, if_false])
set_option hygiene false in
local macro_rules | `(tactic| walk_at "z5") => `(tactic| (refine wpS_bind (wpS_gallop (base := 0) hL hk2 mx1 (fun i hi => by rw [Nat.zero_add]; exact mem_at mb (by lia)) (sb.inn (by lia)) (by lia) fun k' j1 j2 j3 => ?_)))
set_option hygiene false in
local macro_rules | `(tactic| walk_at "z6") => `(tactic| exact wpS_pure ⟨gs2, .inl ⟨_, _, rfl, mC.done sa sb (.inl (by simpa using c1))⟩⟩)
set_option hygiene false in
local macro_rules | `(tactic| walk_at "z7") => `(tactic| intro X hP hw hK hc i pins s σ H E I hf st hg)
set_option hygiene false in
local macro_rules | `(tactic| walk_at "z8") => `(tactic| (exact wpS_pure ⟨gs2, .inl ⟨_, _, rfl, mC.lastA sa sb (fun x hx => hlast x (by rw [show a.size - 1 = (ia + k) + 1 by lia]; exact hx))⟩⟩))
set_option hygiene false in
local macro_rules | `(tactic| walk_at "z9") => `(tactic| intro pins s σ H Q I h)
set_option hygiene false in
local macro_rules | `(tactic| walk_at "z10") => `(tactic| refine wpS_bind (wpS_elem hx2 ?_))
set_option hygiene false in
local macro_rules | `(tactic| walk_at "z11") => `(tactic| (exact wpS_pure ⟨gs2, .inl ⟨_, _, rfl, mC.lastA sa sb (fun x hx => hlast x (by rw [show a.size - 1 = ia + 1 by lia]; exact hx))⟩⟩))
set_option hygiene false in
local macro_rules | `(tactic| walk_at "z12") => `(tactic| show R ρ (mirror (arrOf st3) lo (lo + m) ((lo + m - lo) / 2)) i ≤ R ρ (mirror (arrOf st3) lo (lo + m) ((lo + m - lo) / 2)) j)
set_option hygiene false in
local macro_rules | `(tactic| walk_at "z13") => `(tactic| simp only [hless, decide_false, Bool.false_eq_true, if_false])
set_option hygiene false in
local macro_rules | `(tactic| walk_at "z14") => `(tactic| refine wpS_bind (wpS_gallop hL hk2 mx1 (fun i hi => mem_at mb (by lia)) (sb.inn (by lia)) (by lia) fun k' j1 j2 j3 => ?_))
set_option hygiene false in
local macro_rules | `(tactic| walk_at "z15") => `(tactic| (have mC := mB2.pA sa sb hx1 (fun y' hy' => by rw [← R_at (ρ := ρ) hy']; exact bey_tf.mp (j3 k' (Nat.le_refl _) (by lia)))))
set_option hygiene false in
local macro_rules | `(tactic| walk_at "z16") => `(tactic| (have mC := mB.pA sa sb hx1 (fun y' hy' => by rw [← R_at (ρ := ρ) hy']; exact bey_tf.mp (j3 0 (Nat.le_refl _) (by lia)))))
set_option hygiene false in
local macro_rules | `(tactic| walk_at "z17") => `(tactic| have hch4 := ch_mirror (st := st3) (lo := lo) (hi := lo + nrem) (i := lo) (j := lo + m) (Nat.le_refl _) (by lia) hsz4)
set_option hygiene false in
local macro_rules | `(tactic| walk_at "z18") => `(tactic| refine wpAny_bind (wpAny_callSpecial?_slot (name := Str.ofString "__next__") hq.typeIs F.slot_tuple_iterator_next (wpAny_call_entry F.slot_tuple_iterator_next hq.typeIs F.entry_tuple_iterator_next ?_ (F.args_tuple_iterator_next_1 _))))
set_option hygiene false in
local macro_rules | `(tactic| walk_at "z19") => `(tactic| refine i_if (fun g => ?_) (fun g => ?_))
set_option hygiene false in
local macro_rules | `(tactic| walk_at "z20") => `(tactic| refine .inr ⟨⟨xs, ys, xs[i], ys[i], q1, q2, by simp [l1], by simp [l2]⟩, Pv (i + 1), fun σ' H' p' => ⟨_, by lia, rfl, hlt, p'⟩, fun x H' y => ?_⟩)
set_option hygiene false in
local macro_rules | `(tactic| walk_at "z21") => `(tactic| refine ⟨_, _, rfl, SqT.of upd_same, rfl, _, _, rfl, _, _, rfl, rfl, ?_⟩)
set_option hygiene false in
local macro_rules | `(tactic| walk_at "z22") => `(tactic| refine PySem.W.callWith_K (h₀ := X.base) I.ok.mod.kin hk (thn (ha pos pins s σ H _ I h) fun us s1 ⟨vs, H1, I1, r, q⟩ => ⟨I1.kIn, ?_⟩) he hpl)
set_option hygiene false in
local macro_rules | `(tactic| walk_at "z23") => `(tactic| simp only [List.mem_cons, List.not_mem_nil, or_false] at hc)
set_option hygiene false in
local macro_rules | `(tactic| walk_at "z24") => `(tactic| exact Int.le_trans (hs' i (lo + x - 1) h1 (by lia) (by lia)) (Int.not_lt.mp hless))
set_option hygiene false in
local macro_rules | `(tactic| walk_at "z25") => `(tactic| intro pins s σ H xs us Q I r h)
set_option hygiene false in
local macro_rules | `(tactic| walk_at "z26") => `(tactic| generalize setArr st3 (mirror (arrOf st3) lo (lo + m) ((lo + m - lo) / 2)) = Y4 at hch4 hB4 hs4 ⊢)
set_option hygiene false in
local macro_rules | `(tactic| walk_at "z27") => `(tactic| obtain ⟨j, hj, e⟩ := mem_win hz)
set_option hygiene false in
local macro_rules | `(tactic| walk_at "z28") => `(tactic| refine wpS_ite (fun c1 => ?_) (fun c1 => ?_))
set_option hygiene false in
local macro_rules | `(tactic| walk_at "z29") => `(tactic| refine .inr ⟨⟨xs, xs[i], q, by simp [hlt]⟩, Pv (i + 1), fun σ' H' p' => ⟨_, by lia, rfl, hlt, p'⟩, fun x H' y => ?_⟩)
set_option hygiene false in
local macro_rules | `(tactic| walk_at "z30") => `(tactic| refine wpS_ite (fun c1 => ?_) (fun _ => ?_))
set_option hygiene false in
local macro_rules | `(tactic| walk_at "z31") => `(tactic| refine wpS_bind (wpS_lift (wpAny_rule ⟨rfl, ?_⟩)))
set_option hygiene false in
local macro_rules | `(tactic| walk_at "z32") => `(tactic| (exact wpS_pure ⟨gs2, .inl ⟨_, _, rfl, mB2.firstB sa sb (by rw [c2']; exact hfirst)⟩⟩))
set_option hygiene false in
local macro_rules | `(tactic| walk_at "z33") => `(tactic| (exact wpS_pure ⟨gs2, .inl ⟨_, _, rfl, mB.firstB sa sb (by rw [c0']; exact hfirst)⟩⟩))
set_option hygiene false in
local macro_rules | `(tactic| walk_at "z34") => `(tactic| refine wpS_bind (wpS_ltR hL (by assumption) (by lia) (by lia) ?_))
set_option hygiene false in
local macro_rules | `(tactic| walk_at "z35") => `(tactic| exact wpS_pure ⟨gs2, .inl ⟨_, _, rfl, mB2.done sa sb (.inr (by simpa using c2))⟩⟩)
set_option hygiene false in
local macro_rules | `(tactic| walk_at "z36") => `(tactic| exact wpS_pure ⟨gs2, .inl ⟨_, _, rfl, mB2.done sa sb (.inr (by simpa using c5))⟩⟩)
set_option hygiene false in
local macro_rules | `(tactic| walk_at "z37") => `(tactic| exact wpS_pure ⟨gs2, .inl ⟨_, _, rfl, mB.done sa sb (.inr (by simpa using c0))⟩⟩)
set_option hygiene false in
local macro_rules | `(tactic| walk_at "z38") => `(tactic| (have := hN' i (lo + x - 1) h1 (by lia) (by lia); lia))
set_option hygiene false in
local macro_rules | `(tactic| walk_at "z39") => `(tactic| obtain ⟨f0, f1, f2, f3, f4, f5⟩ := hf it (by simp))
set_option hygiene false in
local macro_rules | `(tactic| walk_at "z40") => `(tactic| exact ⟨rfl, nrem, rfl, by lia, Nat.le_refl _, hs', .inl rfl⟩)
set_option hygiene false in
local macro_rules | `(tactic| walk_at "z41") => `(tactic| exact wpS_pure ⟨rfl, x, rfl, hax, by lia, hs', .inr hless⟩)
set_option Elab.async false
set_option linter.all false
set_option maxRecDepth 100000
namespace L2
open PySem PySem.Spec PyProof.Rows
abbrev Key := Sum Int Str
def keyIs : Key → Value → Bool
 | .inl k, v => Value.isInt k v
 | .inr x, v => Value.isStrOf x v
def keyH (w : World) : Key → Int
 | .inl k => hashInt k
 | .inr x => hashStr w x
theorem keyIs_shape : ∀ {k : Key} {v : Value}, keyIs k v = true → (∃ i t, k = Sum.inl i ∧ v = Value.int i t) ∨ (∃ x t, k = Sum.inr x ∧ v = Value.str x t)
 | .inl i, v, h => by
   obtain ⟨t, e⟩ := Value.isInt_shape (k := i) (v := v) h
   exact .inl ⟨i, t, rfl, e⟩
 | .inr x, v, h => by
   obtain ⟨t, e⟩ := Value.isStrOf_shape (x := x) (v := v) h
   exact .inr ⟨x, t, rfl, e⟩
theorem key_ll (a b : Int) : decide ((Sum.inl a : Key) = Sum.inl b) = (a == b) := by
 by_cases e : a = b
 ·subst e; simp
 ·have h : ¬ (Sum.inl a : Key) = Sum.inl b := fun q => e (Sum.inl.inj q)
  rw [decide_eq_false h]
  exact (beq_eq_false_iff_ne.mpr e).symm
theorem key_rr (a b : Str) : decide ((Sum.inr a : Key) = Sum.inr b) = decide (a = b) := by
 by_cases e : a = b
 ·subst e; simp
 ·have h : ¬ (Sum.inr a : Key) = Sum.inr b := fun q => e (Sum.inr.inj q)
  rw [decide_eq_false h, decide_eq_false e]
theorem key_lr (a : Int) (b : Str) : decide ((Sum.inl a : Key) = Sum.inr b) = false := decide_eq_false (fun q => nomatch q)
theorem key_rl (a : Str) (b : Int) : decide ((Sum.inr a : Key) = Sum.inl b) = false := decide_eq_false (fun q => nomatch q)
def mixKind (prog : Program) (w : World) : PySem.KeyKind prog w Key where
 is := keyIs
 hash := keyH w
 inj := fun v a b ha hb => by
  rcases keyIs_shape ha with ⟨i, t, rfl, rfl⟩ | ⟨x, t, rfl, rfl⟩
  ·rcases keyIs_shape hb with ⟨j, u, rfl, e⟩ | ⟨y, u, rfl, e⟩
   ·injection e with e1 _; rw [e1]
   ·exact nomatch e
  ·rcases keyIs_shape hb with ⟨j, u, rfl, e⟩ | ⟨y, u, rfl, e⟩
   ·exact nomatch e
   ·injection e with e1 _; rw [e1]
 byValue := fun k v h => by
  rcases keyIs_shape h with ⟨i, t, rfl, rfl⟩ | ⟨x, t, rfl, rfl⟩ <;> rfl
 pyHash := fun hv h => by
  rcases keyIs_shape hv with ⟨i, t, rfl, rfl⟩ | ⟨x, t, rfl, rfl⟩
  ·exact wpAny_pyHash_int h
  ·exact wpAny_pyHash_str h
 eqBool := fun hu hv h => by
  rcases keyIs_shape hu with ⟨i, t, rfl, rfl⟩ | ⟨x, t, rfl, rfl⟩
  ·rcases keyIs_shape hv with ⟨j, u, rfl, rfl⟩ | ⟨y, u, rfl, rfl⟩
   ·rw [key_ll] at h; exact wpAny_eqBool_int h
   ·rw [key_lr] at h; exact SeqAt.EqAt.int_str i t y u _ _ _ _ h
  ·rcases keyIs_shape hv with ⟨j, u, rfl, rfl⟩ | ⟨y, u, rfl, rfl⟩
   ·rw [key_rl] at h; exact SeqAt.EqAt.str_int x t j u _ _ _ _ h
   ·rw [key_rr] at h; exact wpAny_eqBool_str h
 «strs» := fun k x t v h => by
  rcases keyIs_shape h with ⟨i, u, rfl, e⟩ | ⟨y, u, rfl, e⟩
  ·exact nomatch e
  ·injection e with e1 _
   subst e1
   cases v <;> rfl
end L2
namespace L2
open PySem PySem.Spec PyProof.Rows
inductive V where
 | non | bl (b : Bool) | int (i : Int) | str (x : Str) | byt (b : Array UInt8) | flt (b : UInt64) | ref (a : Addr) | ty (n : String)
 deriving DecidableEq
def RelV : V → Value → Prop
 | .non, u => u = Value.none
 | .bl b, u => u = Value.bool b
 | .int i, u => ∃ t, u = Value.int i t
 | .str x, u => ∃ t, u = Value.str x t
 | .byt b, u => ∃ t, u = Value.bytes b t
 | .flt b, u => ∃ t, u = Value.float b t
 | .ref a, u => u = Value.ref a
 | .ty n, u => u = Value.type n
abbrev Vals : List V → List Value → Prop := Paired RelV
theorem Vals.length {xs : List V} {us : List Value} (r : Vals xs us) : xs.length = us.length := Paired.length r
theorem Vals.get : ∀ {xs : List V} {us : List Value} {i : Nat} {x : V}, Vals xs us → xs[i]? = some x → ∃ u, us[i]? = some u ∧ RelV x u
 | _, _, _, _, .nil, e => by simp at e
 | _, _, 0, _, .cons r _, e => by simp at e; subst e; exact ⟨_, rfl, r⟩
 | _, _, i + 1, x, .cons _ t, e => by
   obtain ⟨u, h1, h2⟩ := Vals.get (i := i) (x := x) t (by simpa using e)
   exact ⟨u, by simpa using h1, h2⟩
theorem Vals.append : ∀ {xs ys : List V} {us ws : List Value}, Vals xs us → Vals ys ws → Vals (xs ++ ys) (us ++ ws)
 | _, _, _, _, .nil, s => s
 | _, _, _, _, .cons r t, s => .cons r (Vals.append t s)
theorem Vals.take : ∀ {xs : List V} {us : List Value} (n : Nat), Vals xs us → Vals (xs.take n) (us.take n)
 | _, _, 0, _ => .nil
 | _, _, _ + 1, .nil => .nil
 | _, _, n + 1, .cons r t => .cons r (Vals.take n t)
theorem Vals.drop : ∀ {xs : List V} {us : List Value} (n : Nat), Vals xs us → Vals (xs.drop n) (us.drop n)
 | _, _, 0, r => r
 | _, _, _ + 1, .nil => .nil
 | _, _, n + 1, .cons _ t => Vals.drop n t
def RelO : Option V → Option Value → Prop
 | some v, some u => RelV v u
 | none, none => True
 | _, _ => False
def KV {κ : Type} : List (κ × V) → List (κ × Value) → Prop := Paired fun (p : κ × V) (q : κ × Value) => p.1 = q.1 ∧ RelV p.2 q.2
def kV : Key → V
 | .inl i => .int i
 | .inr x => .str x
inductive HO where
 | lst (xs : List V)
 | tup (xs : List V)
 | dK (kvs : List (Key × V)) | dT (kvs : List (List Key × V))
 | set (S : Int → Bool) (n : Nat)
 | ins (C dx : Addr) (fs : List (Str × V))
 | own (x : Addr)
 | xd (fs : List (Str × V))
 | met (f x : Addr)
 | rng (lo hi : Int)
 | frz (o : Obj) (u : HO)
 | tbl (ps : Array Value)
 | ext (φ : Heap → Prop)
abbrev Hp := Addr → Option HO
def upd (H : Hp) (a : Addr) (o : HO) : Hp := fun b => if b = a then some o else H b
theorem upd_same {H : Hp} {a : Addr} {o : HO} : upd H a o a = some o := by unfold upd; rw [if_pos rfl]
theorem upd_ne {H : Hp} {a b : Addr} {o : HO} (h : b ≠ a) : upd H a o b = H b := by unfold upd; rw [if_neg h]
theorem ne_of_none {H : Hp} {a b : Addr} {o : HO} (h : H a = some o) (h' : H b = none) : a ≠ b := by
 intro e; subst e; rw [h] at h'; cases h'
section
variable (P : Program) (w : World)
def ObjOk (H : Hp) (h : Heap) (a : Addr) : HO → Prop
 | .lst xs => xs.length ≤ sizeLine ∧ ∃ (its : List Value) (n : Nat), Vals xs its ∧ h.get? a = some { cls := .type "list", data := .seq its.toArray n }
 | .tup xs => xs.length ≤ sizeLine ∧ ∃ its : List Value, Vals xs its ∧ IsTup h a its.toArray
 | .dK kvs => kvs.length ≤ sizeLine ∧ (a == sysModules) = false ∧ ∃ vs, KV kvs vs ∧ h.DictOf (mixKind P w) a vs
 | .dT kvs => kvs.length ≤ sizeLine ∧ (a == sysModules) = false ∧ ∃ xs : List (List Key × Addr × Value),
  Paired (fun (p : List Key × V) (q : List Key × Addr × Value) => p.1 = q.1 ∧ H q.2.1 = some (.tup (p.1.map kV)) ∧ RelV p.2 q.2.2) kvs xs ∧
  ∃ o es ep, h.get? a = some o ∧ o.ExactDict ∧ o.data = .dict es ep ∧ es.toList = xs.map (entryOfKey (tupleKind (mixKind P w))) ∧ (xs.map (·.1)).Nodup
 | .set S n => h.SetOf (intKind P w) a S n
 | .ins C dx fs => H dx = some (.own a) ∧ fs.length ≤ 1000 ∧ dx ≠ a ∧ h.get? a = some (PySem.W.instObj C dx) ∧
  ∃ mA, h.Ns1 dx mA ∧ (∀ f, RelO (fs.lookup f) (mA f)) ∧ PySem.Within mA (fs.map (·.1))
 | .own _ => ∃ o, h.get? a = some o
 | .xd fs => ∃ mA, h.Ns1 a mA ∧ ∀ f, RelO (fs.lookup f) (mA f)
 | .rng lo hi => ∃ t u v, h.get? a = some { cls := .type "range", data := .fields #[.int lo t, .int hi u, .int 1 v] }
 | .frz o u => h.get? a = some o ∧ ObjOk H h a u
 | .tbl ps => h.get? a = some { cls := .none, data := .fields ps }
 | .met f x => h.get? a = some (PySem.W.methodObj (.ref f) (.ref x))
 | .ext φ => φ h ∧ (∃ o, h.get? a = some o) ∧ ∀ h1 h2 : Heap, φ h1 → (∀ o, h1.get? a = some o → h2.get? a = some o) → φ h2
def HOk (H : Hp) (h : Heap) : Prop := ∀ a o, H a = some o → ObjOk P w H h a o
end
section
variable {P : Program} {w : World} {H H' : Hp} {h h' : Heap} {a : Addr} {o : HO}
theorem ObjOk.lt (x : ObjOk P w H h a o) : a < h.objs.size := by
 cases o with
 | lst xs => obtain ⟨_, _, _, _, e⟩ := x; exact Heap.lt_size e
 | tup xs => obtain ⟨_, _, _, p⟩ := x; exact p.lt
 | dK kvs => obtain ⟨_, _, _, _, o, _, _, e, _⟩ := x; exact Heap.lt_size e
 | dT kvs => obtain ⟨_, _, _, _, o, _, _, e, _⟩ := x; exact Heap.lt_size e
 | set S n => obtain ⟨o, _, _, _, e, _⟩ := x; exact Heap.lt_size e
 | ins C dx fs => obtain ⟨_, _, _, e, _⟩ := x; exact Heap.lt_size e
 | own y => obtain ⟨_, e⟩ := x; exact Heap.lt_size e
 | xd fs => obtain ⟨_, ⟨_, _, _, e, _⟩, _⟩ := x; exact Heap.lt_size e
 | rng lo hi => obtain ⟨_, _, _, e⟩ := x; exact Heap.lt_size e
 | frz ob u => obtain ⟨e, _⟩ := x; exact Heap.lt_size e
 | tbl ps => exact Heap.lt_size (show h.get? a = some _ from x)
 | met f y => exact Heap.lt_size (show h.get? a = some _ from x)
 | ext φ => obtain ⟨_, ⟨_, e⟩, _⟩ := x; exact Heap.lt_size e
theorem Paired.mapP {α β : Type} {F G : α → β → Prop} : ∀ {l₁ : List α} {l₂ : List β}, Paired F l₁ l₂ → (∀ a b, F a b → G a b) → Paired G l₁ l₂
 | _, _, .nil, _ => .nil
 | _, _, .cons r t, f => .cons (f _ _ r) (Paired.mapP t f)
theorem ObjOk.stay (x : ObjOk P w H h a o) (k : ∀ b u, (b = a ∨ H b = some (.own a)) → h.get? b = some u → h'.get? b = some u)
 (ho : ∀ b, H b = some (.own a) → H' b = some (.own a)) (ht : ∀ b xs, H b = some (.tup xs) → H' b = some (.tup xs)) : ObjOk P w H' h' a o := by
 induction o with
 | lst xs => obtain ⟨z, its, n, r, e⟩ := x; exact ⟨z, its, n, r, k _ _ (.inl rfl) e⟩
 | tup xs => obtain ⟨z, its, r, ob, e, c⟩ := x; exact ⟨z, its, r, ob, k _ _ (.inl rfl) e, c⟩
 | dK kvs => obtain ⟨z, y, vs, r, ob, es, ep, e, c⟩ := x; exact ⟨z, y, vs, r, ob, es, ep, k _ _ (.inl rfl) e, c⟩
 | dT kvs =>
   obtain ⟨z, y, xs, r, ob, es, ep, e, c⟩ := x
   exact ⟨z, y, xs, Paired.mapP r fun p q z => ⟨z.1, ht _ _ z.2.1, z.2.2⟩, ob, es, ep, k _ _ (.inl rfl) e, c⟩
 | set S n => obtain ⟨ob, es, ep, t, e, c⟩ := x; exact ⟨ob, es, ep, t, k _ _ (.inl rfl) e, c⟩
 | ins C dx fs =>
   obtain ⟨d, z, ne, e, mA, ⟨od, es, ep, e2, c⟩, r⟩ := x
   exact ⟨ho _ d, z, ne, k _ _ (.inl rfl) e, mA, ⟨od, es, ep, k _ _ (.inr d) e2, c⟩, r⟩
 | own y => obtain ⟨ob, e⟩ := x; exact ⟨ob, k _ _ (.inl rfl) e⟩
 | xd fs => obtain ⟨mA, ⟨od, es, ep, e, c⟩, r⟩ := x; exact ⟨mA, ⟨od, es, ep, k _ _ (.inl rfl) e, c⟩, r⟩
 | rng lo hi => obtain ⟨t, u, v, e⟩ := x; exact ⟨t, u, v, k _ _ (.inl rfl) e⟩
 | frz ob u ih => obtain ⟨e, q⟩ := x; exact ⟨k _ _ (.inl rfl) e, ih q⟩
 | tbl ps =>
   have e : h.get? a = some { cls := .none, data := .fields ps } := x
   show h'.get? a = some { cls := .none, data := .fields ps }
   exact k a _ (.inl rfl) e
 | met f y =>
   have e : h.get? a = some (PySem.W.methodObj (.ref f) (.ref y)) := x
   show h'.get? a = some (PySem.W.methodObj (.ref f) (.ref y))
   exact k a _ (.inl rfl) e
 | ext φ => obtain ⟨p, ⟨o, e⟩, st⟩ := x; exact ⟨st _ _ p fun o q => k _ _ (.inl rfl) q, ⟨o, k _ _ (.inl rfl) e⟩, st⟩
theorem HOk.lt (x : HOk P w H h) (e : H a = some o) : a < h.objs.size := (x a o e).lt
theorem HOk.fresh (x : HOk P w H h) (e : h.objs.size ≤ a) : H a = none := by
 cases q : H a with
 | none => rfl
 | some u => exact absurd (Nat.lt_of_lt_of_le (x.lt q) e) (Nat.lt_irrefl _)
theorem HOk.kept (x : HOk P w H h) (k : ∀ b u, h.get? b = some u → h'.get? b = some u) : HOk P w H h' := fun a o e =>
 (x a o e).stay (fun b u _ q => k b u q) (fun _ q => q) fun _ _ q => q
theorem HOk.laid (x : HOk P w H h) (k : ∀ b u, h.get? b = some u → h'.get? b = some u) (hp : h.objs.size ≤ a) (new : ObjOk P w (upd H a o) h' a o) : HOk P w (upd H a o) h' := fun b u e => by
 have hn := x.fresh hp
 by_cases hb : b = a
 ·subst hb; rw [upd_same] at e; cases e; exact new
 ·rw [upd_ne hb] at e
  exact (x b u e).stay (fun c v _ q => k c v q) (fun c q => by rw [upd_ne (ne_of_none q hn)]; exact q) fun c xs q => by rw [upd_ne (ne_of_none q hn)]; exact q
end
def Rd (H : Hp) (a : Addr) (u : HO) : Prop := H a = some u ∨ ∃ o, H a = some (.frz o u)
theorem Rd.ok {P : Program} {w : World} {H : Hp} {h : Heap} {a : Addr} {u : HO} (r : Rd H a u) (x : HOk P w H h) : ObjOk P w H h a u := by
 rcases r with r | ⟨o, r⟩
 ·exact x a u r
 ·obtain ⟨_, q⟩ := x a _ r
  exact q
def Mut : Option HO → Prop
 | some (.lst _) => True
 | some (.dK _) => True
 | some (.dT _) => True
 | some (.set _ _) => True
 | some (.ins _ _ _) => True
 | some (.ext _) => True
 | _ => False
section
variable {P : Program} {w : World} {H : Hp} {h h' : Heap} {x e : Addr} {o' : HO}
theorem HOk.write (ok : HOk P w H h) (mu : Mut (H x)) (he : e = x ∨ H e = some (.own x)) (k : ∀ b u, b ≠ e → h.get? b = some u → h'.get? b = some u) (heo : ∃ u, h'.get? e = some u)
 (new : ObjOk P w (upd H x o') h' x o') : HOk P w (upd H x o') h' := fun b u q => by
 have nown : ∀ c y, H c = some (.own y) → c ≠ x := fun c y r z => by subst z; rw [r] at mu; exact mu
 have ntup : ∀ c xs, H c = some (.tup xs) → c ≠ x := fun c xs r z => by subst z; rw [r] at mu; exact mu
 by_cases hb : b = x
 ·subst hb; rw [upd_same] at q; cases q; exact new
 ·rw [upd_ne hb] at q
  by_cases hbe : b = e
  ·have q' : H b = some (.own x) := by
    rcases he with z | z
    ·exact absurd (hbe.trans z) hb
    ·rw [hbe]; exact z
   rw [q] at q'; cases q'
   obtain ⟨v, hv⟩ := heo
   exact ⟨v, by rw [hbe]; exact hv⟩
  ·refine (ok b u q).stay (fun c v hc r => k c v ?_ r) (fun c r => by rw [upd_ne (nown c b r)]; exact r) fun c xs r => by rw [upd_ne (ntup c xs r)]; exact r
   rcases hc with rfl | hc
   ·exact hbe
   ·rintro rfl
    rcases he with z | z
    ·exact nown c b hc z
    ·rw [hc] at z; cases z; exact hb rfl
end
structure Un (fs ex : List Addr) (H H' : Hp) (h h' : Heap) : Prop where
 keep : ∀ b o, h.get? b = some o → H b = none → b ∉ fs → b ∉ ex → h'.get? b = some o
 slot : ∀ b o, h.get? b = some o → H b = none → b ∈ fs → b ∉ ex → ∃ sl, h'.get? b = some { o with slots := sl }
 free : ∀ b o, h.get? b = some o → H b = none → b ∉ ex → H' b = none
 there : ∀ b o, h.get? b = some o → b ∉ ex → ∃ o', h'.get? b = some o'
 tups : ∀ b xs, H b = some (.tup xs) → H' b = some (.tup xs)
 frzs : ∀ b o u, H b = some (.frz o u) → H' b = some (.frz o u)
 tbls : ∀ b ps, H b = some (.tbl ps) → ∃ more, H' b = some (.tbl (ps ++ more))
section
variable {fs fs' ex ex' : List Addr} {H H1 H2 : Hp} {h h1 h2 h' : Heap} {a x e : Addr} {o : HO}
theorem Un.any (u : Un fs ex H H1 h h1) {b : Addr} {ob : Obj} (q : h.get? b = some ob) (n : H b = none) (hx : b ∉ ex) : ∃ sl, h1.get? b = some { ob with slots := sl } := by
 by_cases hb : b ∈ fs
 ·exact u.slot b ob q n hb hx
 ·exact ⟨ob.slots, u.keep b ob q n hb hx⟩
theorem Un.kept (k : ∀ b u, h.get? b = some u → h'.get? b = some u) : Un fs ex H H h h' :=
 ⟨fun b ob q _ _ _ => k b ob q, fun b ob q _ _ _ => ⟨ob.slots, k b ob q⟩, fun _ _ _ n _ => n, fun b ob q _ => ⟨ob, k b ob q⟩, fun _ _ q => q, fun _ _ _ q => q, fun _ ps q => ⟨#[], by rw [q]; simp⟩⟩
theorem Un.refl : Un fs ex H H h h := Un.kept fun _ _ q => q
theorem Un.laid (k : ∀ b u, h.get? b = some u → h'.get? b = some u) (hp : h.objs.size ≤ a) (hn : H a = none) : Un fs ex H (upd H a o) h h' where
 keep := fun b u q _ _ _ => k b u q
 slot := fun b u q _ _ _ => ⟨u.slots, k b u q⟩
 free := fun b u q n _ => by rw [upd_ne (Nat.ne_of_lt (Nat.lt_of_lt_of_le (Heap.lt_size q) hp))]; exact n
 there := fun b u q _ => ⟨u, k b u q⟩
 tups := fun b xs q => by rw [upd_ne (ne_of_none q hn)]; exact q
 frzs := fun b u xs q => by rw [upd_ne (ne_of_none q hn)]; exact q
 tbls := fun b ps q => ⟨#[], by rw [upd_ne (ne_of_none q hn), q]; simp⟩
theorem Un.write (mu : Mut (H x)) (he : e = x ∨ H e = some (.own x)) (k : ∀ b u, b ≠ e → h.get? b = some u → h'.get? b = some u) (heo : ∃ u, h'.get? e = some u) : Un fs ex H (upd H x o) h h' := by
 have hx : ∀ b, H b = none → b ≠ x := fun b n z => by subst z; rw [n] at mu; exact mu
 have hb : ∀ b, H b = none → b ≠ e := fun b n z => by
  subst z
  rcases he with r | r
  ·exact hx b n r
  ·rw [n] at r; cases r
 have hm : ∀ b u, H b = some u → ¬ Mut (some u) → b ≠ x := fun b u q nm z => by subst z; rw [q] at mu; exact nm mu
 refine ⟨fun b u q n _ _ => k b u (hb b n) q, fun b u q n _ _ => ⟨u.slots, k b u (hb b n) q⟩, fun b u q n _ => by rw [upd_ne (hx b n)]; exact n, fun b u q _ => ?_,
  fun b xs q => by rw [upd_ne (hm b _ q fun z => z)]; exact q, fun b u xs q => by rw [upd_ne (hm b _ q fun z => z)]; exact q, fun b ps q => ⟨#[], by rw [upd_ne (hm b _ q fun z => z), q]; simp⟩⟩
 by_cases hbe : b = e
 ·subst hbe; exact heo
 ·exact ⟨u, k b u hbe q⟩
end
def trk (h : Heap) (H : Hp) : List Addr := (List.range h.objs.size).filter fun a => (H a).isSome
def hidT (h : Heap) (H : Hp) : Heap := PySem.W.hideAll h (trk h H)
theorem hidT_size (h : Heap) (H : Hp) : (hidT h H).objs.size = h.objs.size := PySem.W.hideAll_size _ _
theorem hidT_get {h : Heap} {H : Hp} {b : Addr} {o : Obj} (e : h.get? b = some o) (n : H b = none) : (hidT h H).get? b = some o :=
 PySem.W.hideAll_get _ e fun hm => by
  have q : (H b).isSome = true := (List.mem_filter.mp hm).2
  rw [n] at q; simp at q
theorem of_hidT {h : Heap} {H : Hp} {b : Addr} {o : Obj} (e : (hidT h H).get? b = some o) : h.get? b = some o ∧ H b = none := by
 have e' : h.get? b = some o := PySem.W.of_hideAll (trk h H) e
 refine ⟨e', ?_⟩
 cases q : H b with
 | none => rfl
 | some x =>
   have hm : b ∈ trk h H := List.mem_filter.mpr ⟨List.mem_range.mpr (Heap.lt_size e'), by simp [q]⟩
   have z : (hidT h H).get? b = none := PySem.W.hideAll_none (trk h H) hm
   rw [z] at e; cases e
def allNews (g h : Heap) (L : Addr) : List (Addr × Obj) := (List.range h.objs.size).filterMap fun a => if a = L ∨ (g.get? a).isSome = true then none else (h.get? a).map fun o => (a, o)
def rest (g h : Heap) (L d : Addr) : List (Addr × Obj) := (allNews g h L).filter fun p => decide (p.1 ≠ d)
end L2
namespace L2
open PySem PySem.Spec PyProof.Rows
structure Mod (K : PySem.W.Frag) (mg : Str → Option Value) (base : Heap) : Prop where
 kin : K.In base
 glob : base.Ns mainGlobals mg
 blt : ∃ mb, base.Ns builtinsNs mb ∧ ∀ x : Str, x ≠ "__name__" → mb x = bootBuiltins x
 nolimit : base.NoLimit
structure Cx where
 prog : Program
 w : World
 K : PySem.W.Frag
 mg : Str → Option Value
 base : Heap
 A : Around
 N : List Str
 s₀ : Shared
 H₀ : Hp
 env : Env
 outer : List Env
 stack : List Env
 ex : List Addr
 fn : Str → Bool
 calm : Bool
 pn : List (Addr × Obj)
 xe : Value → Shared → Prop
def frs (l : List Env) : List Addr := l.filterMap (·.frame)
abbrev Cx.fs (X : Cx) : List Addr := frs X.outer
def Vis (sc : Scope) (x : Str) : Prop := sc.names.lookup x = some .local ∨ sc.names.lookup x = some .cell ∨ sc.names.lookup x = some .free
def Loc (sc : Scope) (x : Str) : Prop := sc.names.lookup x = some .local ∨ sc.names.lookup x = some .cell
def Look (env : Env) (h : Heap) (m : Str → Option Value) (x : Str) (u : Value) : Prop :=
 (env.kindOf x = some .local ∧ m x = some u) ∨ ((env.kindOf x = some .cell ∨ env.kindOf x = some .free) ∧ ∃ c, env.cells.lookup x = some c ∧ h.IsCell c (some u))
structure Cx.Ok (X : Cx) : Prop where
 mod : Mod X.K X.mg X.base
 kind : X.env.scope.kind = .function
 glob : X.env.globals = mainGlobals
 blt : X.env.builtins = builtinsNs
 above : X.s₀.heap.objs.size ≤ X.env.locals
 inj : ∀ x y c, X.env.cells.lookup x = some c → X.env.cells.lookup y = some c → x = y
 has : ∀ x, (X.env.kindOf x = some .cell ∨ X.env.kindOf x = some .free) → ∃ c, X.env.cells.lookup x = some c
 cab : ∀ x c, X.fn x = true → X.env.cells.lookup x = some c → X.s₀.heap.objs.size ≤ c
 hd : X.calm = true → X.A.handled = none
 frames : X.A.frames = some X.stack
 stk : X.stack = X.outer ∨ (X.stack = X.env :: X.outer ∧ X.env.frame = some X.env.locals)
 exf : ∀ b ∈ X.ex, b ≠ X.env.locals ∧ ∀ x c, X.env.cells.lookup x = some c → c ≠ b
 bs : ∀ b o, X.base.get? b = some o → X.s₀.heap.get? b = some o ∧ X.H₀ b = none
 bsz : X.base.objs.size ≤ X.s₀.heap.objs.size
 noex : ∀ b o, X.base.get? b = some o → b ∉ X.ex
 exfs : ∀ b ∈ X.ex, b ∉ X.fs
 funs : X.s₀.heap.FunFrames X.base X.outer
 frf : ∀ b ∈ X.fs, X.H₀ b = none
structure Inv (X : Cx) (pins : List (Addr × Obj)) (σ : List (Option V)) (H : Hp) (s : Shared) : Prop where
 ok : X.Ok
 os : s.os = X.s₀.os
 bare : AllBare s.gens
 base : Un X.fs X.ex X.H₀ H X.s₀.heap s.heap
 loc : ∃ m, s.heap.Ns X.env.locals m ∧ ∀ (i : Nat) (x : Str) (v : V), X.N[i]? = some x → σ[i]? = some (some v) → Vis X.env.scope x → ∃ u, RelV v u ∧ Look X.env s.heap m x u
 cell : ∀ x c, X.env.cells.lookup x = some c → ∃ v, s.heap.IsCell c v
 free : H X.env.locals = none
 freeC : ∀ x c, X.env.cells.lookup x = some c → H c = none
 pin : ∀ p ∈ X.pn ++ pins, s.heap.get? p.1 = some p.2 ∧ H p.1 = none ∧ p.1 ≠ X.env.locals ∧ p.1 ∉ X.fs ∧ ∀ v, p.2.data ≠ .cell v
 hok : HOk X.prog X.w H s.heap
 len : σ.length = X.N.length
section
variable {X : Cx} {pins : List (Addr × Obj)} {σ : List (Option V)} {H H' : Hp} {s : Shared} {h' : Heap}
theorem Cx.Ok.nofr (ok : X.Ok) {b : Addr} {o : Obj} (e : X.base.get? b = some o) : b ∉ X.fs := fun hb => by
 have := (ok.funs.mem hb).1
 rw [e] at this; cases this
theorem Inv.bs (I : Inv X pins σ H s) : ∀ b o, X.base.get? b = some o → s.heap.get? b = some o ∧ H b = none := fun b o e =>
 ⟨I.base.keep b o (I.ok.bs b o e).1 (I.ok.bs b o e).2 (I.ok.nofr e) (I.ok.noex b o e), I.base.free b o (I.ok.bs b o e).1 (I.ok.bs b o e).2 (I.ok.noex b o e)⟩
theorem Inv.bk (I : Inv X pins σ H s) : ∀ b o, X.base.get? b = some o → s.heap.get? b = some o := fun b o e => (I.bs b o e).1
theorem Inv.mod (I : Inv X pins σ H s) : Mod X.K X.mg X.base := I.ok.mod
theorem Inv.kIn (I : Inv X pins σ H s) : X.K.In s.heap := I.ok.mod.kin.keeps I.bk
theorem Inv.lt (I : Inv X pins σ H s) : X.env.locals < s.heap.objs.size := let ⟨_, hn, _⟩ := I.loc; hn.lt
theorem Inv.sz (I : Inv X pins σ H s) : X.s₀.heap.objs.size ≤ s.heap.objs.size := Nat.le_trans I.ok.above (Nat.le_of_lt I.lt)
theorem Inv.nofs (I : Inv X pins σ H s) {a : Addr} (h : s.heap.objs.size ≤ a) : a ∉ X.fs := fun hb => by
 obtain ⟨_, o, ho, _⟩ := I.ok.funs.mem hb
 exact absurd (Nat.lt_of_lt_of_le (Heap.lt_size ho) (Nat.le_trans I.sz h)) (Nat.lt_irrefl _)
theorem Inv.cne (I : Inv X pins σ H s) : ∀ x c, X.env.cells.lookup x = some c → c ≠ X.env.locals := fun x c e z => by
 obtain ⟨v, o, ho, hd⟩ := I.cell x c e
 obtain ⟨m, ⟨o', es, ep, ho', hd', _⟩, _⟩ := I.loc
 rw [z, ho'] at ho; cases ho; rw [hd'] at hd; cases hd
theorem Inv.funs (I : Inv X pins σ H s) : s.heap.FunFrames X.base X.outer := by
 have all : ∀ (l : List Env), (∀ b ∈ frs l, b ∈ X.fs) → X.s₀.heap.FunFrames X.base l → s.heap.FunFrames X.base l := by
  intro l
  induction l with
  | nil => intro _ _; trivial
  | cons env r ih =>
    intro hs hl
    obtain ⟨hk, ⟨L, o, hf, hn, ho, hd⟩, hr⟩ := hl
    have hL : L ∈ X.fs := hs L (by unfold frs; rw [List.filterMap_cons, hf]; exact List.mem_cons_self)
    obtain ⟨sl, e⟩ := I.base.slot L o ho (I.ok.frf L hL) hL fun z => I.ok.exfs L z hL
    exact ⟨hk, ⟨L, _, hf, hn, e, hd⟩, ih (fun b hb => hs b (by unfold frs; rw [List.filterMap_cons, hf]; exact List.mem_cons_of_mem _ hb)) hr⟩
 exact all X.outer (fun _ hb => hb) I.ok.funs
theorem Inv.stack (I : Inv X pins σ H s) : s.heap.FunFrames X.base X.stack := by
 rcases I.ok.stk with e | ⟨e, hf⟩
 ·rw [e]; exact I.funs
 ·rw [e]
  obtain ⟨m, hn, _⟩ := I.loc
  refine .cons (by rw [I.ok.kind]; decide) hf hn ?_ I.funs
  exact Heap.get?_none_of_le (Nat.le_trans I.ok.bsz I.ok.above)
theorem Inv.stkSub (I : Inv X pins σ H s) : ∀ b ∈ frs X.stack, b ∈ X.env.locals :: X.fs := fun b hb => by
 rcases I.ok.stk with e | ⟨e, hf⟩
 ·rw [e] at hb; exact List.mem_cons_of_mem _ hb
 ·rw [e] at hb
  unfold frs at hb
  rw [List.filterMap_cons, hf] at hb
  exact hb
theorem Inv.stkFree (I : Inv X pins σ H s) : ∀ b ∈ frs X.stack, H b = none := fun b hb => by
 rcases List.mem_cons.mp (I.stkSub b hb) with e | hb
 ·rw [e]; exact I.free
 ·obtain ⟨_, o, ho, _⟩ := I.ok.funs.mem hb
  exact I.base.free b o ho (I.ok.frf b hb) fun z => I.ok.exfs b z hb
theorem Inv.step {g' : Array GenState} {t' : Nat} {d' : Drawn} {ch : List Addr} (I : Inv X pins σ H s)
 (hch : ∀ b ∈ ch, (b ∈ X.ex ∨ X.s₀.heap.objs.size ≤ b) ∧ b ≠ X.env.locals ∧ (∀ x c, X.env.cells.lookup x = some c → c ≠ b) ∧ ∀ p ∈ X.pn ++ pins, p.1 ≠ b)
 (keep : ∀ b o, b ≠ X.env.locals → b ∉ X.fs → b ∉ ch → s.heap.get? b = some o → H b = none → h'.get? b = some o)
 (slot : ∀ b o, b ≠ X.env.locals → b ∈ X.fs → b ∉ ch → s.heap.get? b = some o → H b = none → ∃ sl, h'.get? b = some { o with slots := sl }) (free : ∀ b o, b ∉ ch → s.heap.get? b = some o → H b = none → H' b = none)
 (there : ∀ b o, b ∉ ch → s.heap.get? b = some o → ∃ o', h'.get? b = some o')
 (tups : ∀ b xs, H b = some (.tup xs) → H' b = some (.tup xs)) (frzs : ∀ b o u, H b = some (.frz o u) → H' b = some (.frz o u)) (tbls : ∀ b ps, H b = some (.tbl ps) → ∃ more, H' b = some (.tbl (ps ++ more)))
 (ns : ∀ m, s.heap.Ns X.env.locals m → h'.Ns X.env.locals m) (hok : HOk X.prog X.w H' h') (hg : AllBare g') :
 Inv X pins σ H' { s with heap := h', gens := g', drawn := d', toks := t' } := by
 have neL : ∀ b o, X.s₀.heap.get? b = some o → b ≠ X.env.locals := fun b o e => Nat.ne_of_lt (Nat.lt_of_lt_of_le (Heap.lt_size e) I.ok.above)
 have neC : ∀ b o, X.s₀.heap.get? b = some o → b ∉ X.ex → b ∉ ch := fun b o e hx hb => by
  rcases (hch b hb).1 with z | z
  ·exact hx z
  ·exact absurd (Nat.lt_of_lt_of_le (Heap.lt_size e) z) (Nat.lt_irrefl _)
 have cellK : ∀ x c, X.env.cells.lookup x = some c → ∀ v, s.heap.IsCell c v → h'.IsCell c v := fun x c e v ⟨o, ho, hd⟩ => by
  have nch : c ∉ ch := fun z => (hch c z).2.2.1 x c e rfl
  by_cases hc : c ∈ X.fs
  ·obtain ⟨sl, q⟩ := slot c o (I.cne x c e) hc nch ho (I.freeC x c e)
   exact ⟨_, q, hd⟩
  ·exact ⟨o, keep c o (I.cne x c e) hc nch ho (I.freeC x c e), hd⟩
 refine ⟨I.ok, I.os, hg, ⟨fun b o e n hb hx => ?_, fun b o e n hb hx => ?_, fun b o e n hx => ?_, fun b o e hx => ?_, fun b xs e => tups b xs (I.base.tups b xs e), fun b o xs e => frzs b o xs (I.base.frzs b o xs e), fun b ps e => ?_⟩, ?_, fun x c e => ?_, ?_, fun x c e => ?_, fun p hp => ?_, hok, I.len⟩
 ·exact keep b o (neL b o e) hb (neC b o e hx) (I.base.keep b o e n hb hx) (I.base.free b o e n hx)
 ·obtain ⟨sl, e1⟩ := I.base.slot b o e n hb hx
  obtain ⟨sl', e2⟩ := slot b _ (neL b o e) hb (neC b o e hx) e1 (I.base.free b o e n hx)
  exact ⟨sl', e2⟩
 ·obtain ⟨o', e1⟩ := I.base.there b o e hx
  exact free b o' (neC b o e hx) e1 (I.base.free b o e n hx)
 ·obtain ⟨o', e1⟩ := I.base.there b o e hx
  exact there b o' (neC b o e hx) e1
 ·obtain ⟨m1, e1⟩ := I.base.tbls b ps e
  obtain ⟨m2, e2⟩ := tbls b _ e1
  exact ⟨m1 ++ m2, by rw [e2, Array.append_assoc]⟩
 ·obtain ⟨m, hn, hl⟩ := I.loc
  refine ⟨m, ns m hn, fun i x v e1 e2 e3 => ?_⟩
  obtain ⟨u, r, l⟩ := hl i x v e1 e2 e3
  refine ⟨u, r, ?_⟩
  rcases l with l | ⟨k, c, e, z⟩
  ·exact .inl l
  ·exact .inr ⟨k, c, e, cellK x c e _ z⟩
 ·obtain ⟨v, z⟩ := I.cell x c e
  exact ⟨v, cellK x c e v z⟩
 ·obtain ⟨m, ⟨o, _, _, ho, _⟩, _⟩ := I.loc
  exact free _ o (fun z => (hch _ z).2.1 rfl) ho I.free
 ·obtain ⟨v, o, ho, hd⟩ := I.cell x c e
  exact free c o (fun z => (hch c z).2.2.1 x c e rfl) ho (I.freeC x c e)
 ·obtain ⟨e, n, ne, nf, d⟩ := I.pin p hp
  have nch : p.1 ∉ ch := fun z => (hch p.1 z).2.2.2 p hp rfl
  exact ⟨keep p.1 p.2 ne nf nch e n, free p.1 p.2 nch e n, ne, nf, d⟩
theorem Inv.un {t' : Nat} (I : Inv X pins σ H s) (u : Un X.fs [] H H' s.heap h') (hok : HOk X.prog X.w H' h') : Inv X pins σ H' { s with heap := h', toks := t' } := by
 obtain ⟨m, ⟨o, es, ep, ho, r⟩, _⟩ := id I.loc
 obtain ⟨sl, hL⟩ := u.any ho I.free (by simp)
 exact I.step (g' := s.gens) (d' := s.drawn) (ch := []) (fun _ z => nomatch z) (fun b o _ hb _ e n => u.keep b o e n hb (by simp)) (fun b o _ hb _ e n => u.slot b o e n hb (by simp)) (fun b o _ e n => u.free b o e n (by simp)) (fun b o _ e => u.there b o e (by simp)) u.tups u.frzs u.tbls (fun m' hm => by
  obtain ⟨o', es', ep', ho', r'⟩ := hm
  rw [ho] at ho'; cases ho'
  exact ⟨_, es', ep', hL, r'⟩) hok I.bare
theorem Inv.call {g' : Array GenState} {t' : Nat} {d' : Drawn} {ch : List Addr} (I : Inv X pins σ H s) (u : Un (frs X.stack) ch H H' s.heap h') (hok : HOk X.prog X.w H' h') (hg : AllBare g')
 (hch : ∀ b ∈ ch, (b ∈ X.ex ∨ X.s₀.heap.objs.size ≤ b) ∧ b ≠ X.env.locals ∧ (∀ x c, X.env.cells.lookup x = some c → c ≠ b) ∧ ∀ p ∈ X.pn ++ pins, p.1 ≠ b) :
 Inv X pins σ H' { s with heap := h', gens := g', drawn := d', toks := t' } := by
 obtain ⟨m, ⟨o, es, ep, ho, r⟩, _⟩ := id I.loc
 obtain ⟨sl, hL⟩ := u.any ho I.free fun z => (hch _ z).2.1 rfl
 exact I.step (ch := ch) hch (fun b o hL hb hc e n => u.keep b o e n (fun z => (List.mem_cons.mp (I.stkSub b z)).elim hL hb) hc) (fun b o _ _ hc e n => u.any e n hc) (fun b o hc e n => u.free b o e n hc) (fun b o hc e => u.there b o e hc) u.tups u.frzs u.tbls (fun m' hm => by
  obtain ⟨o', es', ep', ho', r'⟩ := hm
  rw [ho] at ho'; cases ho'
  exact ⟨_, es', ep', hL, r'⟩) hok hg
theorem Inv.turned {t' : Nat} {it : Addr} (I : Inv X pins σ H s) (k : ∀ b o, b ≠ it → s.heap.get? b = some o → h'.get? b = some o) (hn : H it = none) (hL : it ≠ X.env.locals)
 (h1 : it ∈ X.ex ∨ X.s₀.heap.objs.size ≤ it) (h2 : ∀ x c, X.env.cells.lookup x = some c → c ≠ it) (h3 : ∀ p ∈ X.pn ++ pins, p.1 ≠ it) : Inv X pins σ H { s with heap := h', toks := t' } := by
 have nit : ∀ b u, H b = some u → b ≠ it := fun b u e z => by rw [z, hn] at e; cases e
 refine I.step (g' := s.gens) (d' := s.drawn) (ch := [it]) (fun b hb => ?_) (fun b o _ _ hc e _ => k b o (fun z => hc (by simp [z])) e) (fun b o _ _ hc e _ => ⟨o.slots, k b o (fun z => hc (by simp [z])) e⟩) (fun _ _ _ _ n => n)
  (fun b o hc e => ⟨o, k b o (fun z => hc (by simp [z])) e⟩) (fun _ _ e => e) (fun _ _ _ e => e) (fun b ps e => ⟨#[], by rw [e]; simp⟩) (fun m hm => ?_) (fun b u e => ?_) I.bare
 ·have e : b = it := by simpa using hb
  subst e
  exact ⟨h1, hL, h2, h3⟩
 ·obtain ⟨o, es, ep, ho, r⟩ := hm
  exact ⟨o, es, ep, k _ o (Ne.symm hL) ho, r⟩
 ·refine (I.hok b u e).stay (fun c v hc q => k c v ?_ q) (fun _ q => q) fun _ _ q => q
  rcases hc with z | z
  ·rw [z]; exact nit b u e
  ·exact nit c _ z
theorem Inv.tok (I : Inv X pins σ H s) (t : Nat) : Inv X pins σ H { s with toks := t } := I.un (h' := s.heap) (t' := t) Un.refl I.hok
theorem Inv.kept {t' : Nat} (I : Inv X pins σ H s) (k : ∀ b u, s.heap.get? b = some u → h'.get? b = some u) : Inv X pins σ H { s with heap := h', toks := t' } := I.un (Un.kept k) (I.hok.kept k)
theorem Inv.laid {a : Addr} {o : HO} {t' : Nat} (I : Inv X pins σ H s) (k : ∀ b u, s.heap.get? b = some u → h'.get? b = some u) (hp : s.heap.objs.size ≤ a) (new : ObjOk X.prog X.w (upd H a o) h' a o) :
 Inv X pins σ (upd H a o) { s with heap := h', toks := t' } := I.un (Un.laid k hp (I.hok.fresh hp)) (I.hok.laid k hp new)
theorem Inv.write {x e : Addr} {o : HO} {t' : Nat} (I : Inv X pins σ H s) (mu : Mut (H x)) (he : e = x ∨ H e = some (.own x)) (k : ∀ b u, b ≠ e → s.heap.get? b = some u → h'.get? b = some u) (heo : ∃ u, h'.get? e = some u)
 (new : ObjOk X.prog X.w (upd H x o) h' x o) : Inv X pins σ (upd H x o) { s with heap := h', toks := t' } := I.un (Un.write mu he k heo) (I.hok.write mu he k heo new)
theorem Inv.weak {σ' : List (Option V)} (I : Inv X pins σ H s) (hl : σ'.length = σ.length) (w : ∀ (i : Nat) v, σ'[i]? = some (some v) → σ[i]? = some (some v)) : Inv X pins σ' H s :=
 ⟨I.ok, I.os, I.bare, I.base, let ⟨m, hn, hl'⟩ := I.loc; ⟨m, hn, fun i x v e1 e2 e3 => hl' i x v e1 (w i v e2) e3⟩, I.cell, I.free, I.freeC, I.pin, I.hok, hl.trans I.len⟩
theorem Inv.pins_of {pins' : List (Addr × Obj)} (I : Inv X pins σ H s) (h : ∀ p ∈ pins', s.heap.get? p.1 = some p.2 ∧ H p.1 = none ∧ p.1 ≠ X.env.locals ∧ p.1 ∉ X.fs ∧ ∀ v, p.2.data ≠ .cell v) : Inv X pins' σ H s :=
 ⟨I.ok, I.os, I.bare, I.base, I.loc, I.cell, I.free, I.freeC, fun p hp => (List.mem_append.mp hp).elim (fun z => I.pin p (List.mem_append_left _ z)) (h p), I.hok, I.len⟩
theorem nodup_ix {N : List Str} (hN : N.Nodup) {i j : Nat} {x : Str} (a : N[i]? = some x) (b : N[j]? = some x) : i = j := by
 obtain ⟨h1, e1⟩ := List.getElem?_eq_some_iff.mp a
 obtain ⟨h2, e2⟩ := List.getElem?_eq_some_iff.mp b
 exact (List.getElem_inj hN).mp (e1.trans e2.symm)
theorem store_ok2 {M : Model} {A : Around} {E : Value → Shared → Prop} {i : Nat} {x : Str} {v : V} {u : Value} {Q : Unit → Shared → Prop} (I : Inv X pins σ H s) (hN : X.N.Nodup) (hi : X.N[i]? = some x) (hx : Loc X.env.scope x) (r : RelV v u)
 (h : ∀ s', Inv X pins (σ.set i (some v)) H s' → (∃ a, Heap.SameBut a s.heap s'.heap ∧ (a = X.env.locals ∨ X.env.cells.lookup x = some a)) → Q () s') (hf : X.fn x = true ∨ X.env.scope.names.lookup x = some .local := by first | exact .inl rfl | exact .inr rfl | assumption) : wpAny M A (storeName X.env x u) Q E s := by
 obtain ⟨m, hn, hl⟩ := id I.loc
 have hcls : (X.env.scope.kind == .class || (X.env.scope.kind == .module && X.env.locals != X.env.globals)) = false := by rw [I.ok.kind]; rfl
 have hiσ : i < σ.length := by rw [I.len]; exact (List.getElem?_eq_some_iff.mp hi).1
 have cne := I.cne
 have tracked : ∀ {a : Addr} {h' : Heap}, (∃ o, s.heap.get? a = some o ∧ H a = none) → Heap.SameBut a s.heap h' → HOk X.prog X.w H h' := fun {a h'} ha hs b ob e => by
  obtain ⟨_, _, hfree⟩ := ha
  refine (I.hok b ob e).stay (fun c w' hc q => (hs.2 c ?_).trans q) (fun _ q => q) fun _ _ q => q
  rintro rfl
  rcases hc with rfl | hc
  ·rw [hfree] at e; cases e
  ·rw [hfree] at hc; cases hc
 rcases hx with hk | hk
 ·refine wpAny_storeName_local hk hn (fun h' hn' hs => ?_) hcls
  obtain ⟨oL, _, _, hoL, _⟩ := id hn
  refine h _ ⟨I.ok, I.os, I.bare, ⟨fun b o e n hb hx => ?_, fun b o e n hb hx => ?_, I.base.free, fun b o e hx => ?_, I.base.tups, I.base.frzs, I.base.tbls⟩, ⟨_, hn', fun j y v' e1 e2 e3 => ?_⟩, fun y c e => ?_, I.free, I.freeC, fun p hp => ?_, tracked ⟨oL, hoL, I.free⟩ hs, by simpa using I.len⟩ ⟨_, hs, .inl rfl⟩
  ·exact (hs.2 b (Nat.ne_of_lt (Nat.lt_of_lt_of_le (Heap.lt_size e) I.ok.above))).trans (I.base.keep b o e n hb hx)
  ·obtain ⟨sl, e1⟩ := I.base.slot b o e n hb hx
   exact ⟨sl, (hs.2 b (Nat.ne_of_lt (Nat.lt_of_lt_of_le (Heap.lt_size e) I.ok.above))).trans e1⟩
  ·obtain ⟨o', e1⟩ := I.base.there b o e hx
   exact ⟨o', (hs.2 b (Nat.ne_of_lt (Nat.lt_of_lt_of_le (Heap.lt_size e) I.ok.above))).trans e1⟩
  ·by_cases hj : j = i
   ·subst hj
    rw [hi] at e1; cases e1
    rw [List.getElem?_set_self hiσ] at e2
    cases e2
    exact ⟨u, r, .inl ⟨hk, by simp⟩⟩
   ·rw [List.getElem?_set_ne (Ne.symm hj)] at e2
    obtain ⟨u', r', q⟩ := hl j y v' e1 e2 e3
    refine ⟨u', r', ?_⟩
    rcases q with ⟨k, e⟩ | ⟨k, c, e, z⟩
    ·refine .inl ⟨k, ?_⟩
     have : y ≠ x := fun e => hj (nodup_ix hN e1 (e ▸ hi))
     simp [this, e]
    ·exact .inr ⟨k, c, e, z.sameBut hs (cne y c e)⟩
  ·obtain ⟨w', z⟩ := I.cell y c e
   exact ⟨w', z.sameBut hs (cne y c e)⟩
  ·obtain ⟨e, n, ne, nf, d⟩ := I.pin p hp
   exact ⟨(hs.2 p.1 ne).trans e, n, ne, nf, d⟩
 ·have hfn : X.fn x = true := by
   rcases hf with z | z
   ·exact z
   ·rw [z] at hk; cases hk
  obtain ⟨c, hc⟩ := I.ok.has x (.inl hk)
  obtain ⟨w', z⟩ := I.cell x c hc
  refine wpAny_storeName_cell I.ok.kind hk hc z (fun h' hc' hs => ?_)
  obtain ⟨oc, hoc, hocd⟩ := id z
  refine h { s with heap := h' } ⟨I.ok, I.os, I.bare, ⟨fun b o e n hb hx => ?_, fun b o e n hb hx => ?_, I.base.free, fun b o e hx => ?_, I.base.tups, I.base.frzs, I.base.tbls⟩, ⟨m, hn.sameBut hs (Ne.symm (cne x c hc)), fun j y v' e1 e2 e3 => ?_⟩, fun y c' e => ?_, I.free, I.freeC, fun p hp => ?_, tracked ⟨oc, hoc, I.freeC x c hc⟩ hs, by simpa using I.len⟩ ⟨c, hs, .inr hc⟩
  ·exact (hs.2 b (Nat.ne_of_lt (Nat.lt_of_lt_of_le (Heap.lt_size e) (I.ok.cab x c hfn hc)))).trans (I.base.keep b o e n hb hx)
  ·obtain ⟨sl, e1⟩ := I.base.slot b o e n hb hx
   exact ⟨sl, (hs.2 b (Nat.ne_of_lt (Nat.lt_of_lt_of_le (Heap.lt_size e) (I.ok.cab x c hfn hc)))).trans e1⟩
  ·obtain ⟨o', e1⟩ := I.base.there b o e hx
   exact ⟨o', (hs.2 b (Nat.ne_of_lt (Nat.lt_of_lt_of_le (Heap.lt_size e) (I.ok.cab x c hfn hc)))).trans e1⟩
  ·by_cases hj : j = i
   ·subst hj
    rw [hi] at e1; cases e1
    rw [List.getElem?_set_self hiσ] at e2
    cases e2
    exact ⟨u, r, .inr ⟨.inl hk, c, hc, hc'⟩⟩
   ·rw [List.getElem?_set_ne (Ne.symm hj)] at e2
    obtain ⟨u', r', q⟩ := hl j y v' e1 e2 e3
    refine ⟨u', r', ?_⟩
    rcases q with q | ⟨k, c', e, z'⟩
    ·exact .inl q
    ·refine .inr ⟨k, c', e, z'.sameBut hs ?_⟩
     rintro rfl
     exact hj (nodup_ix hN e1 (I.ok.inj _ _ _ e hc ▸ hi))
  ·by_cases hcc : c' = c
   ·subst hcc; exact ⟨_, hc'⟩
   ·obtain ⟨w2, z2⟩ := I.cell y c' e
    exact ⟨w2, z2.sameBut hs hcc⟩
  ·obtain ⟨e, n, ne, nf, d⟩ := I.pin p hp
   refine ⟨(hs.2 p.1 ?_).trans e, n, ne, nf, d⟩
   intro q
   rw [q, hoc] at e
   have q' : oc = p.2 := Option.some.inj e
   exact d w' (by rw [← q']; exact hocd)
theorem store_ok {M : Model} {A : Around} {E : Value → Shared → Prop} {i : Nat} {x : Str} {v : V} {u : Value} {Q : Unit → Shared → Prop} (I : Inv X pins σ H s) (hN : X.N.Nodup) (hi : X.N[i]? = some x) (hx : Loc X.env.scope x) (r : RelV v u)
 (h : ∀ s', Inv X pins (σ.set i (some v)) H s' → Q () s') (hf : X.fn x = true ∨ X.env.scope.names.lookup x = some .local := by first | exact .inl rfl | exact .inr rfl | assumption) : wpAny M A (storeName X.env x u) Q E s :=
 store_ok2 I hN hi hx r (fun s' I' _ => h s' I') hf
theorem Inv.call' {s' : Shared} {ch : List Addr} (I : Inv X pins σ H s) (ho : s'.os = s.os) (u : Un (frs X.stack) ch H H' s.heap s'.heap) (hok : HOk X.prog X.w H' s'.heap) (hg : AllBare s'.gens)
 (hch : ∀ b ∈ ch, (b ∈ X.ex ∨ X.s₀.heap.objs.size ≤ b) ∧ b ≠ X.env.locals ∧ (∀ x c, X.env.cells.lookup x = some c → c ≠ b) ∧ ∀ p ∈ X.pn ++ pins, p.1 ≠ b) : Inv X pins σ H' s' := by
 obtain ⟨h', g', d', t', o'⟩ := s'
 have e : o' = s.os := ho
 subst e
 exact I.call (g' := g') (t' := t') (d' := d') u hok hg hch
end
abbrev XK := Value → Option Addr → Hp → Prop
abbrev St := List (Option V)
abbrev VK := V → Hp → Prop
abbrev TE := St → Hp → VK → Prop
abbrev TT := St → Hp → (Bool → Hp → Prop) → Prop
abbrev TA := St → Hp → (List V → Hp → Prop) → Prop
structure Ends where
 nx : St → Hp → Prop
 rt : VK
 bk : St → Hp → Prop := fun _ _ => False
 ct : St → Hp → Prop := fun _ _ => False
abbrev TS := Ends → St → Hp → Prop
def EP (X : Cx) (pins : List (Addr × Obj)) (σ : St) (Q : VK) (u : Value) (s' : Shared) : Prop := ∃ v H', Inv X pins σ H' s' ∧ RelV v u ∧ Q v H'
def TP (X : Cx) (pins : List (Addr × Obj)) (σ : St) (Q : Bool → Hp → Prop) (b : Bool) (s' : Shared) : Prop := ∃ H', Inv X pins σ H' s' ∧ Q b H'
def AP (X : Cx) (pins : List (Addr × Obj)) (σ : St) (Q : List V → Hp → Prop) (us : List Value) (s' : Shared) : Prop := ∃ vs H', Inv X pins σ H' s' ∧ Vals vs us ∧ Q vs H'
def SP (X : Cx) (pins : List (Addr × Obj)) (D : Ends) (f : Flow) (s' : Shared) : Prop :=
 match f with
 | .next => ∃ σ' H', Inv X pins σ' H' s' ∧ D.nx σ' H'
 | .brk => ∃ σ' H', Inv X pins σ' H' s' ∧ D.bk σ' H'
 | .cont => ∃ σ' H', Inv X pins σ' H' s' ∧ D.ct σ' H'
 | .ret u => ∃ v σ' H', Inv X pins σ' H' s' ∧ RelV v u ∧ D.rt v H'
def PE (X : Cx) (e : Expr) (t : TE) : Prop :=
 ∀ (pins : List (Addr × Obj)) (s : Shared) (σ : St) (H : Hp) (Q : VK), Inv X pins σ H s → t σ H Q → wpAny (model X.prog X.w) X.A (eval e X.env) (EP X pins σ Q) X.xe s
def PT (X : Cx) (e : Expr) (t : TT) : Prop :=
 ∀ (pins : List (Addr × Obj)) (s : Shared) (σ : St) (H : Hp) (Q : Bool → Hp → Prop), Inv X pins σ H s → t σ H Q → wpAny (model X.prog X.w) X.A (isTrue e X.env (eval e X.env)) (TP X pins σ Q) X.xe s
def PW (X : Cx) (e : Expr) (t : TT) : Prop :=
 ∀ (whole : Sem Value) (pins : List (Addr × Obj)) (s : Shared) (σ : St) (H : Hp) (Q : Bool → Hp → Prop), Inv X pins σ H s → t σ H Q → wpAny (model X.prog X.w) X.A (isTrue e X.env whole) (TP X pins σ Q) X.xe s
theorem PW.pt {X : Cx} {e : Expr} {t : TT} (h : PW X e t) : PT X e t := h _
def PA (X : Cx) (es : List Expr) (t : TA) : Prop :=
 ∀ (pos : Pos) (pins : List (Addr × Obj)) (s : Shared) (σ : St) (H : Hp) (Q : List V → Hp → Prop), Inv X pins σ H s → t σ H Q → wpAny (model X.prog X.w) X.A (spliced (backTo pos (starEach es X.env))) (AP X pins σ Q) X.xe s
def PS (X : Cx) (st : Stmt) (t : TS) : Prop :=
 ∀ (pins : List (Addr × Obj)) (s : Shared) (σ : St) (H : Hp) (D : Ends), Inv X pins σ H s → t D σ H → wpAny (model X.prog X.w) X.A (exec st X.env) (SP X pins D) X.xe s
def PSs (X : Cx) (st : List Stmt) (t : TS) : Prop :=
 ∀ (pins : List (Addr × Obj)) (s : Shared) (σ : St) (H : Hp) (D : Ends), Inv X pins σ H s → t D σ H → wpAny (model X.prog X.w) X.A (execs st X.env) (SP X pins D) X.xe s
theorem thn {α : Type} {t : Sem α} {Q Q' : α → Shared → Prop} {M : Model} {A : Around} {E : Value → Shared → Prop} {s : Shared} (h : wpAny M A t Q E s) (hQ : ∀ a s, Q a s → Q' a s) : wpAny M A t Q' E s := wpAny_mono h hQ fun _ _ x => x
end L2
namespace L2
open PySem PySem.Spec PyProof.Rows
section
variable {X : Cx}
def tVar (i : Nat) : TE := fun σ H Q => ∃ v, σ[i]? = some (some v) ∧ Q v H
def tC (v : V) : TE := fun _ H Q => Q v H
theorem pe_var {i : Nat} {x : Str} {pos : Pos} (hN : X.N[i]? = some x) (hv : Vis X.env.scope x) (hd : (x == ("__debug__" : Str)) = false := by decide) (hcd : (x == ("__classdict__" : Str)) = false := by decide) : PE X (.Name x pos) (tVar i) := by
 walk_at "z9"
 obtain ⟨v, e, h⟩ := h
 obtain ⟨m, hn, hl⟩ := I.loc
 obtain ⟨u, r, l⟩ := hl i x v hN e hv
 have fin : EP X pins σ Q u s := ⟨v, H, I, r, h⟩
 rcases l with ⟨hk, hm⟩ | ⟨hk, c, hc, hcell⟩
 ·exact wpAny_Name (wpAny_loadName_local I.ok.kind hk hn hm fin) hd
 ·rcases hk with hk | hk
  ·exact wpAny_Name (wpAny_loadName_cell I.ok.kind hk hc hcell fin) hd
  ·exact wpAny_Name (wpAny_loadName_free I.ok.kind hk hc hcell fin hcd) hd
theorem pe_int {i j pos} : PE X (.Constant (.int i) j pos) (tC (.int i)) := fun _ _ _ H _ I h => wpAny_Constant_int ⟨.int i, H, I.tok _, ⟨_, rfl⟩, h⟩
theorem pe_bl {b j pos} : PE X (.Constant (.bool b) j pos) (tC (.bl b)) := fun _ _ _ H _ I h => Constant_bool ⟨.bl b, H, I, rfl, h⟩
theorem pe_non {j pos} : PE X (.Constant .none j pos) (tC .non) := fun _ _ _ H _ I h => Constant_none ⟨.non, H, I, rfl, h⟩
theorem pe_str {x j pos} : PE X (.Constant (.str x) j pos) (tC (.str x)) := fun _ _ _ H _ I h => Calls.Constant_str ⟨.str x, H, I.tok _, ⟨_, rfl⟩, h⟩
def Gl (X : Cx) (x : Str) : Prop := X.env.kindOf x = some .globalImplicit
theorem ld_glob {E : Value → Shared → Prop} {pins : List (Addr × Obj)} {s : Shared} {σ : St} {H : Hp} {x : Str} {u : Value} {pos : Pos} {Q : Value → Shared → Prop} (I : Inv X pins σ H s) (hg : Gl X x) (hm : X.mg x = some u) (h : Q u s)
 (hd : (x == ("__debug__" : Str)) = false := by decide) : wpAny (model X.prog X.w) X.A (eval (.Name x pos) X.env) Q E s :=
 Calls.Name_function_global I.ok.kind hg (Calls.loadGlobal_global (by rw [I.ok.glob]; exact I.mod.glob.keeps I.bk) hm h) hd
theorem ld_blt {E : Value → Shared → Prop} {pins : List (Addr × Obj)} {s : Shared} {σ : St} {H : Hp} {x : Str} {u : Value} {pos : Pos} {Q : Value → Shared → Prop} (I : Inv X pins σ H s) (hg : Gl X x) (hm : X.mg x = none) (hv : bootBuiltins x = some u) (h : Q u s)
 (hn : x ≠ "__name__" := by decide) (hd : (x == ("__debug__" : Str)) = false := by decide) : wpAny (model X.prog X.w) X.A (eval (.Name x pos) X.env) Q E s := by
 obtain ⟨mb, h1, h2⟩ := I.mod.blt
 exact Calls.Name_function_global I.ok.kind hg (Calls.loadGlobal_builtin (by rw [I.ok.glob]; exact I.mod.glob.keeps I.bk) hm (by rw [I.ok.blt]; exact h1.keeps I.bk) ((h2 x hn).trans hv) h) hd
theorem pe_glob {x : Str} {v : V} {u : Value} {pos : Pos} (hg : Gl X x) (hm : X.mg x = some u) (r : RelV v u) (hd : (x == ("__debug__" : Str)) = false := by decide) : PE X (.Name x pos) (tC v) :=
 fun _ _ _ H _ I h => ld_glob I hg hm ⟨v, H, I, r, h⟩ hd
theorem pe_bltn {x : Str} {v : V} {u : Value} {pos : Pos} (hg : Gl X x) (hm : X.mg x = none) (hv : bootBuiltins x = some u) (r : RelV v u) (hn : x ≠ "__name__" := by decide) (hd : (x == ("__debug__" : Str)) = false := by decide) : PE X (.Name x pos) (tC v) :=
 fun _ _ _ H _ I h => ld_blt I hg hm hv ⟨v, H, I, r, h⟩ hn hd
variable {a b : Expr} {ta tb : TE} {pos : Pos}
def PC (X : Cx) (op : CmpOp) (a b : Expr) (t : TE) : Prop :=
 ∀ (pins : List (Addr × Obj)) (s : Shared) (σ : St) (H : Hp) (Q : VK), Inv X pins σ H s → t σ H Q →
  wpAny (model X.prog X.w) X.A (eval a X.env) (fun v s₁ => wpAny (model X.prog X.w) X.A (eval b X.env) (fun u s₂ => wpAny (model X.prog X.w) X.A (compareOp op v u) (EP X pins σ Q) X.xe s₂) X.xe s₁) X.xe s
def tB (t : TE) : TT := fun σ H Q => t σ H fun x H1 => ∃ c, x = .bl c ∧ Q c H1
theorem pt_cmp {op : CmpOp} {t : TE} (h : PC X op a b t) (h1 : behindInMarks op b = false := by first | exact nobehind _ (by decide) (by decide) | rfl) : PT X (.Compare a [op] [b] pos) (tB t) := by
 intro pins s σ H Q I hw
 refine wpAny_isTrue_Compare1 (thn (h pins s σ H _ I hw) fun v s1 h1 => thn h1 fun u s2 h2 => thn h2 fun c s3 ⟨x, H1, I1, r1, q1⟩ => ?_) h1
 obtain ⟨d, rfl, q⟩ := q1
 cases r1
 exact wpAny_truthy_bool ⟨H1, I1, q⟩
variable {tA tB' : TT} {rest : List Expr}
def tAnd (t u : TT) : TT := fun σ H Q => t σ H fun c H1 => if c = true then u σ H1 Q else Q false H1
def tOr (t u : TT) : TT := fun σ H Q => t σ H fun c H1 => if c = true then Q true H1 else u σ H1 Q
def tNot (t : TT) : TT := fun σ H Q => t σ H fun c H1 => Q (!c) H1
theorem pw_and1 (ha : PT X a tA) : PW X (.BoolOp .And [a] pos) tA := by
 intro wh pins s σ H Q I h
 refine isTrue_and (thn (ha pins s σ H Q I h) fun c s1 e => ?_)
 cases c with
 | true => exact isTrue_and_nil e
 | false => exact e
theorem pw_or1 (ha : PT X a tA) : PW X (.BoolOp .Or [a] pos) tA := by
 intro wh pins s σ H Q I h
 refine isTrue_or (thn (ha pins s σ H Q I h) fun c s1 e => ?_)
 cases c with
 | false => exact isTrue_or_nil e
 | true => exact e
theorem pw_and (ha : PT X a tA) (hb : PW X (.BoolOp .And (b :: rest) pos) tB') : PW X (.BoolOp .And (a :: b :: rest) pos) (tAnd tA tB') := by
 intro wh pins s σ H Q I h
 refine isTrue_and (thn (ha pins s σ H _ I h) fun c s1 ⟨H1, I1, q1⟩ => ?_)
 cases c with
 | true => exact hb wh pins s1 σ H1 Q I1 q1
 | false => exact ⟨H1, I1, q1⟩
theorem pw_or (ha : PT X a tA) (hb : PW X (.BoolOp .Or (b :: rest) pos) tB') : PW X (.BoolOp .Or (a :: b :: rest) pos) (tOr tA tB') := by
 intro wh pins s σ H Q I h
 refine isTrue_or (thn (ha pins s σ H _ I h) fun c s1 ⟨H1, I1, q1⟩ => ?_)
 cases c with
 | true => exact ⟨H1, I1, q1⟩
 | false => exact hb wh pins s1 σ H1 Q I1 q1
theorem pt_not (ha : PT X a tA) : PT X (.UnaryOp .Not a pos) (tNot tA) := by
 walk_at "z9"
 exact isTrue_not (ha pins s σ H (fun c H1 => Q (!c) H1) I h)
def tAndV (ta tb : TE) : TE := fun σ H Q => ta σ H fun x H1 => ∃ c, x = .bl c ∧ if c = true then tb σ H1 Q else Q (.bl false) H1
def tOrV (ta tb : TE) : TE := fun σ H Q => ta σ H fun x H1 => ∃ c, x = .bl c ∧ if c = true then Q (.bl true) H1 else tb σ H1 Q
def tNotV (ta : TE) : TE := fun σ H Q => ta σ H fun x H1 => ∃ c, x = .bl c ∧ Q (.bl (!c)) H1
theorem pe_one {op} {t : TE} (h : PE X a t) : PE X (.BoolOp op [a] pos) t := fun pins s σ H Q I hw => BoolOp_one (h pins s σ H Q I hw)
theorem pe_and (ha : PE X a ta) (hb : PE X (.BoolOp .And (b :: rest) pos) tb) : PE X (.BoolOp .And (a :: b :: rest) pos) (tAndV ta tb) := by
 walk_at "z9"
 refine BoolOp_and (thn (ha pins s σ H _ I h) fun v s1 ⟨x, H1, I1, r1, q1⟩ => ?_)
 obtain ⟨c, rfl, q1⟩ := q1
 cases r1
 refine wpAny_truthy_bool ?_
 cases c with
 | true => exact hb pins s1 σ H1 Q I1 q1
 | false => exact ⟨.bl false, H1, I1, rfl, q1⟩
theorem pe_not (ha : PE X a ta) : PE X (.UnaryOp .Not a pos) (tNotV ta) := by
 walk_at "z9"
 refine UnaryOp_ (thn (ha pins s σ H _ I h) fun v s1 ⟨x, H1, I1, r1, q1⟩ => ?_)
 obtain ⟨c, rfl, q1⟩ := q1
 cases r1
 exact not_of (wpAny_truthy_bool ⟨.bl (!c), H1, I1, rfl, q1⟩)
def tIf (t : TT) (ta tb : TE) : TE := fun σ H Q => t σ H fun c H1 => if c = true then ta σ H1 Q else tb σ H1 Q
theorem pe_ifExp {c : Expr} (hc : PT X c tA) (ha : PE X a ta) (hb : PE X b tb) : PE X (.IfExp c a b pos) (tIf tA ta tb) := by
 walk_at "z9"
 refine wpAny_IfExp (thn (hc pins s σ H _ I h) fun d s1 ⟨H1, I1, q1⟩ => ?_)
 cases d with
 | true => exact ha pins s1 σ H1 Q I1 q1
 | false => exact hb pins s1 σ H1 Q I1 q1
end
end L2
namespace L2
open PySem PySem.Spec PyProof.Rows
def SqL (K : PySem.W.Frag) (H : Hp) (a : Addr) (xs : List V) : Prop :=
 Rd H a (.lst xs) ∨
  ∃ (o : Obj) (its : Array Value) (n : Nat), K.lookup a = some o ∧ o.cls = .type "list" ∧ o.dict = none ∧ o.data = .seq its n ∧ its.size ≤ sizeLine ∧ Vals xs its.toList
def SqT (K : PySem.W.Frag) (H : Hp) (a : Addr) (xs : List V) : Prop :=
 Rd H a (.tup xs) ∨
  ∃ (o : Obj) (its : Array Value) (n : Nat), K.lookup a = some o ∧ o.cls = .type "tuple" ∧ o.data = .seq its n ∧ its.size ≤ sizeLine ∧ Vals xs its.toList
def absV : Value → Option V
 | .none => some .non
 | .bool b => some (.bl b)
 | .int i _ => some (.int i)
 | .str x _ => some (.str x)
 | .bytes b _ => some (.byt b)
 | .float b _ => some (.flt b)
 | .ref a => some (.ref a)
 | .type n => some (.ty n)
 | _ => none
theorem RelV.abs {x : V} {u : Value} (r : RelV x u) : absV u = some x := by
 cases x with
 | non => cases r; rfl
 | bl _ => cases r; rfl
 | int _ => obtain ⟨t, rfl⟩ := r; rfl
 | str _ => obtain ⟨t, rfl⟩ := r; rfl
 | byt _ => obtain ⟨t, rfl⟩ := r; rfl
 | flt _ => obtain ⟨t, rfl⟩ := r; rfl
 | ref _ => cases r; rfl
 | ty _ => cases r; rfl
theorem RelV.inj {x y : V} {u : Value} (r : RelV x u) (q : RelV y u) : x = y := Option.some.inj (r.abs.symm.trans q.abs)
theorem Vals.inj : ∀ {xs ys : List V} {us : List Value}, Vals xs us → Vals ys us → xs = ys
 | _, _, _, .nil, .nil => rfl
 | _, _, _, .cons r t, .cons r' t' => by rw [r.inj r', Vals.inj t t']
section
variable {X : Cx} {pins : List (Addr × Obj)} {σ : St} {H : Hp} {s : Shared} {a : Addr} {xs ys : List V}
theorem SqL.of {K : PySem.W.Frag} (h : H a = some (.lst xs)) : SqL K H a xs := .inl (.inl h)
theorem SqT.of {K : PySem.W.Frag} (h : H a = some (.tup xs)) : SqT K H a xs := .inl (.inl h)
theorem Inv.list (I : Inv X pins σ H s) (h : SqL X.K H a xs) : ∃ its : List Value, Vals xs its ∧ PlainL s.heap a its.toArray ∧ xs.length ≤ sizeLine := by
 rcases h with h | ⟨o, its, n, hk, hc, hd, hs, hz, r⟩
 ·obtain ⟨z, its, n, r, e⟩ := h.ok I.hok
  exact ⟨its, r, ⟨_, n, e, rfl, rfl, rfl⟩, z⟩
 ·refine ⟨its.toList, r, ⟨o, n, I.kIn a o hk, hc, hd, by simpa using hs⟩, ?_⟩
  have e := r.length
  simp only [Array.length_toList] at e
  lia
theorem Inv.tuple (I : Inv X pins σ H s) (h : SqT X.K H a xs) : ∃ its : List Value, Vals xs its ∧ IsTup s.heap a its.toArray ∧ xs.length ≤ sizeLine := by
 rcases h with h | ⟨o, its, n, hk, hc, hs, hz, r⟩
 ·obtain ⟨z, its, r, p⟩ := h.ok I.hok
  exact ⟨its, r, p, z⟩
 ·refine ⟨its.toList, r, ⟨o, I.kIn a o hk, hc, n, by simpa using hs⟩, ?_⟩
  have e := r.length
  simp only [Array.length_toList] at e
  lia
theorem Inv.list_inj (I : Inv X pins σ H s) (h : SqL X.K H a xs) (h' : SqL X.K H a ys) : xs = ys := by
 obtain ⟨its, r, ⟨o, n, e, _, _, d⟩, _⟩ := I.list h
 obtain ⟨its', r', ⟨o', n', e', _, _, d'⟩, _⟩ := I.list h'
 rw [e] at e'; cases e'
 rw [d] at d'
 injection d' with d1 _
 have : its = its' := by simpa using congrArg Array.toList d1
 subst this
 exact r.inj r'
theorem Inv.tuple_inj (I : Inv X pins σ H s) (h : SqT X.K H a xs) (h' : SqT X.K H a ys) : xs = ys := by
 obtain ⟨its, r, ⟨o, e, _, n, d⟩, _⟩ := I.tuple h
 obtain ⟨its', r', ⟨o', e', _, n', d'⟩, _⟩ := I.tuple h'
 rw [e] at e'; cases e'
 rw [d] at d'
 injection d' with d1 _
 have : its = its' := by simpa using congrArg Array.toList d1
 subst this
 exact r.inj r'
end
abbrev Cx.wish (X : Cx) (E : Value → Shared → Prop) : Cx := { X with xe := E }
abbrev Cx.nox (X : Cx) : Cx := X.wish fun _ _ => False
theorem Cx.Ok.wish {X : Cx} (ok : X.Ok) (E : Value → Shared → Prop) : (X.wish E).Ok :=
 ⟨ok.mod, ok.kind, ok.glob, ok.blt, ok.above, ok.inj, ok.has, ok.cab, ok.hd, ok.frames, ok.stk, ok.exf, ok.bs, ok.bsz, ok.noex, ok.exfs, ok.funs, ok.frf⟩
theorem Cx.Ok.unwish {X : Cx} {E : Value → Shared → Prop} (ok : (X.wish E).Ok) : X.Ok :=
 ⟨ok.mod, ok.kind, ok.glob, ok.blt, ok.above, ok.inj, ok.has, ok.cab, ok.hd, ok.frames, ok.stk, ok.exf, ok.bs, ok.bsz, ok.noex, ok.exfs, ok.funs, ok.frf⟩
section
variable {X : Cx} {pins : List (Addr × Obj)} {σ : St} {H : Hp} {s : Shared} {E : Value → Shared → Prop}
theorem Inv.wish (I : Inv X pins σ H s) (E : Value → Shared → Prop) : Inv (X.wish E) pins σ H s := ⟨I.ok.wish E, I.os, I.bare, I.base, I.loc, I.cell, I.free, I.freeC, I.pin, I.hok, I.len⟩
theorem Inv.unwish (I : Inv (X.wish E) pins σ H s) : Inv X pins σ H s := ⟨I.ok.unwish, I.os, I.bare, I.base, I.loc, I.cell, I.free, I.freeC, I.pin, I.hok, I.len⟩
theorem SP.unwish {D : Ends} {f : Flow} {s' : Shared} (h : SP (X.wish E) pins D f s') : SP X pins D f s' := by
 cases f with
 | next => obtain ⟨σ', H', I, q⟩ := h; exact ⟨σ', H', I.unwish, q⟩
 | brk => obtain ⟨σ', H', I, q⟩ := h; exact ⟨σ', H', I.unwish, q⟩
 | cont => obtain ⟨σ', H', I, q⟩ := h; exact ⟨σ', H', I.unwish, q⟩
 | ret u => obtain ⟨v, σ', H', I, r, q⟩ := h; exact ⟨v, σ', H', I.unwish, r, q⟩
theorem PSs.nox {st : List Stmt} {t : TS} (h : PSs X.nox st t) : PSs X st t := fun pins s σ H D I hw =>
 wpAny_mono (h pins s σ H D (I.wish _) hw) (fun _ _ q => q.unwish) fun _ _ z => False.elim z
end
section
variable {X : Cx} {st : Stmt} {rest : List Stmt} {t u : TS} {e : Expr} {te : TE} {pos : Pos}
def tNext : TS := fun D σ H => D.nx σ H
def tSeq (t u : TS) : TS := fun D σ H => t { D with nx := u D } σ H
theorem pss_nil : PSs X [] tNext := fun _ _ σ H _ I h => wpAny_execs_nil ⟨σ, H, I, h⟩
theorem pss_cons (h1 : PS X st t) (h2 : PSs X rest u) : PSs X (st :: rest) (tSeq t u) := by
 intro pins s σ H D I h
 refine wpAny_execs_cons (thn (h1 pins s σ H { D with nx := u D } I h) fun f s1 q => ?_)
 cases f with
 | next =>
   obtain ⟨σ', H', I', q⟩ := q
   exact h2 pins s1 σ' H' D I' q
 | ret v => exact q
 | brk => exact q
 | cont => exact q
theorem pss_one (h1 : PS X st t) : PSs X [st] t := by
 intro pins s σ H D I h
 refine wpAny_execs_cons (thn (h1 pins s σ H D I h) fun f s1 q => ?_)
 cases f with
 | next => exact wpAny_execs_nil q
 | ret v => exact q
 | brk => exact q
 | cont => exact q
def tCont : TS := fun D σ H => D.ct σ H
theorem ps_continue : PS X (.Continue pos) tCont := fun _ _ σ H _ I h => wpAny_Continue ⟨σ, H, I, h⟩
theorem Inv.quiet {pins : List (Addr × Obj)} {σ : St} {H : Hp} {s : Shared} (I : Inv X pins σ H s) : interactive X.env = false := by simp [interactive, I.ok.kind]
def tDrop (te : TE) : TS := fun D σ H => te σ H fun _ H1 => D.nx σ H1
theorem ps_expr (he : PE X e te) (hs : swapsWith e none pos.line X.env = pure false := by rfl) : PS X (.Expr e pos) (tDrop te) := by
 intro pins s σ H D I h
 exact wpAny_Expr_any (thn (he pins s σ H _ I h) fun v s1 ⟨x, H1, I1, r1, q1⟩ => ⟨σ, H1, I1, q1⟩) I.quiet hs
def tRet (te : TE) : TS := fun D σ H => te σ H D.rt
theorem ps_ret (he : PE X e te) : PS X (.Return (some e) pos) (tRet te) := by
 intro pins s σ H D I h
 exact wpAny_Return_some (thn (he pins s σ H _ I h) fun v s1 ⟨x, H1, I1, r1, q1⟩ => ⟨x, σ, H1, I1, r1, q1⟩)
def tRetN : TS := fun D _ H => D.rt .non H
def tIfS (c : TT) (t u : TS) : TS := fun D σ H => c σ H fun b H1 => if b = true then t D σ H1 else u D σ H1
theorem ps_if {c : Expr} {a b : List Stmt} {tc : TT} (hc : PT X c tc) (ha : PSs X a t) (hb : PSs X b u) : PS X (.If c a b pos) (tIfS tc t u) := by
 intro pins s σ H D I h
 refine wpAny_If (thn (hc pins s σ H _ I h) fun d s1 ⟨H1, I1, q1⟩ => ?_)
 cases d with
 | true => exact ha pins s1 σ H1 D I1 q1
 | false => exact hb pins s1 σ H1 D I1 q1
def tNever : TS := fun _ _ _ => False
end
abbrev TG := V → St → Hp → (St → Hp → Prop) → Prop
abbrev TGs := List V → St → Hp → (St → Hp → Prop) → Prop
def PG (X : Cx) (target : Expr) (t : TG) : Prop :=
 ∀ (pins : List (Addr × Obj)) (s : Shared) (σ : St) (H : Hp) (v : V) (u : Value) (Q : St → Hp → Prop), Inv X pins σ H s → RelV v u → t v σ H Q →
  wpAny (model X.prog X.w) X.A (assign target X.env u) (fun _ s' => ∃ σ' H', Inv X pins σ' H' s' ∧ Q σ' H') X.xe s
def PGs (X : Cx) (ts : List Expr) (t : TGs) : Prop :=
 ∀ (pins : List (Addr × Obj)) (s : Shared) (σ : St) (H : Hp) (vs : List V) (us : List Value) (Q : St → Hp → Prop), Inv X pins σ H s → Vals vs us → t vs σ H Q →
  wpAny (model X.prog X.w) X.A (assignInOrder ((assignEach ts X.env).map (·.2)) us) (fun _ s' => ∃ σ' H', Inv X pins σ' H' s' ∧ Q σ' H') X.xe s
abbrev TSet := V → V → V → Hp → (Hp → Prop) → Prop
abbrev TIp := V → V → Hp → VK → Prop
def PIp (X : Cx) (op : Operator) (t : TIp) : Prop :=
 ∀ (pins : List (Addr × Obj)) (s : Shared) (σ : St) (H : Hp) (x y : V) (v u : Value) (Q : VK), Inv X pins σ H s → RelV x v → RelV y u → t x y H Q →
  wpAny (model X.prog X.w) X.A (inplaceOp op v u) (EP X pins σ Q) X.xe s
section
variable {X : Cx} {pos : Pos}
def gName (i : Nat) : TG := fun v σ H Q => Q (σ.set i (some v)) H
theorem pg_name {i : Nat} {x : Str} (hN : X.N.Nodup) (hi : X.N[i]? = some x) (hx : Loc X.env.scope x) (hf : X.fn x = true ∨ X.env.scope.names.lookup x = some .local := by first | exact .inl rfl | exact .inr rfl | assumption) : PG X (.Name x pos) (gName i) := by
 intro pins s σ H v u Q I r h
 exact wpAny_assign_Name (store_ok I hN hi hx r (fun s' I' => ⟨_, H, I', h⟩) hf)
def gNil : TGs := fun vs σ H Q => vs = [] ∧ Q σ H
def gCons (t : TG) (u : TGs) : TGs := fun vs σ H Q => ∃ v r, vs = v :: r ∧ t v σ H fun σ' H' => u r σ' H' Q
theorem pgs_nil : PGs X [] gNil := by
 intro pins s σ H vs us Q I r h
 obtain ⟨e, h⟩ := h
 subst e
 cases r
 exact assignInOrder_nil ⟨σ, H, I, h⟩
theorem pgs_cons {e : Expr} {es : List Expr} {t : TG} {u : TGs} (h1 : PG X e t) (h2 : PGs X es u)
 (hs : (assignEach (e :: es) X.env).map (·.2) = assign e X.env :: (assignEach es X.env).map (·.2) := by rfl) : PGs X (e :: es) (gCons t u) := by
 intro pins s σ H vs us Q I r h
 obtain ⟨v, vr, e1, h⟩ := h
 subst e1
 cases r with
 | cons r rr =>
   rw [hs]
   refine assignInOrder_cons (thn (h1 pins s σ H _ _ _ I r h) fun _ s1 ⟨σ1, H1, I1, q1⟩ => ?_)
   exact h2 pins s1 σ1 H1 _ _ Q I1 rr q1
def gTup (K : PySem.W.Frag) (n : Nat) (t : TGs) : TG := fun v σ H Q => ∃ a xs, v = .ref a ∧ SqT K H a xs ∧ xs.length = n ∧ t xs σ H Q
theorem pg_tup {es : List Expr} {k : Nat} {t : TGs} {n : Nat} (hc : X.calm = true) (h : PGs X es t)
 (hn : (assignEach es X.env).length = n := by rfl) (hst : (assignEach es X.env).findIdx? (·.1) = none := by rfl) : PG X (.Tuple es k pos) (gTup X.K n t) := by
 intro pins s σ H v u Q I r hw
 obtain ⟨a, xs, e1, hq, hl, hw⟩ := hw
 subst e1
 cases r
 obtain ⟨its, rv, ht, hz⟩ := I.tuple hq
 refine assign_Tuple_tuple (I.ok.hd hc) ht (by simp [hn, ← hl, rv.length]) hst fun h' hx => ?_
 have I1 : Inv X pins σ H { s with heap := h' } := I.kept (t' := s.toks) fun b o e => hx b o (Nat.ne_of_lt (Heap.lt_size e)) e
 exact h pins _ σ H xs _ Q I1 (by simpa using rv) hw
def gSub (to ti : TE) (t : TSet) : TG := fun v σ H Q => to σ H fun o H1 => ti σ H1 fun i H2 => t o i v H2 fun H3 => Q σ H3
def tAsg (te : TE) (g : TG) : TS := fun D σ H => te σ H fun x H1 => g x σ H1 D.nx
theorem ps_asg {tg e : Expr} {te : TE} {g : TG} (he : PE X e te) (hg : PG X tg g) (hs : swapsWithSole [tg] e pos.line X.env = pure false := by rfl) (hw : swappedStores [tg] e X.env = pure none := by rfl)
 (h1 : (assignEach [tg] X.env).map (·.2) = [assign tg X.env] := by rfl) : PS X (.Assign [tg] e pos) (tAsg te g) := by
 intro pins s σ H D I h
 refine wpAny_Assign_stores (thn (he pins s σ H _ I h) fun v s1 ⟨x, H1, I1, r1, q1⟩ => ?_) hs hw
 rw [h1]
 exact thn (hg pins s1 σ H1 x v _ I1 r1 q1) fun _ s2 q => q
theorem ps_set {i : Nat} {x : Str} {e : Expr} {te : TE} {pos' : Pos} (hN : X.N.Nodup) (hi : X.N[i]? = some x) (hx : Loc X.env.scope x) (he : PE X e te) (hs : swapsWith e (some (.Name x pos')) pos.line X.env = pure false := by rfl) (hf : X.fn x = true ∨ X.env.scope.names.lookup x = some .local := by first | exact .inl rfl | exact .inr rfl | assumption) :
 PS X (.Assign [.Name x pos'] e pos) (tAsg te (gName i)) := by
 intro pins s σ H D I h
 refine wpAny_Assign_Name (thn (he pins s σ H _ I h) fun v s1 ⟨y, H1, I1, r1, q1⟩ => ?_) hs
 exact store_ok I1 hN hi hx r1 (fun s2 I2 => ⟨_, H1, I2, q1⟩) hf
def tPar (i j : Nat) (ta : TA) : TS := fun D σ H => ta σ H fun vs H1 => ∃ v w, vs = [v, w] ∧ D.nx ((σ.set i (some v)).set j (some w)) H1
def tAug (i : Nat) (te : TE) (ti : TIp) : TS := fun D σ H => ∃ x, σ[i]? = some (some x) ∧ te σ H fun y H1 => ti x y H1 fun z H2 => D.nx (σ.set i (some z)) H2
theorem ps_aug {i : Nat} {x : Str} {e : Expr} {te : TE} {op : Operator} {ti : TIp} {pos' : Pos} (hN : X.N.Nodup) (hi : X.N[i]? = some x) (hx : Loc X.env.scope x) (he : PE X e te) (ho : PIp X op ti) (hf : X.fn x = true ∨ X.env.scope.names.lookup x = some .local := by first | exact .inl rfl | exact .inr rfl | assumption) :
 PS X (.AugAssign (.Name x pos') op e pos) (tAug i te ti) := by
 intro pins s σ H D I h
 obtain ⟨v, e1, h⟩ := h
 obtain ⟨m, hn, hl⟩ := I.loc
 have vis : Vis X.env.scope x := by rcases hx with k | k; exact .inl k; exact .inr (.inl k)
 obtain ⟨u, r, l⟩ := hl i x v hi e1 vis
 refine wpAny_AugAssign_Name ?_
 have go : wpAny (model X.prog X.w) X.A (eval e X.env) (fun w s₂ => wpAny (model X.prog X.w) X.A (inplaceOp op u w) (fun r s₃ => wpAny (model X.prog X.w) X.A (storeName X.env x r) (fun _ => SP X pins D .next) X.xe s₃) X.xe s₂) X.xe s := by
  refine thn (he pins s σ H _ I h) fun w s1 ⟨y, H1, I1, r1, q1⟩ => ?_
  refine thn (ho pins s1 σ H1 v y u w _ I1 r r1 q1) fun z s2 ⟨zv, H2, I2, r2, q2⟩ => ?_
  exact store_ok I2 hN hi hx r2 (fun s3 I3 => ⟨_, H2, I3, q2⟩) hf
 rcases l with ⟨hk, hm⟩ | ⟨hk, c, hc, hcell⟩
 ·exact wpAny_loadName_local I.ok.kind hk hn hm go
 ·rcases hk with hk | hk
  ·exact wpAny_loadName_cell I.ok.kind hk hc hcell go
  ·rcases hx with k | k
   ·have : X.env.scope.names.lookup x = some .free := hk
    rw [k] at this; cases this
   ·have : X.env.scope.names.lookup x = some .free := hk
    rw [k] at this; cases this
def ipI (f : Int → Int → Int) : TIp := fun x y H Q => ∃ i j, x = .int i ∧ y = .int j ∧ Q (.int (f i j)) H
theorem ip_add : PIp X .Add (ipI fun i j => i + j) := by
 intro pins s σ H x y v u Q I r1 r2 h
 obtain ⟨i, j, e1, e2, q⟩ := h
 subst e1; subst e2
 obtain ⟨t, rfl⟩ := r1
 obtain ⟨t', rfl⟩ := r2
 exact iadd_int ⟨.int _, H, I.tok _, ⟨_, rfl⟩, q⟩
end
section
variable {X : Cx} {pos : Pos}
def tWhile (c : TT) (tb : TS) : TS := fun D σ H => ∃ W : Nat → St → Hp → Prop, (∃ m, W m σ H) ∧ ∀ m σ H, W m σ H →
 c σ H fun b H1 => if b = true then ∃ N : St → Hp → Prop, (∀ σ' H', N σ' H' → ∃ m', m' < m ∧ W m' σ' H') ∧ tb { D with nx := N, ct := N, bk := D.nx } σ H1 else D.nx σ H1
theorem ps_while {c : Expr} {body : List Stmt} {tc : TT} {tb : TS} (hp : PassesOwn (model X.prog X.w) X.A X.env X.xe) (hc : PT X c tc) (hb : PSs X body tb) : PS X (.While c body [] pos) (tWhile tc tb) := by
 intro pins s σ H D I h
 obtain ⟨W, ⟨m0, w0⟩, turn⟩ := h
 refine wpAny_While (codeAny_whileLoop (fun n s' => ∃ σ' H', Inv X pins σ' H' s' ∧ W n σ' H') ?_ m0 ⟨σ, H, I, w0⟩)
 rintro n s1 ⟨σ1, H1, I1, w1⟩
 refine wpAny_passesOwn hp (thn (hc pins s1 σ1 H1 _ I1 (turn n σ1 H1 w1)) fun b s2 ⟨H2, I2, q2⟩ => ?_)
 cases b with
 | true =>
   obtain ⟨N, hN, q2⟩ := q2
   rw [if_pos rfl]
   refine wpAny_passesOwn hp (thn (hb pins s2 σ1 H2 _ I2 q2) fun f s3 q3 => ?_)
   cases f with
   | next =>
     obtain ⟨σ3, H3, I3, n3⟩ := q3
     obtain ⟨m', hm, w3⟩ := hN σ3 H3 n3
     exact ⟨m', hm, σ3, H3, I3, w3⟩
   | cont =>
     obtain ⟨σ3, H3, I3, n3⟩ := q3
     obtain ⟨m', hm, w3⟩ := hN σ3 H3 n3
     exact ⟨m', hm, σ3, H3, I3, w3⟩
   | brk => exact q3
   | ret v => exact q3
 | false =>
   rw [if_neg Bool.false_ne_true]
   exact wpAny_execs_nil ⟨σ1, H2, I2, q2⟩
end
structure It where
 go : Nat → Hp → Prop
 yld : Nat → Hp → V → Hp → Prop
 stop : Nat → Hp → Prop
def FpOk (X : Cx) (pins : List (Addr × Obj)) (H : Hp) (b : Addr) : Prop :=
 H b = none ∧ b ≠ X.env.locals ∧ b ∉ X.fs ∧ (b ∈ X.ex ∨ X.s₀.heap.objs.size ≤ b) ∧ (∀ x c, X.env.cells.lookup x = some c → c ≠ b) ∧ ∀ p ∈ X.pn ++ pins, p.1 ≠ b
theorem Inv.fpOk {X : Cx} {pins : List (Addr × Obj)} {σ : St} {H H' : Hp} {s : Shared} {b : Addr} (I : Inv X pins σ H s) (hb : s.heap.objs.size ≤ b) (hn : H' b = none) : FpOk X pins H' b := by
 refine ⟨hn, Nat.ne_of_gt (Nat.lt_of_lt_of_le I.lt hb), I.nofs hb, .inr (Nat.le_trans I.sz hb), fun x c e z => ?_, fun p hp z => ?_⟩
 ·obtain ⟨v, q⟩ := I.cell x c e
  exact absurd (Nat.lt_of_lt_of_le q.lt (by rw [z]; exact hb)) (Nat.lt_irrefl _)
 ·exact absurd (Nat.lt_of_lt_of_le (Heap.lt_size (I.pin p hp).1) (by rw [z]; exact hb)) (Nat.lt_irrefl _)
structure Turn (P : Program) (w : World) (K : PySem.W.Frag) (tg : Expr) (J : It) (fp : List Addr) (it : Addr) (tn : Nat → Heap → Prop) : Prop where
 mem : it ∈ fp
 obj : ∀ i h, tn i h → ∀ b ∈ fp, ∃ o, h.get? b = some o ∧ ∀ v, o.data ≠ .cell v
 keep : ∀ i h h', tn i h → (∀ b ∈ fp, ∀ o, h.get? b = some o → h'.get? b = some o) → tn i h'
 item : ∀ (X : Cx), X.prog = P → X.w = w → X.K = K → X.calm = true → ∀ (i : Nat) (pins : List (Addr × Obj)) (s : Shared) (σ : St) (H : Hp) (E : Value → Shared → Prop), Inv X pins σ H s → (∀ b ∈ fp, FpOk X pins H b) → tn i s.heap → J.go i H →
  wpAny (model P w) X.A (pyNext (.ref it)) (fun r s1 => ∃ u, r = some u ∧
   wpAny (model P w) X.A (letOwnedTupleGo tg (.ref it) u) (fun _ s2 => ∃ x H', Inv X pins σ H' s2 ∧ RelV x u ∧ J.yld i H x H' ∧ tn (i + 1) s2.heap ∧ ∀ b ∈ fp, H' b = none) E s1) E s
 done : ∀ (X : Cx), X.prog = P → X.w = w → X.K = K → X.calm = true → ∀ (i : Nat) (pins : List (Addr × Obj)) (s : Shared) (σ : St) (H : Hp) (E : Value → Shared → Prop), Inv X pins σ H s → (∀ b ∈ fp, FpOk X pins H b) → tn i s.heap → J.stop i H →
  wpAny (model P w) X.A (pyNext (.ref it)) (fun r s1 => r = none ∧ Inv X pins σ H s1) E s
 self : ∀ (A : Around) (i : Nat) (s : Shared) (Q : Value → Shared → Prop) (E : Value → Shared → Prop), tn i s.heap → Q (.ref it) s → wpAny (model P w) A (pyIter (.ref it)) Q E s
abbrev TI := St → Hp → (It → Hp → Prop) → Prop
def PIE (X : Cx) (pins : List (Addr × Obj)) (σ : St) (tg : Expr) (R : It → Hp → Prop) (itv : Value) (s2 : Shared) : Prop :=
 ∃ (it : Addr) (fp : List Addr) (tn : Nat → Heap → Prop) (J : It) (H' : Hp), itv = .ref it ∧ Inv X pins σ H' s2 ∧ Turn X.prog X.w X.K tg J fp it tn ∧ tn 0 s2.heap ∧ (∀ b ∈ fp, FpOk X pins H' b) ∧ R J H'
def PI (X : Cx) (tg iter : Expr) (wi : TI) : Prop :=
 ∀ (pins : List (Addr × Obj)) (s : Shared) (σ : St) (H : Hp) (R : It → Hp → Prop), Inv X pins σ H s → wi σ H R →
  wpAny (model X.prog X.w) X.A (eval iter X.env) (fun v s1 => wpAny (model X.prog X.w) X.A (pyIter v) (PIE X pins σ tg R) X.xe s1) X.xe s
theorem go_of {M : Model} {A : Around} {E : Value → Shared → Prop} {s : Shared} {tg : Expr} {it : Addr} {u : Value} {o : Obj} {n : String} {vs : Array Value} {Q : Unit → Shared → Prop} (ho : s.heap.get? it = some o) (hc : o.cls = .type n) (hd : o.data = .fields vs)
 (hn : ["enumerate", "zip", "dict_itemiterator", "dict_reverseitemiterator", "odict_iterator", "itertools.zip_longest", "itertools.pairwise"].contains n = false) (hQ : Q () s) : wpAny M A (letOwnedTupleGo tg (.ref it) u) Q E s := by
 unfold letOwnedTupleGo
 cases tg <;> first
  | exact wpAny_pure hQ
  | (cases u <;> first
   | exact wpAny_pure hQ
   | (refine wpAny_bind (wpAny_load ho ?_)
      rw [hc, hd]
      show wpAny M A (if (["enumerate", "zip", "dict_itemiterator", "dict_reverseitemiterator", "odict_iterator", "itertools.zip_longest", "itertools.pairwise"].contains n && vs[0]? == some (rawInt _)) = true then _ else _) Q E s
      rw [if_neg (by intro h; rw [hn, Bool.false_and] at h; cases h)]
      exact wpAny_pure hQ))
def Itl (K : PySem.W.Frag) (a : Addr) : It :=
 ⟨fun i H => ∃ xs x, SqL K H a xs ∧ xs[i]? = some x, fun i H x H' => H' = H ∧ ∀ xs, SqL K H a xs → xs[i]? = some x, fun i H => ∃ xs, SqL K H a xs ∧ xs.length ≤ i⟩
def Itt (K : PySem.W.Frag) (a : Addr) : It :=
 ⟨fun i H => ∃ xs x, SqT K H a xs ∧ xs[i]? = some x, fun i H x H' => H' = H ∧ ∀ xs, SqT K H a xs → xs[i]? = some x, fun i H => ∃ xs, SqT K H a xs ∧ xs.length ≤ i⟩
def Itr (lo : Int) (n : Nat) : It := ⟨fun i _ => i < n, fun i H x H' => H' = H ∧ x = .int (lo + i), fun i _ => n ≤ i⟩
theorem turn_list {P : Program} {w : World} {K : PySem.W.Frag} {tg : Expr} (a it : Addr) : Turn P w K tg (Itl K a) [it] it (fun i h => h.IsListIter it a i) where
 mem := by simp
 obj := fun i h st b hb => by
  have e : b = it := by simpa using hb
  subst e
  obtain ⟨o, e, c, d⟩ := st
  exact ⟨o, e, fun v z => by rw [d] at z; cases z⟩
 keep := fun i h h' st k => st.at fun o e => k it (by simp) o e
 item := by
  walk_at "z7"
  subst hP hw hK
  obtain ⟨xs, x, hq, hx⟩ := hg
  obtain ⟨its, rv, p, hz⟩ := I.list hq
  obtain ⟨u, hu, ru⟩ := rv.get hx
  walk_at "z39"
  refine wpAny_pyNext_list_item st p.isList (x := u) (by simpa using hu) fun h' st' sb => ?_
  have I1 : Inv X pins σ H { s with heap := h' } := I.turned (t' := s.toks) (fun b o hb e => (sb.2 b hb).trans e) f0 f1 f3 f4 f5
  obtain ⟨o, e, c, d⟩ := id st'
  exact ⟨u, rfl, go_of (s := { s with heap := h' }) e c d (by decide) ⟨x, H, I1, ru, ⟨rfl, fun ys hy => by rw [I.list_inj hy hq]; exact hx⟩, st', fun b hb => (hf b hb).1⟩⟩
 done := by
  walk_at "z7"
  subst hP hw hK
  obtain ⟨xs, hq, hx⟩ := hg
  obtain ⟨its, rv, p, hz⟩ := I.list hq
  walk_at "z39"
  have hl := rv.length
  exact wpAny_pyNext_list_end (I.ok.hd hc) st p.isList (by simp; lia) fun h' eb => ⟨rfl, I.turned (t' := s.toks) (fun b o hb e => eb b o hb e) f0 f1 f3 f4 f5⟩
 self := fun _ _ _ _ _ st h => wpAny_pyIter_listiter st h
theorem turn_tuple {P : Program} {w : World} {K : PySem.W.Frag} {tg : Expr} (a it : Addr) : Turn P w K tg (Itt K a) [it] it (fun i h => h.IsTupleIter it a i) where
 mem := by simp
 obj := fun i h st b hb => by
  have e : b = it := by simpa using hb
  subst e
  obtain ⟨o, e, c, d⟩ := st
  exact ⟨o, e, fun v z => by rw [d] at z; cases z⟩
 keep := fun i h h' st k => st.at fun o e => k it (by simp) o e
 item := by
  walk_at "z7"
  subst hP hw hK
  obtain ⟨xs, x, hq, hx⟩ := hg
  obtain ⟨its, rv, p, hz⟩ := I.tuple hq
  obtain ⟨u, hu, ru⟩ := rv.get hx
  walk_at "z39"
  refine wpAny_pyNext_tuple_item st (show s.heap.IsTuple a its.toArray from p) (x := u) (by simpa using hu) fun h' st' sb => ?_
  have I1 : Inv X pins σ H { s with heap := h' } := I.turned (t' := s.toks) (fun b o hb e => (sb.2 b hb).trans e) f0 f1 f3 f4 f5
  obtain ⟨o, e, c, d⟩ := id st'
  exact ⟨u, rfl, go_of (s := { s with heap := h' }) e c d (by decide) ⟨x, H, I1, ru, ⟨rfl, fun ys hy => by rw [I.tuple_inj hy hq]; exact hx⟩, st', fun b hb => (hf b hb).1⟩⟩
 done := by
  walk_at "z7"
  subst hP hw hK
  obtain ⟨xs, hq, hx⟩ := hg
  obtain ⟨its, rv, p, hz⟩ := I.tuple hq
  walk_at "z39"
  have hl := rv.length
  exact wpAny_pyNext_tuple_end (I.ok.hd hc) st (show s.heap.IsTuple a its.toArray from p) (by simp; lia) fun h' eb => ⟨rfl, I.turned (t' := s.toks) (fun b o hb e => eb b o hb e) f0 f1 f3 f4 f5⟩
 self := fun _ _ _ _ _ st h => wpAny_pyIter_tupleiter st h
theorem turn_range {P : Program} {w : World} {K : PySem.W.Frag} {tg : Expr} (it : Addr) (lo : Int) (n : Nat) : Turn P w K tg (Itr lo n) [it] it (fun i h => IsRangeIter h it (lo + (i : Nat) * 1) ((n : Int) - (i : Nat)) 1) where
 mem := by simp
 obj := fun i h st b hb => by
  have e : b = it := by simpa using hb
  subst e
  exact ⟨_, st, fun v z => by
   have z' : Data.fields _ = Data.cell v := z
   cases z'⟩
 keep := fun i h h' st k => k it (by simp) _ st
 item := by
  walk_at "z7"
  subst hP hw hK
  walk_at "z39"
  have W := Walks.range (prog := X.prog) (w := X.w) (I.ok.hd hc) it lo 1 n
  refine W.item i s _ _ hg st fun v h' tk hv st' kk => ?_
  obtain ⟨t, rfl⟩ := hv
  have I1 : Inv X pins σ H { s with heap := h', toks := tk } := I.turned (fun b o hb e => kk b o (by simpa using hb) e) f0 f1 f3 f4 f5
  refine ⟨_, rfl, go_of (s := { s with heap := h', toks := tk }) (n := "range_iterator") st' rfl rfl (by decide) ⟨.int (lo + i), H, I1, ⟨t, ?_⟩, ⟨rfl, rfl⟩, st', fun b hb => (hf b hb).1⟩⟩
  rw [Int.mul_one]
 done := by
  walk_at "z7"
  subst hP hw hK
  walk_at "z39"
  exact wpAny_pyNext_range_end (I.ok.hd hc) st (by have : n ≤ i := hg; lia) fun h' eb => ⟨rfl, I.turned (t' := s.toks) (fun b o hb e => eb b o hb e) f0 f1 f3 f4 f5⟩
 self := fun _ _ _ _ _ st h => wpAny_pyIter_rangeiter st h
end L2
namespace L2
open PySem PySem.Spec PyProof.Rows
section
variable {X : Cx} {tg : Expr}
def iList (K : PySem.W.Frag) (tl : TE) : TI := fun σ H R => tl σ H fun x H1 => ∃ a, x = .ref a ∧ (∃ xs, SqL K H1 a xs) ∧ R (Itl K a) H1
def iTup (K : PySem.W.Frag) (tl : TE) : TI := fun σ H R => tl σ H fun x H1 => ∃ a, x = .ref a ∧ (∃ xs, SqT K H1 a xs) ∧ R (Itt K a) H1
theorem pi_list {l : Expr} {tl : TE} (hl : PE X l tl) : PI X tg l (iList X.K tl) := by
 intro pins s σ H R I h
 refine thn (hl pins s σ H _ I h) fun v s1 ⟨x, H1, I1, r1, q1⟩ => ?_
 obtain ⟨a, e, ⟨xs, hq⟩, q⟩ := q1
 subst e
 cases r1
 obtain ⟨its, rv, p, hz⟩ := I1.list hq
 refine wpAny_pyIter_list p.isList ?_
 refine ⟨s1.heap.objs.size, [s1.heap.objs.size], _, _, H1, rfl, I1.kept (t' := s1.toks) fun b o e => Heap.get?_push_of_some _ e, turn_list a _, ⟨_, Heap.get?_push_size _ rfl, rfl, rfl⟩, fun b hb => ?_, q⟩
 have e : b = s1.heap.objs.size := by simpa using hb
 subst e
 exact I1.fpOk (Nat.le_refl _) (I1.hok.fresh (Nat.le_refl _))
theorem pi_tup {l : Expr} {tl : TE} (hl : PE X l tl) : PI X tg l (iTup X.K tl) := by
 intro pins s σ H R I h
 refine thn (hl pins s σ H _ I h) fun v s1 ⟨x, H1, I1, r1, q1⟩ => ?_
 obtain ⟨a, e, ⟨xs, hq⟩, q⟩ := q1
 subst e
 cases r1
 obtain ⟨its, rv, p, hz⟩ := I1.tuple hq
 refine wpAny_pyIter_tuple (show s1.heap.IsTuple a its.toArray from p) ?_
 refine ⟨s1.heap.objs.size, [s1.heap.objs.size], _, _, H1, rfl, I1.kept (t' := s1.toks) fun b o e => Heap.get?_push_of_some _ e, turn_tuple a _, ⟨_, Heap.get?_push_size _ rfl, rfl, rfl⟩, fun b hb => ?_, q⟩
 have e : b = s1.heap.objs.size := by simpa using hb
 subst e
 exact I1.fpOk (Nat.le_refl _) (I1.hok.fresh (Nat.le_refl _))
theorem range_it {pins : List (Addr × Obj)} {σ : St} {H : Hp} {s : Shared} {R : It → Hp → Prop} {E : Value → Shared → Prop} {lo hi : Int} {t u v : Tok} {tk : Nat} (I : Inv X pins σ H s) (h1 : -(2 ^ 62) ≤ lo) (h2 : lo < 2 ^ 62) (h3 : -(2 ^ 62) ≤ hi) (h4 : hi < 2 ^ 62)
 (q : R (Itr lo (hi - lo).toNat) H) : wpAny (model X.prog X.w) X.A (pyIter (.ref s.heap.objs.size)) (PIE X pins σ tg R) E { s with heap := s.heap.push { cls := .type "range", data := .fields #[.int lo t, .int hi u, .int 1 v] }, toks := tk } := by
 refine wpAny_pyIter_range (IsRange.new ..) (small_one h1 h2 h3 h4) ?_
 have I1 : Inv X pins σ H { s with heap := s.heap.push { cls := .type "range", data := .fields #[.int lo t, .int hi u, .int 1 v] }, toks := tk } := I.kept fun b o e => Heap.get?_push_of_some _ e
 refine ⟨(s.heap.push { cls := .type "range", data := .fields #[.int lo t, .int hi u, .int 1 v] }).objs.size, [(s.heap.push { cls := .type "range", data := .fields #[.int lo t, .int hi u, .int 1 v] }).objs.size], _, _, H, rfl,
  I1.kept (t' := tk) fun b o e => Heap.get?_push_of_some _ e, turn_range _ lo (hi - lo).toNat, ?_, fun b hb => ?_, q⟩
 ·have e1 : lo + ((0 : Nat) : Int) * 1 = lo := by simp
  have e2 : (((hi - lo).toNat : Nat) : Int) - ((0 : Nat) : Int) = Builtin.Range.rangeSize lo hi 1 := by rw [rangeSize_one]; split <;> lia
  show IsRangeIter _ _ (lo + ((0 : Nat) : Int) * 1) ((((hi - lo).toNat : Nat) : Int) - ((0 : Nat) : Int)) 1
  rw [e1, e2]
  exact Heap.get?_push_size _ rfl
 ·have e : b = (s.heap.push { cls := .type "range", data := .fields #[.int lo t, .int hi u, .int 1 v] }).objs.size := by simpa using hb
  subst e
  exact I1.fpOk (Nat.le_refl _) (I1.hok.fresh (Nat.le_refl _))
def iRng1 (ta : TA) : TI := fun σ H R => ta σ H fun vs H1 => ∃ j : Int, vs = [.int j] ∧ -(2 ^ 62) ≤ j ∧ j < 2 ^ 62 ∧ R (Itr 0 j.toNat) H1
def iRng2 (ta : TA) : TI := fun σ H R => ta σ H fun vs H1 => ∃ i j : Int, vs = [.int i, .int j] ∧ (-(2 ^ 62) ≤ i ∧ i < 2 ^ 62 ∧ -(2 ^ 62) ≤ j ∧ j < 2 ^ 62) ∧ R (Itr i (j - i).toNat) H1
theorem pi_range1 {a : Expr} {ta : TA} {p pos : Pos} (hg : Gl X "range") (hm : X.mg "range" = none) (ha : PA X [a] ta) (hs : starEach [a] X.env = [(false, eval a X.env)] := by rfl) : PI X tg (.Call (.Name "range" p) [a] [] pos) (iRng1 ta) := by
 intro pins s σ H R I h
 refine Call_ (ld_blt I hg hm boot_range (PyProof.Rows.callWith_type1 (thn (ha pos pins s σ H _ I h) fun us s1 ⟨vs, H1, I1, r1, q1⟩ => ?_) hs rfl))
 obtain ⟨j, e, q1, q2, q⟩ := q1
 subst e
 cases r1 with
 | cons r rr =>
   cases rr
   obtain ⟨t, rfl⟩ := r
   exact call_range_1 (range_it I1 (by lia) (by lia) q1 q2 (by simpa using q))
theorem pi_range2 {a b : Expr} {ta : TA} {p pos : Pos} (hg : Gl X "range") (hm : X.mg "range" = none) (ha : PA X [a, b] ta) (hs : starEach [a, b] X.env = [(false, eval a X.env), (false, eval b X.env)] := by rfl) (hs2 : starEach [b] X.env = [(false, eval b X.env)] := by rfl) :
 PI X tg (.Call (.Name "range" p) [a, b] [] pos) (iRng2 ta) := by
 intro pins s σ H R I h
 refine Call_ (ld_blt I hg hm boot_range (PyProof.Rows.callWith_type1 (thn (ha pos pins s σ H _ I h) fun us s1 ⟨vs, H1, I1, r1, q1⟩ => ?_) (by rw [hs, hs2]) (by rw [hs2]; rfl)))
 obtain ⟨i, j, e, ⟨q1, q2, q3, q4⟩, q⟩ := q1
 subst e
 cases r1 with
 | cons r rr =>
   cases rr with
   | cons r' rr =>
     cases rr
     obtain ⟨t, rfl⟩ := r
     obtain ⟨t', rfl⟩ := r'
     exact call_range_2 (range_it I1 q1 q2 q3 q4 q)
def tFor (wi : TI) (g : TG) (tb : TS) : TS := fun D σ H => wi σ H fun J H1 => ∃ W : Nat → Nat → St → Hp → Prop, (∃ m, W 0 m σ H1) ∧ ∀ i m σ H, W i m σ H →
 (J.stop i H ∧ D.nx σ H) ∨ (J.go i H ∧ ∃ N : St → Hp → Prop, (∀ σ' H', N σ' H' → ∃ m', m' < m ∧ W (i + 1) m' σ' H') ∧ ∀ x H', J.yld i H x H' → g x σ H' fun σ2 H2 => tb { D with nx := N, ct := N, bk := D.nx } σ2 H2)
def pinsAt (fp : List Addr) (h : Heap) : List (Addr × Obj) := fp.filterMap fun b => (h.get? b).map fun o => (b, o)
theorem mem_pinsAt {fp : List Addr} {h : Heap} {b : Addr} {o : Obj} (hb : b ∈ fp) (e : h.get? b = some o) : (b, o) ∈ pinsAt fp h := List.mem_filterMap.mpr ⟨b, hb, by rw [e]; rfl⟩
theorem of_pinsAt {fp : List Addr} {h : Heap} {p : Addr × Obj} (hp : p ∈ pinsAt fp h) : p.1 ∈ fp ∧ h.get? p.1 = some p.2 := by
 obtain ⟨b, hb, e⟩ := List.mem_filterMap.mp hp
 cases q : h.get? b with
 | none => rw [q] at e; cases e
 | some o =>
   rw [q] at e
   have e' : (b, o) = p := Option.some.inj e
   subst e'
   exact ⟨hb, q⟩
theorem Inv.pinned {pins : List (Addr × Obj)} {σ : St} {H : Hp} {s : Shared} {fp : List Addr} (I : Inv X pins σ H s) (hf : ∀ b ∈ fp, FpOk X pins H b) (ho : ∀ b ∈ fp, ∃ o, s.heap.get? b = some o ∧ ∀ v, o.data ≠ .cell v) : Inv X (pins ++ pinsAt fp s.heap) σ H s :=
 I.pins_of fun p hp => (List.mem_append.mp hp).elim (fun z => I.pin p (List.mem_append_right _ z)) fun z => by
  obtain ⟨hb, e⟩ := of_pinsAt z
  obtain ⟨f0, f1, f2, _⟩ := hf p.1 hb
  obtain ⟨o, e', d⟩ := ho p.1 hb
  rw [e] at e'; cases e'
  exact ⟨e, f0, f1, f2, d⟩
theorem Inv.unpinned {pins pl : List (Addr × Obj)} {σ : St} {H : Hp} {s : Shared} (I : Inv X (pins ++ pl) σ H s) : Inv X pins σ H s := I.pins_of fun p hp => I.pin p (List.mem_append_right _ (List.mem_append_left _ hp))
theorem ps_for {iter : Expr} {body : List Stmt} {wi : TI} {g : TG} {tb : TS} {pos : Pos} (hp : PassesOwn (model X.prog X.w) X.A X.env X.xe) (hc : X.calm = true) (hi : PI X tg iter wi) (hg : PG X tg g) (hb : PSs X body tb)
 (hs : ∀ x, foldedSetIterable iter X.env x = pure x := by intro _; rfl) : PS X (.For tg iter body [] pos) (tFor wi g tb) := by
 intro pins s σ H D I h
 refine wpAny_For (thn (hi pins s σ H _ I h) fun v s1 h1 => thn h1 fun itv s2 h2 => ?_) hs
 obtain ⟨it, fp, tn, J, H2, e, I2, T, st2, f2, W, ⟨m0, w0⟩, turn⟩ := h2
 subst e
 have stat : ∀ {H' : Hp}, (∀ b ∈ fp, H' b = none) → ∀ b ∈ fp, FpOk X pins H' b := fun hn b hb => ⟨hn b hb, (f2 b hb).2⟩
 refine codeAny_forLoop_any (fun n s' => ∃ i σ' H', Inv X pins σ' H' s' ∧ tn i s'.heap ∧ (∀ b ∈ fp, H' b = none) ∧ W i n σ' H') ?_ m0 ⟨0, σ, H2, I2, st2, fun b hb => (f2 b hb).1, w0⟩
 rintro n s3 ⟨i, σ3, H3, I3, st3, fr3, w3⟩
 rcases turn i n σ3 H3 w3 with ⟨stop, qn⟩ | ⟨go, N, hN, step⟩
 ·refine wpAny_passesOwn hp (thn (T.done X rfl rfl rfl hc i pins s3 σ3 H3 X.xe I3 (stat fr3) st3 stop) fun r s4 ⟨hr, I4⟩ => ?_)
  subst hr
  exact wpAny_execs_nil ⟨σ3, H3, I4, qn⟩
 ·refine wpAny_passesOwn hp (thn (T.item X rfl rfl rfl hc i pins s3 σ3 H3 X.xe I3 (stat fr3) st3 go) fun r s4 ⟨u, hr, h4⟩ => ?_)
  subst hr
  refine wpAny_passesOwn hp (thn h4 fun _ s5 ⟨x, H5, I5, r5, y5, st5, fr5⟩ => ?_)
  have I5' := I5.pinned (stat fr5) (T.obj _ _ st5)
  refine wpAny_passesOwn hp (thn (hg _ s5 σ3 H5 x u _ I5' r5 (step x H5 y5)) fun _ s6 ⟨σ6, H6, I6, q6⟩ => ?_)
  refine wpAny_passesOwn hp (thn (hb _ s6 σ6 H6 _ I6 q6) fun f s7 q7 => ?_)
  have again : ∀ {σ7 : St} {H7 : Hp}, Inv X (pins ++ pinsAt fp s5.heap) σ7 H7 s7 → N σ7 H7 → ∃ m, m < n ∧ ∃ i σ' H', Inv X pins σ' H' s7 ∧ tn i s7.heap ∧ (∀ b ∈ fp, H' b = none) ∧ W i m σ' H' := fun {σ7 H7} I7 n7 => by
   obtain ⟨m', hm, w7⟩ := hN σ7 H7 n7
   refine ⟨m', hm, i + 1, σ7, H7, I7.unpinned, T.keep _ _ _ st5 fun b hb o e => (I7.pin (b, o) (List.mem_append_right _ (List.mem_append_right _ (mem_pinsAt hb e)))).1, fun b hb => ?_, w7⟩
   obtain ⟨o, e, d⟩ := T.obj _ _ st5 b hb
   exact (I7.pin (b, o) (List.mem_append_right _ (List.mem_append_right _ (mem_pinsAt hb e)))).2.1
  cases f with
  | next => obtain ⟨σ7, H7, I7, n7⟩ := q7; exact again I7 n7
  | cont => obtain ⟨σ7, H7, I7, n7⟩ := q7; exact again I7 n7
  | brk => obtain ⟨σ7, H7, I7, q7⟩ := q7; exact ⟨σ7, H7, I7.unpinned, q7⟩
  | ret v => obtain ⟨x7, σ7, H7, I7, r7, q7⟩ := q7; exact ⟨x7, σ7, H7, I7.unpinned, r7, q7⟩
end
theorem for_list {K : PySem.W.Frag} {a : Addr} {xs : List V} {g : TG} {tb : TS} {D : Ends} {σ : St} {H : Hp} (Pv : Nat → St → Hp → Prop) (h0 : Pv 0 σ H) (hl : ∀ i σ H, i ≤ xs.length → Pv i σ H → SqL K H a xs)
 (hs : ∀ i x σ H, xs[i]? = some x → Pv i σ H → g x σ H fun σ2 H2 => tb { D with nx := Pv (i + 1), ct := Pv (i + 1), bk := D.nx } σ2 H2) (hd : ∀ σ H, Pv xs.length σ H → D.nx σ H) :
 ∃ W : Nat → Nat → St → Hp → Prop, (∃ m, W 0 m σ H) ∧ ∀ i m σ H, W i m σ H →
  ((Itl K a).stop i H ∧ D.nx σ H) ∨ ((Itl K a).go i H ∧ ∃ N : St → Hp → Prop, (∀ σ' H', N σ' H' → ∃ m', m' < m ∧ W (i + 1) m' σ' H') ∧ ∀ x H', (Itl K a).yld i H x H' → g x σ H' fun σ2 H2 => tb { D with nx := N, ct := N, bk := D.nx } σ2 H2) := by
 refine ⟨fun i m σ H => m = xs.length - i ∧ i ≤ xs.length ∧ Pv i σ H, ⟨xs.length, by simp, Nat.zero_le _, h0⟩, ?_⟩
 rintro i m σ H ⟨rfl, hi, p⟩
 have q := hl i σ H hi p
 by_cases hlt : i < xs.length
 ·refine .inr ⟨⟨xs, xs[i], q, by simp [hlt]⟩, Pv (i + 1), fun σ' H' p' => ⟨xs.length - (i + 1), by lia, rfl, hlt, p'⟩, fun x H' y => ?_⟩
  obtain ⟨e, y⟩ := y
  subst e
  exact hs i x σ _ (y xs q) p
 ·have e : i = xs.length := by lia
  subst e
  exact .inl ⟨⟨xs, q, Nat.le_refl _⟩, hd σ H p⟩
theorem for_range {lo : Int} {n : Nat} {g : TG} {tb : TS} {D : Ends} {σ : St} {H : Hp} (Pv : Nat → St → Hp → Prop) (h0 : Pv 0 σ H)
 (hs : ∀ i σ H, i < n → Pv i σ H → g (.int (lo + i)) σ H fun σ2 H2 => tb { D with nx := Pv (i + 1), ct := Pv (i + 1), bk := D.nx } σ2 H2) (hd : ∀ σ H, Pv n σ H → D.nx σ H) :
 ∃ W : Nat → Nat → St → Hp → Prop, (∃ m, W 0 m σ H) ∧ ∀ i m σ H, W i m σ H →
  ((Itr lo n).stop i H ∧ D.nx σ H) ∨ ((Itr lo n).go i H ∧ ∃ N : St → Hp → Prop, (∀ σ' H', N σ' H' → ∃ m', m' < m ∧ W (i + 1) m' σ' H') ∧ ∀ x H', (Itr lo n).yld i H x H' → g x σ H' fun σ2 H2 => tb { D with nx := N, ct := N, bk := D.nx } σ2 H2) := by
 refine ⟨fun i m σ H => m = n - i ∧ i ≤ n ∧ Pv i σ H, ⟨n, by simp, Nat.zero_le _, h0⟩, ?_⟩
 rintro i m σ H ⟨rfl, hi, p⟩
 by_cases hlt : i < n
 ·refine .inr ⟨hlt, Pv (i + 1), fun σ' H' p' => ⟨n - (i + 1), by lia, rfl, hlt, p'⟩, fun x H' y => ?_⟩
  obtain ⟨e, y⟩ := y
  subst e y
  exact hs i σ _ hlt p
 ·have e : i = n := by lia
  subst e
  exact .inl ⟨Nat.le_refl _, hd σ H p⟩
end L2
namespace L2
open PySem PySem.Spec PyProof.Rows
abbrev R2 := V → V → Hp → VK → Prop
def OpR (X : Cx) (f : Value → Value → Sem Value) (r : R2) : Prop :=
 ∀ (pins : List (Addr × Obj)) (s : Shared) (σ : St) (H : Hp) (x y : V) (v u : Value) (Q : VK), Inv X pins σ H s → RelV x v → RelV y u → r x y H Q →
  wpAny (model X.prog X.w) X.A (f v u) (EP X pins σ Q) X.xe s
def CallR (X : Cx) (f : Value) (r : List V → Hp → VK → Prop) : Prop :=
 ∀ (pins : List (Addr × Obj)) (s : Shared) (σ : St) (H : Hp) (xs : List V) (us : List Value) (Q : VK), Inv X pins σ H s → Vals xs us → r xs H Q →
  wpAny (model X.prog X.w) X.A (call f us) (EP X pins σ Q) X.xe s
def TruR (X : Cx) (r : V → Hp → (Bool → Hp → Prop) → Prop) : Prop :=
 ∀ (pins : List (Addr × Obj)) (s : Shared) (σ : St) (H : Hp) (x : V) (v : Value) (Q : Bool → Hp → Prop), Inv X pins σ H s → RelV x v → r x H Q →
  wpAny (model X.prog X.w) X.A (truthy v) (TP X pins σ Q) X.xe s
def tOp (r : R2) (ta tb : TE) : TE := fun σ H Q => ta σ H fun x H1 => tb σ H1 fun y H2 => r x y H2 Q
def tUn (r : V → Hp → VK → Prop) (ta : TE) : TE := fun σ H Q => ta σ H fun x H1 => r x H1 Q
def rI (C : Int → Int → Prop) (g : Int → Int → V) : R2 := fun x y H Q => ∃ i j, x = .int i ∧ y = .int j ∧ C i j ∧ Q (g i j) H
def rI0 (g : Int → Int → V) : R2 := fun x y H Q => ∃ i j, x = .int i ∧ y = .int j ∧ Q (g i j) H
def rU (g : Int → V) : V → Hp → VK → Prop := fun x H Q => ∃ i, x = .int i ∧ Q (g i) H
section
variable {X : Cx} {a b c : Expr} {ta tb tc : TE} {pos : Pos}
theorem binT (ha : PE X a ta) (hb : PE X b tb) {pins : List (Addr × Obj)} {s : Shared} {σ : St} {H : Hp} {R : V → V → Hp → Prop} (I : Inv X pins σ H s)
 (h : ta σ H fun x H1 => tb σ H1 fun y H2 => R x y H2) {Q : Value → Shared → Prop} {f : Value → Value → Sem Value}
 (hf : ∀ v u s2 x y H2, Inv X pins σ H2 s2 → RelV x v → RelV y u → R x y H2 → wpAny (model X.prog X.w) X.A (f v u) Q X.xe s2) :
 wpAny (model X.prog X.w) X.A (eval a X.env) (fun v s₁ => wpAny (model X.prog X.w) X.A (eval b X.env) (fun u s₂ => wpAny (model X.prog X.w) X.A (f v u) Q X.xe s₂) X.xe s₁) X.xe s := by
 refine thn (ha pins s σ H _ I h) fun v s1 ⟨x, H1, I1, r1, q1⟩ => ?_
 refine thn (hb pins s1 σ H1 _ I1 q1) fun u s2 ⟨y, H2, I2, r2, q2⟩ => ?_
 exact hf v u s2 x y H2 I2 r1 r2 q2
theorem pe_op {op : Operator} {r : R2} (ho : OpR X (binaryOp op) r) (ha : PE X a ta) (hb : PE X b tb) : PE X (.BinOp a op b pos) (tOp r ta tb) := by
 walk_at "z9"
 exact wpAny_BinOp (binT ha hb I h fun v u s2 x y H2 I2 rx ry q => ho pins s2 σ H2 x y v u Q I2 rx ry q)
theorem opI {f : Value → Value → Sem Value} {C : Int → Int → Prop} {g : Int → Int → Int}
 (rule : ∀ (i j : Int) (t u : Tok) (s : Shared) (Q : Value → Shared → Prop) (E : Value → Shared → Prop), C i j → Q (.int (g i j) s.toks) { s with toks := s.toks + 1 } → wpAny (model X.prog X.w) X.A (f (.int i t) (.int j u)) Q E s) :
 OpR X f (rI C fun i j => .int (g i j)) := by
 intro pins s σ H x y v u Q I rx ry h
 obtain ⟨i, j, rfl, rfl, hc, q⟩ := h
 obtain ⟨t, rfl⟩ := rx
 obtain ⟨t', rfl⟩ := ry
 exact rule i j t t' s _ _ hc ⟨.int (g i j), H, I.tok _, ⟨_, rfl⟩, q⟩
theorem opI0 {f : Value → Value → Sem Value} {g : Int → Int → Int}
 (rule : ∀ (i j : Int) (t u : Tok) (s : Shared) (Q : Value → Shared → Prop) (E : Value → Shared → Prop), Q (.int (g i j) s.toks) { s with toks := s.toks + 1 } → wpAny (model X.prog X.w) X.A (f (.int i t) (.int j u)) Q E s) :
 OpR X f (rI0 fun i j => .int (g i j)) := by
 intro pins s σ H x y v u Q I rx ry h
 obtain ⟨i, j, rfl, rfl, q⟩ := h
 obtain ⟨t, rfl⟩ := rx
 obtain ⟨t', rfl⟩ := ry
 exact rule i j t t' s _ _ ⟨.int (g i j), H, I.tok _, ⟨_, rfl⟩, q⟩
theorem opB0 {f : Value → Value → Sem Value} {g : Int → Int → Bool}
 (rule : ∀ (i j : Int) (t u : Tok) (s : Shared) (Q : Value → Shared → Prop) (E : Value → Shared → Prop), Q (.bool (g i j)) s → wpAny (model X.prog X.w) X.A (f (.int i t) (.int j u)) Q E s) :
 OpR X f (rI0 fun i j => .bl (g i j)) := by
 intro pins s σ H x y v u Q I rx ry h
 obtain ⟨i, j, rfl, rfl, q⟩ := h
 obtain ⟨t, rfl⟩ := rx
 obtain ⟨t', rfl⟩ := ry
 exact rule i j t t' s _ _ ⟨.bl (g i j), H, I, rfl, q⟩
def CDiv (i j : Int) : Prop := 0 < j ∧ j < 1073741824
def CPow (i j : Int) : Prop := 0 ≤ j ∧ j ≤ 1000000 ∧ i.natAbs < 2 ^ 64
def CMul (i j : Int) : Prop := (-(2 ^ 64) < i ∧ i < 2 ^ 64) ∨ (-(2 ^ 64) < j ∧ j < 2 ^ 64)
theorem CMul.ok {i j : Int} (h : CMul i j) : IntMulOk i j := by
 rcases h with ⟨h1, h2⟩ | ⟨h1, h2⟩
 ·exact .of_left (intBits_le_64 h1 h2)
 ·exact .of_right (intBits_le_64 h1 h2)
theorem op_add : OpR X (binaryOp .Add) (rI0 fun i j => .int (i + j)) := opI0 fun _ _ _ _ _ _ _ q => add_int q
theorem op_sub : OpR X (binaryOp .Sub) (rI0 fun i j => .int (i - j)) := opI0 fun _ _ _ _ _ _ _ q => sub_int q
theorem op_mul : OpR X (binaryOp .Mult) (rI CMul fun i j => .int (i * j)) := opI fun _ _ _ _ _ _ _ hc q => mul_int q hc.ok
theorem op_fdiv : OpR X (binaryOp .FloorDiv) (rI CDiv fun i j => .int (i / j)) := opI fun i j _ _ _ _ _ hc q => by
 have h1 : (0 : Int) < j := hc.1
 have h2 : j < 1073741824 := hc.2
 exact floordiv_int (by lia) (by rw [Int.fdiv_eq_ediv_of_nonneg i (by lia)]; exact q) (.inl (PyProof.noPylong_small (by lia)))
theorem op_mod : OpR X (binaryOp .Mod) (rI (fun _ j => 0 < j) fun i j => .int (i % j)) := opI fun i j _ _ _ _ _ hc q => by
 have h1 : (0 : Int) < j := hc
 exact mod_int' (by lia) (by rw [Int.fmod_eq_emod_of_nonneg i (by lia)]; exact q)
theorem op_pow : OpR X (binaryOp .Pow) (rI CPow fun i j => .int (i ^ j.toNat)) := opI fun _ _ _ _ _ _ _ hc q => pow_int_small hc.1 hc.2.1 hc.2.2 q
end
section
variable {X : Cx} {a b c : Expr} {ta tb tc : TE} {pos : Pos}
theorem fin_bl {pins : List (Addr × Obj)} {σ : St} {H : Hp} {s : Shared} {Q : VK} {k k' : Bool} (I : Inv X pins σ H s) (q : Q (.bl k) H) (e : k = k') : EP X pins σ Q (.bool k') s := by
 subst e
 exact ⟨.bl k, H, I, rfl, q⟩
theorem op_lt : OpR X (compareOp .Lt) (rI0 fun i j => .bl (decide (i < j))) := opB0 fun _ _ _ _ _ _ _ q => lt_int q
theorem op_le : OpR X (compareOp .LtE) (rI0 fun i j => .bl (decide (i ≤ j))) := opB0 fun _ _ _ _ _ _ _ q => le_int q
theorem op_gt : OpR X (compareOp .Gt) (rI0 fun i j => .bl (decide (j < i))) := opB0 fun _ _ _ _ _ _ _ q => gt_int q
theorem op_ge : OpR X (compareOp .GtE) (rI0 fun i j => .bl (decide (j ≤ i))) := opB0 fun _ _ _ _ _ _ _ q => ge_int q
theorem op_isN : OpR X (compareOp .Is) (fun x y H Q => y = .non ∧ Q (.bl (decide (x = .non))) H) := by
 intro pins s σ H x y v u Q I rx ry h
 obtain ⟨rfl, q⟩ := h
 cases ry
 refine is_none_gen (fin_bl I q ?_)
 cases x <;> first
  | (cases rx; rfl)
  | (obtain ⟨t, rfl⟩ := rx; rfl)
theorem OpR.or {f : Value → Value → Sem Value} {r r' : R2} (h : OpR X f r) (h' : OpR X f r') : OpR X f (fun x y H Q => r x y H Q ∨ r' x y H Q) := by
 intro pins s σ H x y v u Q I rx ry q
 rcases q with q | q
 ·exact h pins s σ H x y v u Q I rx ry q
 ·exact h' pins s σ H x y v u Q I rx ry q
theorem nomark (b : Expr) {op : CmpOp} (h : op ≠ .In := by decide) (h2 : op ≠ .NotIn := by decide) : behindInMarks op b = false := by
 have e1 : (op == CmpOp.In) = false := by cases op <;> first | rfl | exact absurd rfl h
 have e2 : (op == CmpOp.NotIn) = false := by cases op <;> first | rfl | exact absurd rfl h2
 cases b <;> simp [behindInMarks, e1, e2]
theorem pe_cmpR {op : CmpOp} {r : R2} (ho : OpR X (compareOp op) r) (ha : PE X a ta) (hb : PE X b tb) (hm : behindInMarks op b = false) : PE X (.Compare a [op] [b] pos) (tOp r ta tb) := by
 walk_at "z9"
 exact wpAny_Compare1 (binT ha hb I h fun v u s2 x y H2 I2 rx ry q => ho pins s2 σ H2 x y v u Q I2 rx ry q) hm
def tTest (t : TE) : TT := fun σ H Q => t σ H fun x H' => ∃ k, x = .bl k ∧ Q k H'
theorem pt_cmpR {op : CmpOp} {r : R2} (ho : OpR X (compareOp op) r) (ha : PE X a ta) (hb : PE X b tb) (hm : behindInMarks op b = false) : PT X (.Compare a [op] [b] pos) (tTest (tOp r ta tb)) := by
 walk_at "z9"
 refine wpAny_isTrue_Compare1 (thn (ha pins s σ H _ I h) fun v s1 ⟨x, H1, I1, r1, q1⟩ => thn (hb pins s1 σ H1 _ I1 q1) fun u s2 ⟨y, H2, I2, r2, q2⟩ =>
  thn (ho pins s2 σ H2 x y v u _ I2 r1 r2 q2) fun c s3 ⟨z, H3, I3, r3, k, e, q3⟩ => ?_) hm
 subst e
 cases r3
 exact wpAny_truthy_bool ⟨H3, I3, q3⟩
def tChain (r r' : R2) (ta tb tc : TE) : TE := fun σ H Q => ta σ H fun x H1 => tb σ H1 fun y H2 => r x y H2 fun z H3 => ∃ k, z = .bl k ∧
 (if k = true then tc σ H3 fun w' H4 => r' y w' H4 Q else Q (.bl false) H3)
theorem pe_chain {op op' : CmpOp} {r r' : R2} (ho : OpR X (compareOp op) r) (ho' : OpR X (compareOp op') r') (ha : PE X a ta) (hb : PE X b tb) (hc : PE X c tc)
 (hm : lastMarks [op, op'] [b, c] = false := by with_unfolding_all rfl) : PE X (.Compare a [op, op'] [b, c] pos) (tChain r r' ta tb tc) := by
 walk_at "z9"
 refine Compare_chain (thn (ha pins s σ H _ I h) fun v s1 ⟨x, H1, I1, r1, q1⟩ => chain_link (thn (hb pins s1 σ H1 _ I1 q1) fun u s2 ⟨y, H2, I2, r2, q2⟩ =>
  thn (ho pins s2 σ H2 x y v u _ I2 r1 r2 q2) fun d s3 ⟨z, H3, I3, r3, k, e, q3⟩ => ?_)) hm
 subst e
 cases r3
 refine wpAny_truthy_bool ?_
 cases k with
 | false => exact ite_ff ⟨.bl false, H3, I3, rfl, q3⟩
 | true => exact ite_tt (chain_last (thn (hc pins s3 σ H3 _ I3 q3) fun w' s4 ⟨z', H4, I4, r4, q4⟩ => ho' pins s4 σ H4 y z' u w' Q I4 r2 r4 q4))
theorem pt_chain {op op' : CmpOp} {r r' : R2} (ho : OpR X (compareOp op) r) (ho' : OpR X (compareOp op') r') (ha : PE X a ta) (hb : PE X b tb) (hc : PE X c tc)
 (hm : lastMarks [op, op'] [b, c] = false := by with_unfolding_all rfl) : PT X (.Compare a [op, op'] [b, c] pos) (tTest (tChain r r' ta tb tc)) := by
 walk_at "z9"
 refine isTrue_chain (thn (ha pins s σ H _ I h) fun v s1 ⟨x, H1, I1, r1, q1⟩ => test_link (thn (hb pins s1 σ H1 _ I1 q1) fun u s2 ⟨y, H2, I2, r2, q2⟩ =>
  thn (ho pins s2 σ H2 x y v u _ I2 r1 r2 q2) fun d s3 ⟨z, H3, I3, r3, k, e, q3⟩ => ?_)) hm
 subst e
 cases r3
 refine wpAny_truthy_bool ?_
 cases k with
 | false =>
   obtain ⟨k', e', q'⟩ := q3
   cases e'
   exact ite_ff ⟨H3, I3, q'⟩
 | true =>
   refine ite_tt (test_last (thn (hc pins s3 σ H3 _ I3 q3) fun w' s4 ⟨z', H4, I4, r4, q4⟩ => thn (ho' pins s4 σ H4 y z' u w' _ I4 r2 r4 q4) fun d' s5 ⟨z2, H5, I5, r5, k2, e2, q5⟩ => ?_))
   subst e2
   cases r5
   exact wpAny_truthy_bool ⟨H5, I5, q5⟩
def TruV (K : PySem.W.Frag) (x : V) (H : Hp) (k : Bool) : Prop :=
 match x with
 | .non => k = false
 | .bl b => k = b
 | .int i => k = (i != 0)
 | .str y => y.length ≤ sizeLine ∧ k = ((y.length : Int) != 0)
 | .byt y => y.size ≤ sizeLine ∧ k = ((y.size : Int) != 0)
 | .ref p => (∃ xs, SqL K H p xs ∧ k = !xs.isEmpty) ∨ (∃ xs, SqT K H p xs ∧ k = !xs.isEmpty) ∨ ∃ kvs, H p = some (.dK kvs) ∧ k = !kvs.isEmpty
 | _ => False
theorem isEmpty_kv {κ : Type} {kvs : List (κ × V)} {vs : List (κ × Value)} (r : KV kvs vs) : (!vs.isEmpty) = !kvs.isEmpty := by
 cases r <;> rfl
theorem isEmpty_of {xs : List V} {its : List Value} (r : Vals xs its) : (!its.toArray.isEmpty) = !xs.isEmpty := by
 cases r <;> simp
theorem line63 : (sizeLine : Nat) < 2 ^ 63 := by rw [sizeLine_eq]; decide
theorem tru_ok : TruR X (fun x H Q => ∃ k, TruV X.K x H k ∧ Q k H) := by
 intro pins s σ H x v Q I rx h
 obtain ⟨k, e, q⟩ := h
 have hl := line63
 have hs : sizeLine = 16777216 := sizeLine_eq
 cases x with
 | non =>
   cases rx
   have e' : k = false := e
   subst e'
   exact truthy_none ⟨H, I, q⟩
 | bl b =>
   cases rx
   have e' : k = b := e
   subst e'
   exact wpAny_truthy_bool ⟨H, I, q⟩
 | int i =>
   obtain ⟨t, rfl⟩ := rx
   have e' : k = (i != 0) := e
   subst e'
   exact PySem.P.truthy_int ⟨H, I, q⟩
 | str y =>
   obtain ⟨t, rfl⟩ := rx
   obtain ⟨hy, e'⟩ : y.length ≤ sizeLine ∧ k = ((y.length : Int) != 0) := e
   subst e'
   exact PySem.P.truthy_str (by lia) ⟨H, I.tok _, q⟩
 | byt y =>
   obtain ⟨t, rfl⟩ := rx
   obtain ⟨hy, e'⟩ : y.size ≤ sizeLine ∧ k = ((y.size : Int) != 0) := e
   subst e'
   exact PySem.W.truthy_bytes (by lia) ⟨H, I.tok _, q⟩
 | ref p =>
   cases rx
   have e' : (∃ xs, SqL X.K H p xs ∧ k = !xs.isEmpty) ∨ (∃ xs, SqT X.K H p xs ∧ k = !xs.isEmpty) ∨ ∃ kvs, H p = some (.dK kvs) ∧ k = !kvs.isEmpty := e
   rcases e' with ⟨xs, hx, e'⟩ | ⟨xs, hx, e'⟩ | ⟨kvs, hx, e'⟩
   ·subst e'
    obtain ⟨its, r, pl, hz⟩ := I.list hx
    have hlen := r.length
    exact wpAny_truthy_list pl.isList (by simp only [List.size_toArray]; lia) ⟨H, I.tok _, by rw [isEmpty_of r]; exact q⟩
   ·subst e'
    obtain ⟨its, r, pl, hz⟩ := I.tuple hx
    have hlen := r.length
    exact truthy_tuple pl (by simp only [List.size_toArray]; lia) ⟨H, I.tok _, by rw [isEmpty_of r]; exact q⟩
   ·subst e'
    obtain ⟨hz, hS, vs, r, m⟩ : kvs.length ≤ sizeLine ∧ (p == sysModules) = false ∧ ∃ vs, KV kvs vs ∧ s.heap.DictOf (mixKind X.prog X.w) p vs := I.hok p _ hx
    have hlen : kvs.length = vs.length := Paired.length r
    exact wpAny_truthy_dict hS m (by lia) ⟨H, I.tok _, by rw [isEmpty_kv r]; exact q⟩
 | _ => exact (show False from e).elim
theorem pt_truth (ha : PE X a ta) (he : ∀ whole, isTrue a X.env whole = (do let v ← whole; standAt a.pos; holding [v] (truthy v))) :
 PT X a (fun σ H Q => ta σ H fun x H' => ∃ k, TruV X.K x H' k ∧ Q k H') := by
 walk_at "z9"
 exact isTrue_plain (thn (ha pins s σ H _ I h) fun v s1 ⟨x, H1, I1, r1, q1⟩ => tru_ok pins s1 σ H1 x v Q I1 r1 q1) (he _)
theorem vals1 {x : V} {us : List Value} (r : Vals [x] us) : ∃ u, us = [u] ∧ RelV x u := by
 cases r with
 | cons r1 r2 => cases r2; exact ⟨_, rfl, r1⟩
theorem vals2 {x y : V} {us : List Value} (r : Vals [x, y] us) : ∃ u w', us = [u, w'] ∧ RelV x u ∧ RelV y w' := by
 cases r with
 | cons r1 r2 =>
   cases r2 with
   | cons r3 r4 => cases r4; exact ⟨_, _, rfl, r1, r3⟩
theorem call_abs : CallR X (.builtin "abs") (fun xs H Q => ∃ i, xs = [.int i] ∧ Q (.int (if i < 0 then -i else i)) H) := by
 walk_at "z25"
 obtain ⟨i, rfl, q⟩ := h
 obtain ⟨u, rfl, t, rfl⟩ := vals1 r
 exact call_abs_int fun u tk => ⟨.int (if i < 0 then -i else i), H, I.tok _, ⟨_, rfl⟩, q⟩
theorem call_max2 (hc : X.calm = true) : CallR X (.builtin "max") (fun xs H Q => ∃ i j, xs = [.int i, .int j] ∧ Q (.int (if j > i then j else i)) H) := by
 walk_at "z25"
 obtain ⟨i, j, rfl, q⟩ := h
 obtain ⟨u, w', rfl, ⟨t, rfl⟩, ⟨t', rfl⟩⟩ := vals2 r
 refine max_two_ints (I.ok.hd hc) fun h' tk k => ⟨_, H, I.kept k, ?_, q⟩
 by_cases hj : j > i
 ·rw [if_pos hj, if_pos hj]; exact ⟨_, rfl⟩
 ·rw [if_neg hj, if_neg hj]; exact ⟨_, rfl⟩
theorem call_min2 (hc : X.calm = true) : CallR X (.builtin "min") (fun xs H Q => ∃ i j, xs = [.int i, .int j] ∧ Q (.int (if j < i then j else i)) H) := by
 walk_at "z25"
 obtain ⟨i, j, rfl, q⟩ := h
 obtain ⟨u, w', rfl, ⟨t, rfl⟩, ⟨t', rfl⟩⟩ := vals2 r
 refine min_two_ints (I.ok.hd hc) fun h' tk k => ⟨_, H, I.kept k, ?_, q⟩
 by_cases hj : j < i
 ·rw [if_pos hj, if_pos hj]; exact ⟨_, rfl⟩
 ·rw [if_neg hj, if_neg hj]; exact ⟨_, rfl⟩
theorem call_int1 : CallR X (.type "int") (fun xs H Q => (∃ i, xs = [.int i] ∧ Q (.int i) H) ∨ ∃ k, xs = [.bl k] ∧ Q (.int (if k then 1 else 0)) H) := by
 walk_at "z25"
 rcases h with ⟨i, rfl, q⟩ | ⟨k, rfl, q⟩
 ·obtain ⟨u, rfl, t, rfl⟩ := vals1 r
  exact call_int_int ⟨.int i, H, I, ⟨_, rfl⟩, q⟩
 ·obtain ⟨u, rfl, r1⟩ := vals1 r
  cases r1
  exact call_int_bool ⟨.int (if k then 1 else 0), H, I.tok _, ⟨_, rfl⟩, q⟩
def LenV (K : PySem.W.Frag) (x : V) (H : Hp) (n : Nat) : Prop :=
 match x with
 | .str y => y.length ≤ sizeLine ∧ n = y.length
 | .byt y => y.size ≤ sizeLine ∧ n = y.size
 | .ref p => (∃ xs, SqL K H p xs ∧ n = xs.length) ∨ ∃ xs, SqT K H p xs ∧ n = xs.length
 | _ => False
theorem call_len : CallR X (.builtin "len") (fun xs H Q => ∃ x n, xs = [x] ∧ LenV X.K x H n ∧ Q (.int n) H) := by
 walk_at "z25"
 obtain ⟨x, n, rfl, e, q⟩ := h
 obtain ⟨u, rfl, rx⟩ := vals1 r
 have hl := line63
 have hs : sizeLine = 16777216 := sizeLine_eq
 cases x with
 | str y =>
   obtain ⟨t, rfl⟩ := rx
   obtain ⟨hy, e'⟩ : y.length ≤ sizeLine ∧ n = y.length := e
   subst e'
   exact len_str (by lia) ⟨.int _, H, I.tok _, ⟨_, rfl⟩, q⟩
 | byt y =>
   obtain ⟨t, rfl⟩ := rx
   obtain ⟨hy, e'⟩ : y.size ≤ sizeLine ∧ n = y.size := e
   subst e'
   exact PySem.W.len_bytes (by lia) ⟨.int _, H, I.tok _, ⟨_, rfl⟩, q⟩
 | ref p =>
   cases rx
   have e' : (∃ xs, SqL X.K H p xs ∧ n = xs.length) ∨ ∃ xs, SqT X.K H p xs ∧ n = xs.length := e
   rcases e' with ⟨xs, hx, e'⟩ | ⟨xs, hx, e'⟩
   ·subst e'
    obtain ⟨its, r', pl, hz⟩ := I.list hx
    have hlen := r'.length
    exact Calls.call_len_list pl.isList (by simp only [List.size_toArray]; lia) ⟨.int xs.length, H, I.tok _, ⟨_, by simp only [List.size_toArray]; rw [hlen]⟩, q⟩
   ·subst e'
    obtain ⟨its, r', pl, hz⟩ := I.tuple hx
    have hlen := r'.length
    exact len_tuple pl (by simp only [List.size_toArray]; lia) ⟨.int xs.length, H, I.tok _, ⟨_, by simp only [List.size_toArray]; rw [hlen]⟩, q⟩
 | _ => exact (show False from e).elim
end
end L2
namespace L2
open PySem PySem.Spec PyProof.Rows
structure ObjM (h : Heap) (x dx C : Addr) (mA : Str → Option Value) : Prop where
 obj : h.get? x = some (PySem.W.instObj C dx)
 ns : h.Ns1 dx mA
 ne : dx ≠ x
theorem lookIn_ns {h : Heap} {dx : Addr} {mA : Str → Option Value} (n : h.Ns1 dx mA) : ∃ od, h.get? dx = some od ∧ ∀ name, PySem.W.lookIn name od = some (mA name) := by
 obtain ⟨o, es, ep, ho, hd, hk, _, hm⟩ := n
 refine ⟨o, ho, fun name => ?_⟩
 have e := hm name
 unfold nsFind findBy at e
 rw [← Array.find?_toList] at e
 unfold PySem.W.lookIn
 rw [hd]
 dsimp only
 split
 ·rename_i y q
  rw [q] at e
  exact congrArg some e
 ·rename_i q
  rw [q] at e
  have a : es.toList.any (·.refKey) = false := by
   rw [List.any_eq_false]
   intro y hy
   obtain ⟨z, t, hkey⟩ := hk y (Array.mem_toList_iff.mp hy)
   simp [DictEntry.refKey, hkey]
  have a' : ¬ es.toList.any (·.refKey) = true := by rw [a]; exact Bool.false_ne_true
  rw [if_neg a']
  exact congrArg some e
theorem ObjM.look {h : Heap} {x dx C : Addr} {mA : Str → Option Value} (I : ObjM h x dx C mA) : ∃ od, PySem.W.InstAt h x (PySem.W.instObj C dx) C (some od) ∧ ∀ name, PySem.W.lookIn name od = some (mA name) :=
 let ⟨od, ho, hl⟩ := lookIn_ns I.ns
 ⟨od, ⟨I.obj, rfl, rfl, ho⟩, hl⟩
section
variable {prog : Program} {w : World} {A : Around} {E : Value → Shared → Prop} {s : Shared} {K : PySem.W.Frag} {x dx C f : Addr} {mA : Str → Option Value} {name : Str} {v : Value}
end
section
variable {P : Program} {w : World} {H H' : Hp} {h h' : Heap} {a C dx : Addr} {fs fs' : List (Str × V)}
theorem ins_get (hok : HOk P w H h) (e : H a = some (.ins C dx fs)) : ∃ mA, ObjM h a dx C mA ∧ (∀ f, RelO (fs.lookup f) (mA f)) ∧ PySem.Within mA (fs.map (·.1)) ∧ fs.length ≤ 1000 ∧ H dx = some (.own a) := by
 obtain ⟨d, z, ne, ob, mA, n, r, q⟩ := (show ObjOk P w H h a (.ins C dx fs) from hok a _ e)
 exact ⟨mA, ⟨ob, n, ne⟩, r, q, z, d⟩
end
structure Cls (K : PySem.W.Frag) (C : Addr) : Prop where
 pg : PySem.W.plainGet K C Str.empty = true
 hd : PySem.W.hasDictIn K C = true
 po : PySem.W.plainOver K C = true
 sa : PySem.W.findIn K (.ref C) "__setattr__" = some (some (.builtin "object.__setattr__"))
theorem Cls.get {K : PySem.W.Frag} {C : Addr} (c : Cls K C) (f : Str) : PySem.W.plainGet K C f = true := c.pg
structure Con (K : PySem.W.Frag) (C : Addr) (f : Str) (v : V) (u : Value) : Prop where
 at_ : PySem.W.findIn K (.ref C) f = some (some u)
 rel : RelV v u
 get : PySem.W.specialIn K u "__get__" = some none
 cp : PySem.W.copiedNames.contains f = false
structure Meth (K : PySem.W.Frag) (C : Addr) (m : Str) (f : Addr) : Prop where
 at_ : PySem.W.findIn K (.ref C) m = some (some (.ref f))
 fn : PySem.W.isFn K (.ref f) = true
 kp : PySem.W.keepIn K (.ref f) = true
section
variable {X : Cx} {pins : List (Addr × Obj)} {σ : St} {H : Hp} {s : Shared} {a C dx : Addr} {fs : List (Str × V)} {f : Str} {v : V} {A : Around} {E : Value → Shared → Prop}
end
section
variable {X : Cx} {o e value : Expr} {f : Str} {pos pos' tpos : Pos} {ta tv : TE}
end
section
variable {X : Cx} {pins : List (Addr × Obj)} {σ : St} {H : Hp} {s : Shared} {A : Around} {E : Value → Shared → Prop} {Q : Value → Shared → Prop} {c : Value} {b : Bool}
inductive TyOf (K : PySem.W.Frag) (H : Hp) : V → Value → Prop where
 | non : TyOf K H .non (.type "NoneType")
 | bl (x : Bool) : TyOf K H (.bl x) (.type "bool")
 | int (i : Int) : TyOf K H (.int i) (.type "int")
 | str (x : Str) : TyOf K H (.str x) (.type "str")
 | flt (x : UInt64) : TyOf K H (.flt x) (.type "float")
 | lst {a : Addr} {xs : List V} (e : H a = some (.lst xs)) : TyOf K H (.ref a) (.type "list")
 | frz {a : Addr} {o : Obj} {xs : List V} (e : H a = some (.frz o (.lst xs))) : TyOf K H (.ref a) (.type "list")
 | tup {a : Addr} {xs : List V} (e : H a = some (.tup xs)) : TyOf K H (.ref a) (.type "tuple")
 | dK {a : Addr} {kvs : List (Key × V)} (e : H a = some (.dK kvs)) : TyOf K H (.ref a) (.type "dict")
 | dT {a : Addr} {kvs : List (List Key × V)} (e : H a = some (.dT kvs)) : TyOf K H (.ref a) (.type "dict")
 | ins {a C dx : Addr} {fs : List (Str × V)} (e : H a = some (.ins C dx fs)) (cl : Cls K C) (ha : PySem.W.findIn K (.ref C) "__class__" = some (some (.builtin "object.__class__")))
  (hn : PySem.W.specialIn K (.builtin "object.__class__") "__get__" = some (some (.builtin "getset_descriptor.__get__"))) (htk : PySem.W.takesIn K (.builtin "object.__class__") = some true)
  (hm : PySem.W.mroIn K C (.type "object") = some true) : TyOf K H (.ref a) (.ref C)
theorem isinst_ok {x : V} {u t : Value} (I : Inv X pins σ H s) (rx : RelV x u) (ty : TyOf X.K H x t) (e : PySem.W.kitOne X.K t c = some b) (h : ∀ tk, Q (.bool b) { s with toks := tk }) :
 wpAny (model X.prog X.w) A (call (.builtin "isinstance") [u, c]) Q E s := by
 cases ty with
 | non => cases (show u = Value.none from rx); exact PySem.W.kia_one PySem.W.kitx_none I.kIn True.intro e (fun z => nomatch z) h
 | bl y => cases (show u = Value.bool y from rx); exact PySem.W.kia_one PySem.W.kitx_bool I.kIn True.intro e (fun z => nomatch z) h
 | int i => obtain ⟨t, q⟩ := (show ∃ t, u = Value.int i t from rx); cases q; exact PySem.W.kia_one PySem.W.kitx_int I.kIn True.intro e (fun z => nomatch z) h
 | str y => obtain ⟨t, q⟩ := (show ∃ t, u = Value.str y t from rx); cases q; exact PySem.W.kia_one PySem.W.kitx_str I.kIn True.intro e (fun z => nomatch z) h
 | flt y => obtain ⟨t, q⟩ := (show ∃ t, u = Value.float y t from rx); cases q; exact PySem.W.kia_one PySem.W.kitx_float I.kIn True.intro e (fun z => nomatch z) h
 | @lst a xs ea =>
   cases (show u = Value.ref a from rx)
   obtain ⟨_, _, n, _, h1⟩ := (show ObjOk X.prog X.w H s.heap a (.lst xs) from I.hok a _ ea)
   exact PySem.W.kia_one PySem.W.kitx_list I.kIn ⟨_, h1, rfl⟩ e (fun z => nomatch z) h
 | @frz a ob xs ea =>
   cases (show u = Value.ref a from rx)
   obtain ⟨_, _, _, n, _, h1⟩ := (show ObjOk X.prog X.w H s.heap a (.frz ob (.lst xs)) from I.hok a _ ea)
   exact PySem.W.kia_one PySem.W.kitx_list I.kIn ⟨_, h1, rfl⟩ e (fun z => nomatch z) h
 | @tup a xs ea =>
   cases (show u = Value.ref a from rx)
   obtain ⟨_, _, _, p⟩ := (show ObjOk X.prog X.w H s.heap a (.tup xs) from I.hok a _ ea)
   obtain ⟨o, h1, h2, _⟩ := p
   exact PySem.W.kia_one PySem.W.kitx_tuple I.kIn ⟨o, h1, h2⟩ e (fun z => nomatch z) h
 | @dK a kvs ea =>
   cases (show u = Value.ref a from rx)
   obtain ⟨_, _, vs, _, p⟩ := (show ObjOk X.prog X.w H s.heap a (.dK kvs) from I.hok a _ ea)
   obtain ⟨o, es, ep, h1, h2, _⟩ := p
   exact PySem.W.kia_one PySem.W.kitx_dict I.kIn ⟨o, h1, h2.1⟩ e (fun z => nomatch z) h
 | @dT a kvs ea =>
   cases (show u = Value.ref a from rx)
   obtain ⟨_, _, xs, _, o, es, ep, h1, h2, _⟩ := (show ObjOk X.prog X.w H s.heap a (.dT kvs) from I.hok a _ ea)
   exact PySem.W.kia_one PySem.W.kitx_dict I.kIn ⟨o, h1, h2.1⟩ e (fun z => nomatch z) h
 | @ins a C dx fs ea cl ha hn htk hm =>
   cases (show u = Value.ref a from rx)
   obtain ⟨mA, O, _⟩ := ins_get I.hok ea
   obtain ⟨od, J, _⟩ := O.look
   exact PySem.W.kia_one (PySem.W.kitx_own (cl.get _) cl.hd ha hn htk hm) I.kIn J e (fun z => nomatch z) h
end
end L2
namespace L2
open PySem PySem.Spec PyProof.Rows
structure Room (k : Nat) (A : Around) : Prop where
 hd : A.handled = none
 dp : A.depth + 3 * k + 5 < recursionLimit
 un : A.units + 16 * k + 200 < cLine
theorem Room.mono {j k : Nat} {A : Around} (r : Room k A) (h : j ≤ k) : Room j A := ⟨r.hd, by have := r.dp; lia, by have := r.un; lia⟩
theorem Room.deeper {k : Nat} {A : Around} (r : Room (k + 1) A) (env : Env) : Room k (A.deeper env) :=
 ⟨r.hd, by have := r.dp; show A.depth + 1 + 3 * k + 5 < _; lia, by have := r.un; show A.units + 3 + 16 * k + 200 < _; lia⟩
theorem Room.depth {k : Nat} {A : Around} (r : Room k A) : A.depth < recursionLimit := by have := r.dp; lia
theorem Room.units {k : Nat} {A : Around} (r : Room k A) : A.units + 64 < cLine := by have := r.un; lia
def tNil : TA := fun _ H Q => Q [] H
def tCons (ta : TE) (tr : TA) : TA := fun σ H Q => ta σ H fun x H1 => tr σ H1 fun xs H2 => Q (x :: xs) H2
section
variable {X : Cx} {e : Expr} {es : List Expr} {te : TE} {t : TA} {pos : Pos}
theorem pa_nil : PA X [] tNil := fun _ _ _ _ H Q I h => Calls.spliced_nil ⟨[], H, I, .nil, h⟩
theorem pa_cons (ha : PE X e te) (hr : PA X es t) (hs : starEach (e :: es) X.env = (false, eval e X.env) :: starEach es X.env := by rfl) : PA X (e :: es) (tCons te t) := by
 intro pos pins s σ H Q I h
 rw [hs]
 show wpAny _ _ (spliced ((false, eval e X.env) :: backTo pos (starEach es X.env))) _ _ s
 refine Calls.spliced_cons (thn (ha pins s σ H _ I h) fun u s1 ⟨x, H1, I1, r1, q1⟩ => ?_)
 exact thn (hr pos pins s1 σ H1 _ I1 q1) fun us s2 ⟨xs, H2, I2, r2, q2⟩ => ⟨x :: xs, H2, I2, .cons r1 r2, q2⟩
def tTup (t : TA) : TE := fun σ H Q => t σ H fun xs H1 => xs.length ≤ sizeLine ∧ ∀ p, H1 p = none → Q (.ref p) (upd H1 p (.tup xs))
def tLst (t : TA) : TE := fun σ H Q => t σ H fun xs H1 => xs.length ≤ sizeLine ∧ ∀ p, H1 p = none → Q (.ref p) (upd H1 p (.lst xs))
theorem pe_tup {x1} (h : PA X es t) : PE X (.Tuple es x1 pos) (tTup t) := by
 intro pins s σ H Q I hq
 refine wpAny_Tuple_spliced (thn (h pos pins s σ H _ I hq) fun us s1 ⟨xs, H1, I1, r, z, q⟩ => ⟨by rw [← r.length]; exact z, ?_⟩)
 have hf : H1 s1.heap.objs.size = none := I1.hok.fresh (Nat.le_refl _)
 refine ⟨.ref s1.heap.objs.size, upd H1 s1.heap.objs.size (.tup xs), I1.laid (t' := s1.toks) (fun b u e => Heap.get?_push_of_some _ e) (Nat.le_refl _) ?_, rfl, q _ hf⟩
 exact ⟨z, us, r, ⟨_, Heap.get?_push_size _ rfl, rfl, _, rfl⟩⟩
theorem pe_lst (h : PA X es t) : PE X (.List es pos) (tLst t) := by
 intro pins s σ H Q I hq
 refine wpAny_List_spliced (thn (h pos pins s σ H _ I hq) fun us s1 ⟨xs, H1, I1, r, z, q⟩ => ⟨by rw [← r.length]; exact z, ?_⟩)
 have hf : H1 s1.heap.objs.size = none := I1.hok.fresh (Nat.le_refl _)
 refine ⟨.ref s1.heap.objs.size, upd H1 s1.heap.objs.size (.lst xs), I1.laid (t' := s1.toks) (fun b u e => Heap.get?_push_of_some _ e) (Nat.le_refl _) ?_, rfl, q _ hf⟩
 exact ⟨z, us, 0, r, Heap.get?_push_size _ rfl⟩
end
abbrev Sp := List V → Hp → VK → XK → Prop
abbrev CXT := List Env → Hp → Shared → XK → Value → Shared → Prop
structure Env0 (P : Program) (w : World) (K : PySem.W.Frag) (mg : Str → Option Value) (base : Heap) (A : Around) (outer : List Env) (s : Shared) (H : Hp) : Prop where
 frames : A.frames = some outer
 mod : Mod K mg base
 bs : ∀ b o, base.get? b = some o → s.heap.get? b = some o ∧ H b = none
 bsz : base.objs.size ≤ s.heap.objs.size
 funs : s.heap.FunFrames base outer
 frf : ∀ b ∈ frs outer, H b = none
 hok : HOk P w H s.heap
 bare : AllBare s.gens
def CE (outer : List Env) (P : Program) (w : World) (H : Hp) (s : Shared) (Q : VK) (u : Value) (s' : Shared) : Prop :=
 ∃ v H', s'.os = s.os ∧ AllBare s'.gens ∧ Un (frs outer) [] H H' s.heap s'.heap ∧ HOk P w H' s'.heap ∧ RelV v u ∧ Q v H'
def CR (CX : CXT) (outer : List Env) (P : Program) (w : World) (H : Hp) (s : Shared) (Q : VK) (E : XK) (r : Result) (s' : Shared) : Prop :=
 match r with
 | .ok (.ret u) => CE outer P w H s Q u s'
 | .ok _ => False
 | .error e => CX outer H s E e s'
structure FnOk (P : Program) (w : World) (K : PySem.W.Frag) (mg : Str → Option Value) (base : Heap) (CX : CXT) (k : Nat) (f : Addr) (fd : FuncData) (ps : List Str) (sp : Sp) : Prop where
 len : ∀ vs H Q E, sp vs H Q E → vs.length = ps.length
 run : ∀ (A : Around) (outer : List Env) (s : Shared) (H : Hp) (args : Args) (us : List Value) (vs : List V) (Q : VK) (E : XK), Room k A → Env0 P w K mg base A outer s H → BindsTo s fd args (ps.zip us) → Vals vs us → sp vs H Q E →
  codeAny (model P w) A (.call (.ref f) args) (CR CX outer P w H s Q E) s
section
variable {X : Cx} {pins : List (Addr × Obj)} {σ : St} {H : Hp} {s s' : Shared}
theorem Inv.env0 (I : Inv X pins σ H s) : Env0 X.prog X.w X.K X.mg X.base X.A X.stack s H :=
 ⟨I.ok.frames, I.ok.mod, I.bs, Nat.le_trans I.ok.bsz I.sz, I.stack, I.stkFree, I.hok, I.bare⟩
theorem Inv.after {Q : VK} {u : Value} (I : Inv X pins σ H s) (h : CE X.stack X.prog X.w H s Q u s') : EP X pins σ Q u s' := by
 obtain ⟨v, H', os, bare, un, hok, r, q⟩ := h
 obtain ⟨hh, g, d, t, os'⟩ := s'
 obtain rfl : os' = s.os := os
 exact ⟨v, H', I.call (h' := hh) (g' := g) (d' := d) (t' := t) (ch := []) un hok bare (fun b z => absurd z (by simp)), r, q⟩
end
def tCall (sp : Sp) (dvs : List V) (E : XK) (t : TA) : TE := fun σ H Q => t σ H fun vs H1 => sp (vs ++ dvs) H1 Q E
def Binds (K : PySem.W.Frag) (fd : FuncData) (ps : List Str) (ds : List Value) : Prop :=
 ∀ (s : Shared) (us : List Value), K.In s.heap → (us ++ ds).length = ps.length → BindsTo s fd ⟨us, []⟩ (ps.zip (us ++ ds))
theorem Binds.all {K : PySem.W.Frag} {fd : FuncData} {ps : List Str} (h : ∀ us : List Value, us.length = ps.length → bindArgs fd ⟨us, []⟩ = pure (ps.zip us)) : Binds K fd ps [] := fun s us _ hl => by
 rw [List.append_nil] at hl ⊢
 exact .of_eq (h us hl)
def Passes (CX : CXT) (X : Cx) (E : XK) : Prop := ∀ (pins : List (Addr × Obj)) (σ : St) (H : Hp) (s : Shared) (e : Value) (s' : Shared), Inv X pins σ H s → CX X.stack H s E e s' → X.xe e s'
section
variable {X : Cx} {CX : CXT} {k : Nat} {f C : Addr} {fd : FuncData} {ps : List Str} {sp : Sp} {dvs : List V} {ds : List Value} {E : XK} {x m : Str} {p pos apos : Pos} {e o : Expr} {es : List Expr} {ta : TE} {t : TA}
theorem run_fn {pins : List (Addr × Obj)} {σ : St} {H : Hp} {s : Shared} {Q : VK} {us : List Value} {vs : List V} (F : FnOk X.prog X.w X.K X.mg X.base CX k f fd ps sp) (hr : Room k X.A) (hb : Binds X.K fd ps ds) (hd : Vals dvs ds) (hx : Passes CX X E)
 (I : Inv X pins σ H s) (r : Vals vs us) (h : sp (vs ++ dvs) H Q E) : wpAny (model X.prog X.w) X.A (call (.ref f) us) (EP X pins σ Q) X.xe s := by
 have r2 : Vals (vs ++ dvs) (us ++ ds) := r.append hd
 have hl : (us ++ ds).length = ps.length := by rw [← r2.length]; exact F.len _ _ _ _ h
 refine wpAny_call (codeAny_mono (F.run X.A X.stack s H ⟨us, []⟩ (us ++ ds) (vs ++ dvs) Q E hr I.env0 (hb s us I.kIn hl) r2 h) fun r s' hq => ?_)
 cases r with
 | error e => exact hx pins σ H s e s' I hq
 | ok fl =>
   cases fl with
   | ret u => exact I.after hq
   | next => exact False.elim hq
   | brk => exact False.elim hq
   | cont => exact False.elim hq
theorem pe_call (F : FnOk X.prog X.w X.K X.mg X.base CX k f fd ps sp) (hr : Room k X.A) (hg : Gl X x) (hm : X.mg x = some (.ref f)) (hk : PySem.W.keepIn X.K (.ref f) = true) (hb : Binds X.K fd ps ds) (hd : Vals dvs ds) (hx : Passes CX X E)
 (ha : PA X (e :: es) t) (hdb : (x == ("__debug__" : Str)) = false := by decide) (he : starEach (e :: es) X.env = (false, eval e X.env) :: starEach es X.env := by rfl) (hpl : (backTo pos (starEach es X.env)).any (·.1) = false := by rfl) :
 PE X (.Call (.Name x p) (e :: es) [] pos) (tCall sp dvs E t) := by
 walk_at "z9"
 refine wpAny_Call_Name_kw (ld_glob I hg hm ?_ hdb)
 walk_at "z22"
 exact run_fn F hr hb hd hx I1 r q
structure Mk (K : PySem.W.Frag) (C f : Addr) : Prop where
 makes : PySem.W.makesIn K C = true
 init : PySem.W.findIn K (.ref C) "__init__" = some (some (.ref f))
 fn : PySem.W.isFn K (.ref f) = true
 kp : PySem.W.keepIn K (.ref C) = true
end
section
variable {X : Cx} {CX : CXT} {k : Nat} {f C : Addr} {fd : FuncData} {ps ks : List Str} {sp : Sp} {E : XK} {x m : Str} {p pos apos kpos : Pos} {e o : Expr} {es : List Expr} {kws : List Keyword} {te ta : TE} {t tk : TA} {nm : Option Str}
structure KBinds (K : PySem.W.Frag) (fd : FuncData) (ps ks : List Str) (g : List Value → List Value → List Value) (gV : List V → List V → List V) : Prop where
 to : ∀ (s : Shared) (us ws : List Value), K.In s.heap → (g us ws).length = ps.length → BindsTo s fd ⟨us, ks.zip ws⟩ (ps.zip (g us ws))
 rel : ∀ {vs : List V} {us : List Value} {zs : List V} {ws : List Value}, Vals vs us → Vals zs ws → Vals (gV vs zs) (g us ws)
variable {g : List Value → List Value → List Value} {gV : List V → List V → List V}
end
structure FnScope (N P : List Str) (sc : Scope) : Prop where
 kind : sc.kind = .function
 co : sc.isCoroutine = false
 gen : sc.isGenerator = false
 nd : N.Nodup
 pre : N.take P.length = P
 par : ∀ x ∈ P, sc.names.lookup x = some .local ∨ sc.names.lookup x = some .cell
 nofree : ∀ y ∈ sc.names, y.2 ≠ .free
theorem bindL_out {kindOf : Str → Option NameKind} {x : Str} : ∀ {binds : List (Str × Value)} {m : Str → Option Value}, (∀ v, (x, v) ∉ binds) → bindL kindOf binds m x = m x
 | [], _, _ => rfl
 | (n, v) :: r, m, h => by
   unfold bindL
   rw [bindL_out fun w hw => h w (List.mem_cons_of_mem _ hw)]
   split
   ·have : x ≠ n := by rintro rfl; exact h v List.mem_cons_self
    simp [this]
   ·rfl
theorem bindC_out {kindOf : Str → Option NameKind} {x : Str} : ∀ {binds : List (Str × Value)} {m : Str → Option Value}, (∀ v, (x, v) ∉ binds) → bindC kindOf binds m x = m x
 | [], _, _ => rfl
 | (n, v) :: r, m, h => by
   unfold bindC
   rw [bindC_out fun w hw => h w (List.mem_cons_of_mem _ hw)]
   split
   ·rfl
   ·have : x ≠ n := by rintro rfl; exact h v List.mem_cons_self
    simp [this]
theorem bindL_get {kindOf : Str → Option NameKind} {x : Str} {v : Value} : ∀ {P : List Str} {vs : List Value} {i : Nat} {m : Str → Option Value}, P.Nodup → P[i]? = some x → vs[i]? = some v → kindOf x = some .local →
 bindL kindOf (P.zip vs) m x = some v
 | [], _, _, _, _, h, _, _ => by simp at h
 | _ :: _, [], _, _, _, _, h, _ => by simp at h
 | p :: P, w :: vs, 0, m, nd, h1, h2, hk => by
   simp at h1 h2; subst h1; subst h2
   show bindL kindOf ((p, w) :: P.zip vs) m p = _
   unfold bindL
   rw [bindL_out fun v hv => (List.nodup_cons.mp nd).1 (List.of_mem_zip hv).1, if_pos hk]
   simp
 | p :: P, w :: vs, i + 1, m, nd, h1, h2, hk => by
   show bindL kindOf ((p, w) :: P.zip vs) m x = _
   unfold bindL
   exact bindL_get (i := i) (List.nodup_cons.mp nd).2 (by simpa using h1) (by simpa using h2) hk
theorem bindC_get {kindOf : Str → Option NameKind} {x : Str} {v : Value} : ∀ {P : List Str} {vs : List Value} {i : Nat} {m : Str → Option Value}, P.Nodup → P[i]? = some x → vs[i]? = some v → kindOf x ≠ some .local →
 bindC kindOf (P.zip vs) m x = some v
 | [], _, _, _, _, h, _, _ => by simp at h
 | _ :: _, [], _, _, _, _, h, _ => by simp at h
 | p :: P, w :: vs, 0, m, nd, h1, h2, hk => by
   simp at h1 h2; subst h1; subst h2
   show bindC kindOf ((p, w) :: P.zip vs) m p = _
   unfold bindC
   rw [bindC_out fun v hv => (List.nodup_cons.mp nd).1 (List.of_mem_zip hv).1, if_neg hk]
   simp
 | p :: P, w :: vs, i + 1, m, nd, h1, h2, hk => by
   show bindC kindOf ((p, w) :: P.zip vs) m x = _
   unfold bindC
   exact bindC_get (i := i) (List.nodup_cons.mp nd).2 (by simpa using h1) (by simpa using h2) hk
def start (N : List Str) (vs : List V) : St := vs.map some ++ List.replicate (N.length - vs.length) none
def cxOf (CX : CXT) (P : Program) (w : World) (K : PySem.W.Frag) (mg : Str → Option Value) (base : Heap) (N : List Str) (qual : Str) (scope : Scope) (f : Addr) (cd : Value) (A : Around) (outer : List Env) (s : Shared) (H : Hp) (E : XK) : Cx where
 prog := P
 w := w
 K := K
 mg := mg
 base := base
 A := A.deeper (envOfC qual scope s.heap.objs.size f cd)
 N := N
 s₀ := s
 H₀ := H
 env := envOfC qual scope s.heap.objs.size f cd
 outer := outer
 stack := envOfC qual scope s.heap.objs.size f cd :: outer
 ex := []
 calm := true
 fn := fun _ => true
 pn := []
 xe := fun e s' => wpAny (model P w) (A.deeper (envOfC qual scope s.heap.objs.size f cd)) (leaving (envOfC qual scope s.heap.objs.size f cd) e) (fun _ s'' => CX outer H s E e s'') (fun e' s'' => CX outer H s E e' s'') s'
theorem cell_has {sc : Scope} {n : Nat} {x : Str} (h : sc.names.lookup x = some .cell) : ∃ c, (cellsFrom n sc.names []).lookup x = some c := by
 have q := PySem.W.cellsFrom_some sc.names n [] (.inl h)
 exact Option.isSome_iff_exists.mp q
theorem inv_start {CX : CXT} {P : Program} {w : World} {K : PySem.W.Frag} {mg : Str → Option Value} {base : Heap} {N ps : List Str} {qual : Str} {scope : Scope} {f : Addr} {cd : Value} {A : Around} {outer : List Env} {s s1 : Shared} {H : Hp} {E : XK} {us : List Value} {vs : List V}
 (S : FnScope N ps scope) (hd : A.handled = none) (e0 : Env0 P w K mg base A outer s H) (hl : vs.length = ps.length) (r : Vals vs us)
 (x : InCallC s s.heap.objs.size (bindL (envOfC qual scope s.heap.objs.size f cd).kindOf (ps.zip us) fun _ => none) (cellsFrom (s.heap.objs.size + 1) scope.names []) (bindC (envOfC qual scope s.heap.objs.size f cd).kindOf (ps.zip us) fun _ => none) s1) :
 Inv (cxOf CX P w K mg base N qual scope f cd A outer s H E) [] (start N vs) H s1 := by
 have hpl : ps.length ≤ N.length := by have := congrArg List.length S.pre; rw [List.length_take] at this; lia
 obtain ⟨h1, tk, rfl, hk⟩ := x.done
 have noA : ∀ b : Addr, b ∉ (cxOf CX P w K mg base N qual scope f cd A outer s H E).ex := fun b z => absurd (show b ∈ ([] : List Addr) from z) (by simp)
 refine ⟨⟨e0.mod, S.kind, rfl, rfl, Nat.le_refl _, fun y z c h1 h2 => ?_, fun y hy => ?_, fun y c _ h => ?_, fun _ => hd, Around.frames_deeper e0.frames, .inr ⟨rfl, rfl⟩, fun b z => absurd z (noA b), e0.bs, e0.bsz, fun b _ _ => noA b, fun b z => absurd z (noA b), e0.funs, e0.frf⟩,
  rfl, e0.bare, Un.kept hk, ⟨_, x.toInCall.ns, fun i y v h1 h2 h3 => ?_⟩, fun y c h => ⟨_, x.cell y c h⟩, e0.hok.fresh (Nat.le_refl _), fun y c h => ?_, fun p hp => absurd (show p ∈ ([] : List (Addr × Obj)) from hp) (by simp), e0.hok.kept hk, ?_⟩
 ·exact name_of_addr x.apart (PySem.mem_of_lookup h1) (PySem.mem_of_lookup h2)
 ·have hy : scope.names.lookup y = some .cell ∨ scope.names.lookup y = some .free := hy
  rcases hy with hy | hy
  ·exact cell_has hy
  ·exact absurd rfl (S.nofree _ (PySem.mem_of_lookup hy))
 ·exact Nat.le_of_lt (x.above y c (PySem.mem_of_lookup h))
 ·have hi : i < vs.length := by
   unfold start at h2
   by_cases hi : i < vs.length
   ·exact hi
   ·rw [List.getElem?_append_right (by simpa using hi)] at h2
    rw [List.getElem?_replicate] at h2
    split at h2 <;> cases h2
  have ha : vs[i]? = some v := by
   unfold start at h2
   rw [List.getElem?_append_left (by simpa using hi), List.getElem?_map] at h2
   cases e : vs[i]? with
   | none => rw [e] at h2; cases h2
   | some a => rw [e] at h2; cases h2; rfl
  obtain ⟨u, hu, rv⟩ := r.get ha
  have hp : ps[i]? = some y := by
   rw [← S.pre, List.getElem?_take_of_lt (by lia)]; exact h1
  have ndP : ps.Nodup := by rw [← S.pre]; exact S.nd.sublist (List.take_sublist _ _)
  refine ⟨u, rv, ?_⟩
  rcases S.par y (List.mem_of_getElem? hp) with k | k
  ·exact .inl ⟨k, bindL_get ndP hp hu k⟩
  ·obtain ⟨c, e⟩ := cell_has (n := s.heap.objs.size + 1) k
   refine .inr ⟨.inl k, c, e, ?_⟩
   have q := x.cell y c e
   rw [bindC_get ndP hp hu (by show scope.names.lookup y ≠ _; rw [k]; decide)] at q
   exact q
 ·exact e0.hok.fresh (Nat.le_of_lt (x.above y c (PySem.mem_of_lookup h)))
 ·unfold start
  show _ = N.length
  rw [List.length_append, List.length_map, List.length_replicate]
  lia
theorem fn_of {CX : CXT} {P : Program} {w : World} {K : PySem.W.Frag} {mg : Str → Option Value} {base : Heap} {k : Nat} {f : Addr} {name qual : Str} {params : Arguments} {body : List Stmt} {scope : Scope} {dV kV doc pm cdv ct oc : Value} {an od : Option Addr}
 {osl : Array (Option Value)} {N ps : List Str} {sp : Sp} (lk : K.lookup f = some ⟨oc, od, .func (PySem.W.fnOf name qual params body scope dV kV doc pm an cdv ct), osl⟩) (hcd : PySem.W.codeIn K cdv qual = true) (S : FnScope N ps scope)
 (len : ∀ vs H Q E, sp vs H Q E → vs.length = ps.length)
 (hbody : ∀ (A : Around) (outer : List Env) (s : Shared) (H : Hp) (vs : List V) (Q : VK) (E : XK), Room k (A.deeper (envOfC qual scope s.heap.objs.size f cdv)) → sp vs H Q E →
  ∃ t, PSs (cxOf CX P w K mg base N qual scope f cdv A outer s H E) body t ∧ t { nx := fun _ H' => Q .non H', rt := Q } (start N vs) H) :
 FnOk P w K mg base CX (k + 1) f (PySem.W.fnOf name qual params body scope dV kV doc pm an cdv ct) ps sp := by
 refine ⟨len, fun A outer s H args us vs Q E hr e0 hb r hsp => ?_⟩
 have hl := len _ _ _ _ hsp
 have KX : K.In s.heap := e0.mod.kin.keeps fun b o e => (e0.bs b o e).1
 have lim : s.heap.NoLimit := e0.mod.nolimit.keeps fun b o e => (e0.bs b o e).1
 have hkind : ∀ y ∈ ps.zip us, scope.names.lookup y.1 = some .local ∨ (scope.names.lookup y.1 = some .cell ∧ ((cellsFrom (s.heap.objs.size + 1) scope.names []).lookup y.1).isSome = true) := fun ⟨n, v⟩ hy => by
  rcases S.par n (List.of_mem_zip hy).1 with q | q
  ·exact .inl q
  ·exact .inr ⟨q, PySem.W.cellsFrom_some _ _ _ (.inl q)⟩
 refine codeAny_call_function hr.depth (KX _ _ lk) rfl S.co S.gen rfl (PySem.W.codeRec_of KX hcd) (hb _ _ _ _ ?_)
 refine wpAny_newFunctionEnv_cells S.kind hkind fun env he s1 x => ?_
 subst he
 refine ⟨lim.keeps x.toInCall.keep, codeAny_func ?_⟩
 obtain ⟨t, ht, hq⟩ := hbody A outer s H vs Q E (hr.deeper _) hsp
 have I : Inv (cxOf CX P w K mg base N qual scope f cdv A outer s H E) [] (start N vs) H s1 := inv_start S hr.hd e0 hl r x
 refine wpAny_mono (ht [] s1 (start N vs) H _ I hq) (fun fl s' hs => ?_) fun e s' hs => hs
 have fin : ∀ {σ' : St} {H' : Hp} {v : V} {u : Value}, Inv (cxOf CX P w K mg base N qual scope f cdv A outer s H E) [] σ' H' s' → RelV v u → Q v H' → CE outer P w H s Q u s' :=
  fun {σ' H' v u} J rv q => ⟨v, H', J.os, J.bare, J.base, J.hok, rv, q⟩
 cases fl with
 | ret u =>
   obtain ⟨v, σ', H', J, rv, q⟩ := hs
   exact fin J rv q
 | next =>
   obtain ⟨σ', H', J, q⟩ := hs
   exact fin (v := V.non) (u := Value.none) J rfl q
 | brk =>
   obtain ⟨_, _, _, q⟩ := hs
   exact False.elim q
 | cont =>
   obtain ⟨_, _, _, q⟩ := hs
   exact False.elim q
end L2
namespace L2
open PySem PySem.Spec PyProof.Rows
section
variable {X : Cx} {x : Str} {p pos : Pos} {e : Expr} {es : List Expr} {t : TA} {id T : String} {r : List V → Hp → VK → Prop}
def tCB (r : List V → Hp → VK → Prop) (t : TA) : TE := fun σ H Q => t σ H fun vs H1 => r vs H1 Q
theorem pe_callB (hc : CallR X (.builtin id) r) (hg : Gl X x) (hm : X.mg x = none) (hv : bootBuiltins x = some (.builtin id)) (ha : PA X (e :: es) t) (hn : x ≠ "__name__" := by decide) (hdb : (x == ("__debug__" : Str)) = false := by decide)
 (he : starEach (e :: es) X.env = (false, eval e X.env) :: starEach es X.env := by rfl) (hpl : (backTo pos (starEach es X.env)).any (·.1) = false := by rfl) : PE X (.Call (.Name x p) (e :: es) [] pos) (tCB r t) := by
 walk_at "z9"
 refine wpAny_Call_Name_kw (ld_blt I hg hm hv ?_ hn hdb)
 exact PyProof.Rows.callWith_builtin1 (thn (ha pos pins s σ H _ I h) fun us s1 ⟨vs, H1, I1, r1, q1⟩ => hc pins s1 σ H1 vs us Q I1 r1 q1) he hpl
theorem pe_callTy (hc : CallR X (.type T) r) (hg : Gl X x) (hm : X.mg x = none) (hv : bootBuiltins x = some (.type T)) (ha : PA X (e :: es) t) (hn : x ≠ "__name__" := by decide) (hdb : (x == ("__debug__" : Str)) = false := by decide)
 (he : starEach (e :: es) X.env = (false, eval e X.env) :: starEach es X.env := by rfl) (hpl : (backTo pos (starEach es X.env)).any (·.1) = false := by rfl) : PE X (.Call (.Name x p) (e :: es) [] pos) (tCB r t) := by
 walk_at "z9"
 refine wpAny_Call_Name_kw (ld_blt I hg hm hv ?_ hn hdb)
 exact PyProof.Rows.callWith_type1 (thn (ha pos pins s σ H _ I h) fun us s1 ⟨vs, H1, I1, r1, q1⟩ => hc pins s1 σ H1 vs us Q I1 r1 q1) he hpl
end
end L2
namespace HT
open PySem PyProof.Rows
def lexLt : List Int → List Int → Bool
 | [], [] => false
 | [], _ :: _ => true
 | _ :: _, [] => false
 | x :: xs, y :: ys => if x = y then lexLt xs ys else decide (x < y)
theorem lexLt_cons (x y : Int) (xs ys : List Int) : lexLt (x :: xs) (y :: ys) = if x = y then lexLt xs ys else decide (x < y) := rfl
theorem lexLt_nil_nil : lexLt [] [] = false := rfl
theorem lexLt_nil_cons (y : Int) (ys : List Int) : lexLt [] (y :: ys) = true := rfl
theorem lexLt_cons_nil (x : Int) (xs : List Int) : lexLt (x :: xs) [] = false := rfl
theorem eqAt_int (A : Around) (s : Shared) (a : Int) (t : Tok) (c : Int) (u : Tok) : ∃ e, SeqAt.EqAt A s (.int a t) (.int c u) e ∧ (e = true ↔ a = c) :=
 ⟨(a == c), SeqAt.EqAt.int_int a t c u, by simp⟩
theorem rcLt_int (A : Around) (s : Shared) (a : Int) (t : Tok) (c : Int) (u : Tok) (prog : Program) (w : World) (E : Value → Shared → Prop) (Q : Value → Shared → Prop) (h : Q (.bool (decide (a < c))) s) :
 wpAny (model prog w) A (richCompare .Lt (.int a t) (.int c u)) Q E s :=
 (PyProof.Rows.lt_int h : wpAny (model prog w) A (compareOp .Lt (.int a t) (.int c u)) Q E s)
section
open PySem.SeqAt
open PySem.AutoSeq1 (wpAny_loadPart')
open PySem.MeetsSeq PySem.MeetsSeq2 PySem.MeetsSeq3
theorem tuple_lt_ints (l b : Addr) (items items2 : Array Value) (n n2 : Nat) (dd dd2 : Option Addr) (sl sl2 : Array (Option Value)) (ns ms : List Int) (hi : IntsAre items.toList ns) (hj : IntsAre items2.toList ms) :
 Meets (Builtin.«tuple.__lt__» ⟨[.ref l, .ref b], []⟩)
  (fun _ R s => s.heap.get? l = some { cls := .type "tuple", dict := dd, data := .seq items n, slots := sl } ∧ s.heap.get? b = some { cls := .type "tuple", dict := dd2, data := .seq items2 n2, slots := sl2 } ∧
   R (.ok (.ret (.bool (lexLt ns ms)))) s) :=
 .of_wp fun prog w A R s h => by
  obtain ⟨hp, g, d, tk, os⟩ := s; obtain ⟨hl, hb, h⟩ := h
  have f2 := AutoSeq1.sub_tuple_tuple
  have z1 : items.size = ns.length := by rw [← hi.length]; simp
  have z2 : items2.size = ms.length := by rw [← hj.length]; simp
  wp_walk using wpAny_loadPart' hl, wpAny_loadPart' hb, wpAny_forIn_list _ (fun rest b s' => b.1 = none ∧ s' = ⟨hp, g, d, tk, os⟩ ∧ ∃ (vs ws : List Value) (ns' ms' : List Int), rest = vs.zip ws ∧
   IntsAre vs ns' ∧ IntsAre ws ms' ∧ ns'.length + items2.size = ms'.length + items.size ∧ R (.ok (.ret (.bool (lexLt ns' ms')))) ⟨hp, g, d, tk, os⟩) _
  case turn =>
   rintro ⟨y, x⟩ rest b s' ⟨hb', rfl, vs, ws, ns', ms', hz, hvi, hwi, hlen, hR⟩
   cases hvi with
   | nil => rw [List.zip_nil_left] at hz; cases hz
   | cons a t hvi' =>
     cases hwi with
     | nil => rw [List.zip_nil_right] at hz; cases hz
     | cons c u hwi' =>
       rw [List.zip_cons_cons] at hz
       injection hz with hyx hrest
       injection hyx with hy hx
       subst hy hx
       rw [lexLt_cons] at hR
       simp only [List.length_cons] at hlen
       obtain ⟨e, he, hiff⟩ := eqAt_int A.in1 ⟨hp, g, d, tk, os⟩ a t c u
       refine wpAny_bind (he prog w _ _ ?_)
       cases e with
       | true =>
         rw [if_pos (hiff.mp rfl)] at hR
         wp_walk
         exact ⟨rfl, rfl, _, _, _, _, hrest, hvi', hwi', by lia, hR⟩
       | false =>
         rw [if_neg (fun q => absurd (hiff.mpr q) Bool.false_ne_true)] at hR
         have hri := rcLt_int A.in1 ⟨hp, g, d, tk, os⟩ a t c u prog w
         wp_walk using hri
         exact ⟨_, rfl, by simpa using hR⟩
  case fin =>
   rintro ⟨b1, b2⟩ s' ⟨hb', rfl, vs, ws, ns', ms', hz, hvi, hwi, hlen, hR⟩
   simp only at hb'
   subst hb'
   have hv : lexLt ns' ms' = decide (items.size < items2.size) := by
    cases hvi with
    | nil =>
      cases hwi with
      | nil =>
        simp only [List.length_nil] at hlen
        rw [lexLt_nil_nil]
        exact (decide_eq_false (by lia)).symm
      | cons c u hw =>
        simp only [List.length_nil, List.length_cons] at hlen
        rw [lexLt_nil_cons]
        exact (decide_eq_true (by lia)).symm
    | cons a t hv =>
      cases hwi with
      | nil =>
        simp only [List.length_nil, List.length_cons] at hlen
        rw [lexLt_cons_nil]
        exact (decide_eq_false (by lia)).symm
      | cons c u hw =>
        rw [List.zip_cons_cons] at hz
        cases hz
   rw [hv] at hR
   wp_walk
   exact ⟨_, rfl, by simpa [Builtin.Tuple.tupleCompareSizes] using hR⟩
  case h =>
   exact ⟨rfl, rfl, items.toList, items2.toList, ns, ms, rfl, hi, hj, by lia, h⟩
end
section
variable {prog : Program} {w : World} {A : Around} {E : Value → Shared → Prop} {s : Shared}
theorem lt_tupInts {l b : Addr} {items items2 : Array Value} {ns ms : List Int} {Q : Value → Shared → Prop} (hl : IsTup s.heap l items) (hb : IsTup s.heap b items2) (hi : IntsAre items.toList ns) (hj : IntsAre items2.toList ms)
 (hu : A.units < cLine) (h : Q (.bool (lexLt ns ms)) s) : wpAny (model prog w) A (compareOp .Lt (.ref l) (.ref b)) Q E s := by
 obtain ⟨⟨cls, dd, data, sl⟩, ho, hc, n, hd⟩ := id hl
 obtain ⟨⟨cls2, dd2, data2, sl2⟩, ho2, hc2, n2, hd2⟩ := id hb
 simp only at hc hd hc2 hd2
 subst hc hd hc2 hd2
 exact richCompare_meets_room (op := .Lt) ⟨_, ho, rfl⟩ ⟨_, ho2, rfl⟩ PySem.F.slot_tuple_lt PySem.F.entry_tuple_lt (PySem.F.args_tuple_lt_2 _ _) (tuple_lt_ints l b items items2 n n2 dd dd2 sl sl2 ns ms hi hj)
  ⟨ho, ho2, show Value.bool (lexLt ns ms) ≠ Value.notImplemented ∧ Q (.bool (lexLt ns ms)) s from ⟨(fun x => nomatch x), h⟩⟩ hu
def sIx (n d : Nat) : Option Int → Nat
 | none => d
 | some v => if v < 0 then (v + (n : Int)).toNat else min v.toNat n
theorem sIx_none (n d : Nat) : sIx n d none = d := rfl
theorem sIx_nat (n d k : Nat) : sIx n d (some (k : Int)) = min k n := by
 show (if (k : Int) < 0 then ((k : Int) + (n : Int)).toNat else min (k : Int).toNat n) = min k n
 rw [if_neg (by lia), Int.toNat_natCast]
end
end HT
namespace L2
open PySem PySem.Spec PyProof.Rows
abbrev TO := St → Hp → (Option Int → Hp → Prop) → Prop
def PO (X : Cx) (e : Option Expr) (t : TO) : Prop :=
 ∀ (pins : List (Addr × Obj)) (s : Shared) (σ : St) (H : Hp) (Q : Option Int → Hp → Prop), Inv X pins σ H s → t σ H Q →
  wpAny (model X.prog X.w) X.A (evalPart e X.env) (fun u s' => ∃ o H', Inv X pins σ H' s' ∧ IsPart u o ∧ Q o H') X.xe s
def tNoPart : TO := fun _ H Q => Q none H
def tPart (t : TE) : TO := fun σ H Q => t σ H fun x H1 => ∃ i, x = .int i ∧ Q (some i) H1
theorem intsAre_of {ns : List Int} : ∀ {us : List Value}, Vals (ns.map V.int) us → IntsAre us ns := by
 induction ns with
 | nil => intro us r; rw [List.map_nil] at r; cases r; exact .nil
 | cons n ns ih =>
   intro us r
   rw [List.map_cons] at r
   cases r with
   | cons r1 r2 =>
     obtain ⟨t, e⟩ := r1
     subst e
     exact .cons n t (ih r2)
section
variable {X : Cx} {e : Expr} {te : TE} {lo hi : Option Expr} {tl th : TO} {pos p2 : Pos}
theorem po_none : PO X none tNoPart := by
 walk_at "z9"
 rw [evalPart_none]
 exact wpAny_pure ⟨none, H, I, .none, h⟩
theorem po_some (h : PE X e te) : PO X (some e) (tPart te) := by
 intro pins s σ H Q I hw
 rw [evalPart_some]
 refine thn (h pins s σ H _ I hw) fun u s1 ⟨x, H1, I1, r1, q1⟩ => ?_
 obtain ⟨i, rfl, q⟩ := q1
 obtain ⟨t, rfl⟩ := r1
 exact ⟨some i, H1, I1, .int i t, q⟩
def SlR (X : Cx) (r : V → Option Int → Option Int → Hp → VK → Prop) : Prop :=
 ∀ (pins : List (Addr × Obj)) (s : Shared) (σ : St) (H : Hp) (x : V) (v vl vu : Value) (lo hi : Option Int) (sl : Addr) (Q : VK), Inv X pins σ H s → RelV x v → s.heap.IsSliceOf sl vl vu .none → IsPart vl lo → IsPart vu hi → r x lo hi H Q →
  ∃ T id, typeLookup (.type T) "__getitem__" = pure (some (.builtin id)) ∧ s.TypeIs v T ∧ wpAny (model X.prog X.w) X.A (getItem v (.ref sl)) (EP X pins σ Q) X.xe s
def tSl (r : V → Option Int → Option Int → Hp → VK → Prop) (te : TE) (tl th : TO) : TE := fun σ H Q => te σ H fun x H1 => tl σ H1 fun l H2 => th σ H2 fun u H3 => r x l u H3 Q
theorem pe_slice {r : V → Option Int → Option Int → Hp → VK → Prop} (hr : SlR X r) (he : PE X e te) (hl : PO X lo tl) (hu : PO X hi th) : PE X (.Subscript e (.Slice lo hi none p2) pos) (tSl r te tl th) := by
 walk_at "z9"
 refine Subscript_ (thn (he pins s σ H _ I h) fun v s1 ⟨x, H1, I1, r1, q1⟩ => ?_)
 refine wpAny_Slice (thn (hl pins s1 σ H1 _ I1 q1) fun vl s2 ⟨l, H2, I2, pl, q2⟩ => thn (hu pins s2 σ H2 _ I2 q2) fun vu s3 ⟨u, H3, I3, pu, q3⟩ => ?_)
 rw [evalPart_none]
 refine wpAny_pure ?_
 have I4 : Inv X pins σ H3 { s3 with heap := s3.heap.push { cls := .type "slice", data := .fields #[vl, vu, .none] } } := I3.kept (t' := s3.toks) fun b ob q => Heap.get?_push_of_some _ q
 obtain ⟨T, id, hT, ht, hg⟩ := hr pins { s3 with heap := s3.heap.push { cls := .type "slice", data := .fields #[vl, vu, .none] } } σ H3 x v vl vu l u s3.heap.objs.size Q I4 r1 (Heap.IsSliceOf.new ..) pl pu q3
 show wpAny (model X.prog X.w) X.A (subscriptTail e (.Slice lo hi none p2) v (.ref s3.heap.objs.size)) (EP X pins σ Q) X.xe { s3 with heap := s3.heap.push { cls := .type "slice", data := .fields #[vl, vu, .none] } }
 exact tail_any (ops := [.ref s3.heap.objs.size, v]) ht hT hg (by with_unfolding_all rfl)
def cutV (xs : List V) (lo hi : Option Int) : List V := (xs.drop (HT.sIx xs.length 0 lo)).take (HT.sIx xs.length xs.length hi - HT.sIx xs.length 0 lo)
theorem cutV_length (xs : List V) (lo hi : Option Int) : (cutV xs lo hi).length ≤ xs.length := by
 unfold cutV
 rw [List.length_take, List.length_drop]
 lia
end
end L2
namespace L2
open PySem PySem.Spec PyProof.Rows
def ixN (n : Nat) (i : Int) : Option Nat := if 0 ≤ i then (if i < n then some i.toNat else none) else if -(n : Int) ≤ i then some (i + n).toNat else none
def atI {α : Type} (xs : List α) (i : Int) : Option α := (ixN xs.length i).bind fun j => xs[j]?
theorem ixN_seq {n : Nat} {i : Int} {j : Nat} (h : ixN n i = some j) : seqIndex? i n = some j ∧ j < n ∧ -(n : Int) ≤ i ∧ i < n := by
 unfold ixN at h
 by_cases h0 : 0 ≤ i
 ·rw [if_pos h0] at h
  by_cases h1 : i < n
  ·rw [if_pos h1] at h
   have e : i.toNat = j := Option.some.inj h
   exact ⟨by rw [seqIndex_of h0 h1, e], by lia, by lia, h1⟩
  ·rw [if_neg h1] at h; cases h
 ·rw [if_neg h0] at h
  by_cases h1 : -(n : Int) ≤ i
  ·rw [if_pos h1] at h
   have e : (i + n).toNat = j := Option.some.inj h
   exact ⟨by rw [seqIndex_neg (by lia) h1, e], by lia, h1, by lia⟩
  ·rw [if_neg h1] at h; cases h
theorem atI_get {α : Type} {xs : List α} {i : Int} {v : α} (h : atI xs i = some v) : ∃ j, seqIndex? i xs.length = some j ∧ xs[j]? = some v ∧ j < xs.length ∧ -(xs.length : Int) ≤ i ∧ i < xs.length := by
 unfold atI at h
 cases e : ixN xs.length i with
 | none => rw [e] at h; cases h
 | some j =>
   rw [e] at h
   obtain ⟨h1, h2, h3, h4⟩ := ixN_seq e
   exact ⟨j, h1, h, h2, h3, h4⟩
theorem atI_nat {α : Type} {xs : List α} {j : Nat} {v : α} (h : xs[j]? = some v) : atI xs (j : Int) = some v := by
 have hj : j < xs.length := (List.getElem?_eq_some_iff.mp h).1
 have e : ixN xs.length (j : Int) = some j := by
  unfold ixN
  rw [if_pos (by lia), if_pos (by lia)]; simp
 unfold atI; rw [e]; exact h
def PlainIx (b : Expr) : Prop := ∀ o i, subscripted b false o i = operate [o, i] (getItem o i)
def IxR (X : Cx) (r : R2) : Prop :=
 ∀ (value slice : Expr) (pins : List (Addr × Obj)) (s : Shared) (σ : St) (H : Hp) (x y : V) (v u : Value) (Q : VK), Inv X pins σ H s → RelV x v → RelV y u → r x y H Q →
  subscripted slice false v u = operate [v, u] (getItem v u) → wpAny (model X.prog X.w) X.A (subscriptTail value slice v u) (EP X pins σ Q) X.xe s
def MtR (X : Cx) (id : String) (r : V → List V → Hp → VK → Prop) : Prop :=
 ∀ (pins : List (Addr × Obj)) (s : Shared) (σ : St) (H : Hp) (x : V) (xs : List V) (v : Value) (us : List Value) (Q : VK), Inv X pins σ H s → RelV x v → Vals xs us → r x xs H Q →
  wpAny (model X.prog X.w) X.A (call (.builtin id) (v :: us)) (EP X pins σ Q) X.xe s
section
variable {X : Cx} {a b : Expr} {ta tb : TE} {pos : Pos}
theorem IxR.or {r r' : R2} (h : IxR X r) (h' : IxR X r') : IxR X (fun x y H Q => r x y H Q ∨ r' x y H Q) := by
 intro value slice pins s σ H x y v u Q I rx ry q hs
 rcases q with q | q
 ·exact h value slice pins s σ H x y v u Q I rx ry q hs
 ·exact h' value slice pins s σ H x y v u Q I rx ry q hs
theorem pe_ix {r : R2} (hr : IxR X r) (ha : PE X a ta) (hb : PE X b tb) (hs : PlainIx b) : PE X (.Subscript a b pos) (tOp r ta tb) := by
 walk_at "z9"
 exact Subscript_ (binT ha hb I h fun v u s2 x y H2 I2 rx ry q => hr a b pins s2 σ H2 x y v u Q I2 rx ry q (hs _ _))
def rIxL (K : PySem.W.Frag) : R2 := fun x y H Q => ∃ p xs i v, x = .ref p ∧ y = .int i ∧ SqL K H p xs ∧ atI xs i = some v ∧ Q v H
def rIxT (K : PySem.W.Frag) : R2 := fun x y H Q => ∃ p xs i v, x = .ref p ∧ y = .int i ∧ SqT K H p xs ∧ atI xs i = some v ∧ Q v H
theorem ix_list : IxR X (rIxL X.K) := by
 intro value slice pins s σ H x y v u Q I rx ry h hs
 obtain ⟨p, xs, i, z, rfl, rfl, hq, he, q⟩ := h
 cases rx
 obtain ⟨t, rfl⟩ := ry
 obtain ⟨its, r, pl, hz⟩ := I.list hq
 obtain ⟨j, h1, h2, h3, h4, h5⟩ := atI_get he
 obtain ⟨w, ew, rw'⟩ := r.get h2
 have hl := r.length
 have hn := line63
 have fin : EP X pins σ Q w s := ⟨z, H, I, rw', q⟩
 by_cases h0 : 0 ≤ i
 ·have hj : i.toNat = j := by
   rw [seqIndex_of h0 h5] at h1
   exact Option.some.inj h1
  exact item_listR pl.isList h0 (by lia) (by rw [hj]; simpa using ew) fin hs
 ·have hj : (i + (its.toArray.size : Int)).toNat = j := by
   rw [seqIndex_neg (by lia) h4] at h1
   rw [List.size_toArray, ← hl]
   exact Option.some.inj h1
  exact subscriptTail_builtinR (x := w) pl.isList.typeIs slot_list_getitem.lookup
   (wpAny_getItem_list_neg (Q := fun r s' => r = w ∧ EP X pins σ Q r s') pl.isList (by lia) (by rw [List.size_toArray] <;> lia) (by lia) (by rw [hj]; simpa using ew) ⟨rfl, fin⟩) hs
theorem ix_tup : IxR X (rIxT X.K) := by
 intro value slice pins s σ H x y v u Q I rx ry h hs
 obtain ⟨p, xs, i, z, rfl, rfl, hq, he, q⟩ := h
 cases rx
 obtain ⟨t, rfl⟩ := ry
 obtain ⟨its, r, pl, hz⟩ := I.tuple hq
 obtain ⟨j, h1, h2, h3, h4, h5⟩ := atI_get he
 obtain ⟨w, ew, rw'⟩ := r.get h2
 have hl := r.length
 have hn := line63
 have fin : EP X pins σ Q w s := ⟨z, H, I, rw', q⟩
 exact subscriptTail_builtinR (x := w) pl.typeIs slot_tuple_getitem.lookup
  (getItem_tuple (j := j) (Q := fun r s' => r = w ∧ EP X pins σ Q r s') pl (by lia) (by lia) (by rw [List.size_toArray, ← hl]; exact h1) (by simpa using ew) ⟨rfl, fin⟩) hs
theorem slice_bounds (lo hi : Option Int) (n : Nat) : (sliceBounds lo hi none n).1 = ((HT.sIx n 0 lo : Nat) : Int) ∧ (sliceBounds lo hi none n).2.1 = ((HT.sIx n n hi : Nat) : Int) ∧ (sliceBounds lo hi none n).2.2 = 1 := by
 refine ⟨?_, ?_, rfl⟩
 ·cases lo with
  | none => simp [sliceBounds, HT.sIx]
  | some i =>
    simp only [sliceBounds, HT.sIx, Option.getD_none, show (1 : Int) > 0 by decide, if_true]
    by_cases h : i < 0
    ·simp only [h, if_true] <;> lia
    ·simp only [h, if_false] <;> lia
 ·cases hi with
  | none => simp [sliceBounds, HT.sIx]
  | some i =>
    simp only [sliceBounds, HT.sIx, Option.getD_none, show (1 : Int) > 0 by decide, if_true]
    by_cases h : i < 0
    ·simp only [h, if_true] <;> lia
    ·simp only [h, if_false] <;> lia
theorem slicePick_cut (its : List Value) (lo hi : Option Int) : slicePick its.toArray lo hi none = ((its.drop (HT.sIx its.length 0 lo)).take (HT.sIx its.length its.length hi - HT.sIx its.length 0 lo)).toArray := by
 obtain ⟨h1, h2, h3⟩ := slice_bounds lo hi its.toArray.size
 unfold slicePick
 rw [h1, h2, h3]
 simp only [sliceRange_one, pick_run, List.size_toArray] <;> rfl
def rSlL (K : PySem.W.Frag) : V → Option Int → Option Int → Hp → VK → Prop := fun x lo hi H Q => ∃ a xs, x = .ref a ∧ SqL K H a xs ∧ ∀ p, H p = none → Q (.ref p) (upd H p (.lst (cutV xs lo hi)))
theorem sl_list : SlR X (rSlL X.K) := by
 intro pins s σ H x v vl vu lo hi sl Q I rx hs pl pu h
 obtain ⟨a, xs, rfl, hx, q⟩ := h
 cases rx
 obtain ⟨its, r, ht, hz⟩ := I.list hx
 have hlen := r.length
 refine ⟨"list", _, slot_list_getitem.lookup, ht.isList.typeIs, ?_⟩
 refine wpAny_getItem_list_slice ht.isList hs pl pu .none (by simp) ?_ (by rw [List.size_toArray] <;> lia)
 rw [slicePick_cut, ← hlen]
 refine ⟨.ref s.heap.objs.size, _, I.laid (t' := s.toks) (o := .lst (cutV xs lo hi)) (fun b ob q => Heap.get?_push_of_some _ q) (Nat.le_refl _) ?_, rfl, q _ (I.hok.fresh (Nat.le_refl _))⟩
 exact ⟨Nat.le_trans (cutV_length xs lo hi) hz, _, 0, (r.drop (HT.sIx xs.length 0 lo)).take (HT.sIx xs.length xs.length hi - HT.sIx xs.length 0 lo), Heap.get?_push_size _ rfl⟩
theorem call_tuple_of : CallR X (.type "tuple") (fun xs H Q => ∃ p ys, xs = [.ref p] ∧ ((SqL X.K H p ys ∧ ∀ l, H l = none → Q (.ref l) (upd H l (.tup ys))) ∨ (SqT X.K H p ys ∧ Q (.ref p) H))) := by
 walk_at "z25"
 obtain ⟨p, ys, rfl, h⟩ := h
 obtain ⟨u, rfl, rx⟩ := vals1 r
 cases rx
 rcases h with ⟨hq, q⟩ | ⟨hq, q⟩
 ·obtain ⟨its, r', pl, hz⟩ := I.list hq
  have hlen := r'.length
  refine call_tuple_list pl.isList (fun h' kp => ?_) (by simp only [List.size_toArray] <;> lia)
  have I1 : Inv X pins σ H { s with heap := h' } := I.kept (t' := s.toks) kp
  have I2 : Inv X pins σ (upd H h'.objs.size (.tup ys)) { s with heap := h'.push { cls := .type "tuple", data := .seq its.toArray } } :=
   I1.laid (t' := s.toks) (fun b o e => Heap.get?_push_of_some _ e) (Nat.le_refl _) (show ObjOk X.prog X.w _ _ _ (.tup ys) from ⟨hz, its, r', IsTup.new _ _⟩)
  exact ⟨.ref h'.objs.size, _, I2, rfl, q _ (I1.hok.fresh (Nat.le_refl _))⟩
 ·obtain ⟨its, r', pl, hz⟩ := I.tuple hq
  exact call_tuple_same pl ⟨.ref p, H, I, rfl, q⟩
def tyV (K : PySem.W.Frag) (T : String) (x : V) (H : Hp) : Prop := match x with
 | .str _ => T = "str"
 | .int _ => T = "int"
 | .ref p => (T = "list" ∧ ∃ xs, SqL K H p xs) ∨ (T = "tuple" ∧ ∃ o, K.lookup p = some o ∧ o.cls = .type "tuple" ∧ o.dict = none) ∨
  (T = "dict" ∧ ((∃ kvs, H p = some (.dK kvs)) ∨ ∃ kvs, H p = some (.dT kvs))) ∨ (T = "set" ∧ ∃ S n, H p = some (.set S n))
 | _ => False
theorem tyV_is {pins : List (Addr × Obj)} {σ : St} {H : Hp} {s : Shared} {T : String} {x : V} {v : Value} (I : Inv X pins σ H s) (r : RelV x v) (ty : tyV X.K T x H) :
 s.TypeIs v T ∧ ∀ a, v = .ref a → ∃ ob, s.heap.get? a = some ob ∧ ob.dict = none := by
 cases x with
 | str z =>
   obtain ⟨t, rfl⟩ := r
   cases (show T = "str" from ty)
   exact ⟨typeIs_str s z t, fun _ e => nomatch e⟩
 | int i =>
   obtain ⟨t, rfl⟩ := r
   cases (show T = "int" from ty)
   exact ⟨typeIs_int s i t, fun _ e => nomatch e⟩
 | ref p =>
   cases r
   rcases ty with ⟨rfl, xs, hq⟩ | ⟨rfl, o, hk, hc, hd⟩ | ⟨rfl, hk⟩ | ⟨rfl, S, n, hk⟩
   ·obtain ⟨its, _, pl, _⟩ := I.list hq
    refine ⟨pl.isList.typeIs, fun a e => ?_⟩
    cases e
    obtain ⟨o, n, e, c, hd, _⟩ := pl
    exact ⟨o, e, hd⟩
   ·refine ⟨⟨o, I.kIn p o hk, hc⟩, fun a e => ?_⟩
    cases e
    exact ⟨o, I.kIn _ o hk, hd⟩
   ·have z : ∃ o, s.heap.get? p = some o ∧ o.ExactDict := by
     rcases hk with ⟨kvs, hk⟩ | ⟨kvs, hk⟩
     ·obtain ⟨_, _, _, _, o, _, _, e, ex, _⟩ := I.hok p _ hk
      exact ⟨o, e, ex⟩
     ·obtain ⟨_, _, _, _, o, _, _, e, ex, _⟩ := I.hok p _ hk
      exact ⟨o, e, ex⟩
    obtain ⟨o, e, ex⟩ := z
    refine ⟨⟨o, e, ex.1⟩, fun a e2 => ?_⟩
    cases e2
    exact ⟨o, e, ex.2.1⟩
   ·obtain ⟨o, _, _, _, e, ex, _⟩ := I.hok p _ hk
    refine ⟨⟨o, e, ex.1⟩, fun a e2 => ?_⟩
    cases e2
    exact ⟨o, e, ex.2.1⟩
 | _ => exact False.elim ty
def tBM0 (K : PySem.W.Frag) (T : String) (r : V → List V → Hp → VK → Prop) (to : TE) : TE := fun σ H Q => to σ H fun x H1 => tyV K T x H1 ∧ r x [] H1 Q
def tBM (K : PySem.W.Frag) (T : String) (r : V → List V → Hp → VK → Prop) (to : TE) (t : TA) : TE := fun σ H Q => to σ H fun x H1 => tyV K T x H1 ∧ t σ H1 fun xs H2 => r x xs H2 Q
variable {o e : Expr} {es : List Expr} {to : TE} {t : TA} {name : Str} {apos cpos : Pos} {T id : String} {r : V → List V → Hp → VK → Prop}
theorem pe_bm0 (pa : PlainAttrs T) (slot : Slot T name id) (hty : typeOf (.builtin id) = pure (.type "method_descriptor")) (hm : MtR X id r) (ho : PE X o to)
 (hbase : attributeBase o name X.env (eval o X.env) = eval o X.env := by rfl) (hline : (apos.endLine == cpos.line) = true := by rfl) : PE X (.Call (.Attribute o name apos) [] [] cpos) (tBM0 X.K T r to) := by
 walk_at "z9"
 refine wpAny_Call_method0_late hbase hline (thn (ho pins s σ H _ I h) fun v s1 ⟨x, H1, I1, r1, ty, q1⟩ => ?_)
 obtain ⟨h1, h2⟩ := tyV_is I1 r1 ty
 exact ⟨T, id, pa, slot, hty, h1, h2, Calls.callWith_builtin rfl (PySem.evalArgs_none (hm pins s1 σ H1 x [] v [] Q I1 r1 .nil q1))⟩
theorem pe_bm (pa : PlainAttrs T) (slot : Slot T name id) (hty : typeOf (.builtin id) = pure (.type "method_descriptor")) (hm : MtR X id r) (ho : PE X o to) (ha : PA X (e :: es) t)
 (hbase : attributeBase o name X.env (eval o X.env) = eval o X.env := by rfl)
 (hfew : ((backTo cpos (starEach (e :: es) X.env)).all (fun x => !x.1) && (backToKw cpos (keywordEach [] X.env)).all (fun x => x.1.isSome)
  && decide ((e :: es).length + ([] : List Keyword).length + (if ([] : List Keyword).isEmpty then 0 else 1) < 30)) = true := by rfl)
 (hline : (apos.endLine == cpos.line) = true := by rfl) (hs : starEach (e :: es) X.env = (false, eval e X.env) :: starEach es X.env := by rfl) (hplain : (backTo cpos (starEach es X.env)).any (·.1) = false := by rfl) :
 PE X (.Call (.Attribute o name apos) (e :: es) [] cpos) (tBM X.K T r to t) := by
 walk_at "z9"
 refine wpAny_Call_method_late hbase hfew hline rfl (thn (ho pins s σ H _ I h) fun v s1 ⟨x, H1, I1, r1, ty, q1⟩ => ?_)
 obtain ⟨h1, h2⟩ := tyV_is I1 r1 ty
 refine ⟨T, id, pa, slot, hty, h1, h2, ?_⟩
 have hA := ha cpos pins s1 σ H1 _ I1 q1
 rw [hs] at hA ⊢
 refine Calls.callWith_builtin (by show (false || (backTo cpos (starEach es X.env)).any (·.1)) = false; rw [hplain] <;> rfl) (Calls.evalArgs_plain ?_)
 exact thn hA fun us s2 ⟨vs, H2, I2, r2, q2⟩ => hm pins s2 σ H2 x vs v us Q I2 r1 r2 q2
end
end L2
namespace L2
open PySem PySem.Spec PyProof.Rows
def MtM (X : Cx) (id : String) (r : V → List V → Hp → VK → Prop) : Prop :=
 ∀ (pins : List (Addr × Obj)) (s : Shared) (σ : St) (H : Hp) (x : V) (xs : List V) (v : Value) (us : List Value) (Q : VK), Inv X pins σ H s → RelV x v → Vals xs us → r x xs H Q →
  wpAny (model X.prog X.w) X.A (call (.builtin id) (v :: us)) (EP X pins σ Q) X.xe s
theorem Vals.one : ∀ {x : V} {us : List Value}, Vals [x] us → ∃ u, us = [u] ∧ RelV x u
 | _, _, .cons r .nil => ⟨_, rfl, r⟩
theorem Vals.zero : ∀ {us : List Value}, Vals [] us → us = []
 | _, .nil => rfl
theorem Vals.dropLast {xs : List V} {us : List Value} (h : Vals xs us) : Vals xs.dropLast us.dropLast := by
 induction h with
 | nil => exact .nil
 | cons r t ih =>
   cases t with
   | nil => exact .nil
   | cons q t' => exact .cons r ih
theorem Vals.rep {xs : List V} {us : List Value} (h : Vals xs us) : ∀ k : Nat, Vals (List.replicate k xs).flatten (List.replicate k us).flatten
 | 0 => .nil
 | k + 1 => by
   rw [List.replicate_succ, List.replicate_succ, List.flatten_cons, List.flatten_cons]
   exact Vals.append h (Vals.rep h k)
theorem erase_last {α : Type} (l : List α) : l.eraseIdx (l.length - 1) = l.dropLast := by
 induction l with
 | nil => rfl
 | cons a r ih =>
   cases r with
   | nil => rfl
   | cons b r =>
     have e : (a :: b :: r).length - 1 = ((b :: r).length - 1) + 1 := by
      have h1 : (a :: b :: r).length = r.length + 2 := rfl
      have h2 : (b :: r).length = r.length + 1 := rfl
      lia
     rw [e, List.eraseIdx_cons_succ, ih]
     all_goals rfl
theorem foldl_rep (its : List Value) : ∀ (k : Nat) (acc : List Value),
 List.foldl (fun x1 x2 => x1 ++ x2) acc.toArray (List.replicate k its.toArray) = (acc ++ (List.replicate k its).flatten).toArray
 | 0, acc => by simp
 | k + 1, acc => by
   have e : acc.toArray ++ its.toArray = (acc ++ its).toArray := by simp
   have e2 : (acc ++ its) ++ (List.replicate k its).flatten = acc ++ (List.replicate (k + 1) its).flatten := by
    rw [List.replicate_succ, List.flatten_cons, List.append_assoc]
   rw [← e2, ← foldl_rep its k (acc ++ its), ← e, List.replicate_succ, List.foldl_cons]
section
variable {X : Cx} {pins : List (Addr × Obj)} {σ : St} {H : Hp} {s : Shared} {l b : Addr} {xs ys zs : List V}
theorem Inv.lset {its its' : List Value} {n : Nat} {f : Array Value → Array Value} {t' : Nat} (I : Inv X pins σ H s) (hH : H l = some (.lst xs))
 (e : s.heap.get? l = some { cls := .type "list", data := .seq its.toArray n }) (hf : f its.toArray = its'.toArray) (hv : Vals ys its') (hz : ys.length ≤ sizeLine) :
 Inv X pins σ (upd H l (.lst ys)) { s with heap := s.heap.update l (Obj.mapSeq f), toks := t' } := by
 have q := PySem.IsL.update e f
 rw [hf] at q
 refine I.write (x := l) (e := l) (by rw [hH]; exact trivial) (.inl rfl) (fun b' u hb hu => (Heap.get?_update_other s.heap (Obj.mapSeq f) (Ne.symm hb)).trans hu) ⟨_, q⟩ ?_
 exact ⟨hz, its', _, hv, q⟩
theorem Inv.lnew {its : List Value} {t' : Nat} (I : Inv X pins σ H s) (hv : Vals ys its) (hz : ys.length ≤ sizeLine) :
 Inv X pins σ (upd H s.heap.objs.size (.lst ys)) { s with heap := s.heap.push { cls := .type "list", data := .seq its.toArray }, toks := t' } :=
 I.laid (fun _ _ q => Heap.get?_push_of_some _ q) (Nat.le_refl _) ⟨hz, its, 0, hv, Heap.get?_push_size _ rfl⟩
theorem Inv.fresh (I : Inv X pins σ H s) : H s.heap.objs.size = none := I.hok.fresh (Nat.le_refl _)
theorem Inv.lstM (I : Inv X pins σ H s) (hH : H l = some (.lst xs)) : xs.length ≤ sizeLine ∧ ∃ (its : List Value) (n : Nat), Vals xs its ∧ xs.length = its.length ∧ s.heap.get? l = some { cls := .type "list", data := .seq its.toArray n } := by
 obtain ⟨z, its, n, r, e⟩ := I.hok l _ hH
 exact ⟨z, its, n, r, r.length, e⟩
theorem notLongL {n : Nat} (h : n ≤ sizeLine) : Builtin.List.listTooLong n = false := by
 unfold Builtin.List.listTooLong
 exact decide_eq_false (by lia)
end
section
variable {X : Cx}
def rAppend : V → List V → Hp → VK → Prop := fun x vs H Q => ∃ l xs y, x = .ref l ∧ vs = [y] ∧ H l = some (.lst xs) ∧ xs.length < sizeLine ∧ Q .non (upd H l (.lst (xs ++ [y])))
theorem mt_append : MtM X "list.append" rAppend := by
 intro pins s σ H x vs v us Q I rx rv h
 obtain ⟨l, xs, y, rfl, rfl, hH, hz, q⟩ := h
 cases rx
 obtain ⟨u, rfl, ru⟩ := rv.one
 obtain ⟨z, its, n, r, hl, e⟩ := I.lstM hH
 refine call_meets F.slot_list_append ⟨_, e, rfl⟩ F.entry_list_append (F.args_list_append_2 _ _) (PySem.list_append l its.toArray n u (by rw [List.size_toArray]; lia)) ⟨e, ?_⟩
 refine ⟨.non, _, I.lset (its' := its ++ [u]) hH e (by simp) (r.append (.cons ru .nil)) ?_, rfl, q⟩
 rw [List.length_append, List.length_singleton]
 lia
def rPop : V → List V → Hp → VK → Prop := fun x vs H Q => ∃ l xs y, x = .ref l ∧ vs = [] ∧ H l = some (.lst xs) ∧ xs[xs.length - 1]? = some y ∧ Q y (upd H l (.lst xs.dropLast))
theorem mt_pop : MtM X "list.pop" rPop := by
 intro pins s σ H x vs v us Q I rx rv h
 obtain ⟨l, xs, y, rfl, rfl, hH, hy, q⟩ := h
 cases rx
 have hus := rv.zero
 subst hus
 obtain ⟨z, its, n, r, hl, e⟩ := I.lstM hH
 obtain ⟨u, hu, ru⟩ := r.get hy
 have hy' : its.toArray[its.toArray.size - 1]? = some u := by
  show its.toArray[its.length - 1]? = some u
  rw [← Array.getElem?_toList, ← hl]
  exact hu
 refine call_meets F.slot_list_pop ⟨_, e, rfl⟩ F.entry_list_pop (F.args_list_pop_1 _) (MeetsSeq.list_pop_last l its.toArray n u hy' (by rw [List.size_toArray]; lia)) ⟨e, ?_⟩
 refine ⟨y, _, I.lset (its' := its.dropLast) hH e ?_ r.dropLast ?_, ru, q⟩
 ·show its.toArray.eraseIdxIfInBounds (its.toArray.size - 1) = its.dropLast.toArray
  rw [List.size_toArray, List.eraseIdxIfInBounds_toArray, erase_last]
 ·rw [List.length_dropLast]
  lia
def rCat : R2 := fun x y H Q => ∃ l b xs zs, x = .ref l ∧ y = .ref b ∧ H l = some (.lst xs) ∧ H b = some (.lst zs) ∧ xs.length + zs.length ≤ sizeLine ∧ ∀ p, H p = none → Q (.ref p) (upd H p (.lst (xs ++ zs)))
theorem op_cat : OpR X (binaryOp .Add) rCat := by
 intro pins s σ H x y v u Q I rx ry h
 obtain ⟨l, b, xs, zs, rfl, rfl, hH, hB, hz, q⟩ := h
 cases rx
 cases ry
 obtain ⟨z, its, n, r, hl, e⟩ := I.lstM hH
 obtain ⟨z2, its2, n2, r2, hl2, e2⟩ := I.lstM hB
 refine PySem.P.add_list e e2 ?_ (by rw [List.size_toArray, List.size_toArray]; lia)
 have ea : its.toArray ++ its2.toArray = (its ++ its2).toArray := by simp
 rw [ea]
 exact ⟨.ref _, _, I.lnew (t' := s.toks) (r.append r2) (by rw [List.length_append]; lia), rfl, q _ I.fresh⟩
def rRep : R2 := fun x y H Q => ∃ l k xs, x = .ref l ∧ y = .int k ∧ H l = some (.lst xs) ∧ -(2 ^ 63) ≤ k ∧ k < 2 ^ 63 ∧ xs.length * k.toNat ≤ sizeLine ∧
 ∀ p, H p = none → Q (.ref p) (upd H p (.lst (List.replicate k.toNat xs).flatten))
theorem len_rep {α : Type} (xs : List α) (k : Nat) : (List.replicate k xs).flatten.length = k * xs.length := by
 induction k with
 | zero => simp
 | succ k ih => rw [List.replicate_succ, List.flatten_cons, List.length_append, ih, Nat.succ_mul, Nat.add_comm]
theorem op_rep : OpR X (binaryOp .Mult) rRep := by
 intro pins s σ H x y v u Q I rx ry h
 obtain ⟨l, k, xs, rfl, rfl, hH, h1, h2, hz, q⟩ := h
 cases rx
 obtain ⟨t, rfl⟩ := ry
 obtain ⟨z, its, n, r, hl, e⟩ := I.lstM hH
 have hlen : its.toArray.size * k.toNat ≤ sizeLine := by rw [List.size_toArray, ← hl]; exact hz
 have hcap : ¬ its.toArray.size * k.toNat > (2 ^ 63 - 1) / 8 := by
  have : (sizeLine : Nat) ≤ (2 ^ 63 - 1) / 8 := by decide
  lia
 have hfit : ¬ (!Builtin.List.listFitsIndex k) = true := by
  rw [fitsIndex_both h1 h2]
  exact Bool.false_ne_true
 have hlong : ¬ Builtin.List.listTooLong (its.toArray.size * k.toNat) = true := by
  rw [notLongL hlen]
  exact Bool.false_ne_true
 have hnew : List.foldl (fun x1 x2 => x1 ++ x2) #[] (List.replicate (if its.toArray.isEmpty = true then 0 else k.toNat) its.toArray) = (List.replicate k.toNat its).flatten.toArray := by
  have f0 : ∀ m : Nat, List.foldl (fun x1 x2 => x1 ++ x2) #[] (List.replicate m its.toArray) = (List.replicate m its).flatten.toArray := fun m => by
   have := foldl_rep its m []
   rw [List.nil_append] at this
   exact this
  rw [f0]
  cases its with
  | nil => simp
  | cons a r' => rw [if_neg (by simp)]
 refine wpAny_binaryOp_repeat_ref (T := "list") (U := "int") (by decide) ⟨_, e, rfl⟩ (fun s' => typeIs_int s' k t) noFill_list_mul F.fills_int_mul F.slot_int_rmul repeat_list F.slot_int_index.lookup
  (call_meets F.slot_int_rmul (typeIs_int s k t) F.entry_int_rmul (F.args_int_rmul_2 _ _) (int___rmul___int_list k t l its.toArray n)
   ⟨e, rfl, ⟨_, e, rfl⟩, call_meets F.slot_list_mul ⟨_, e, rfl⟩ F.entry_list_mul (F.args_list_mul_2 _ _) (AutoListH.list___mul___list_int_3 l its.toArray n k t hfit hcap hlong) ⟨e, ?_⟩⟩)
 rw [hnew]
 exact ⟨.ref _, _, I.lnew (t' := s.toks) (r.rep k.toNat) (by rw [len_rep, Nat.mul_comm]; exact hz), rfl, q _ I.fresh⟩
end
section
variable {prog : Program} {w : World} {A : Around} {E : Value → Shared → Prop} {s : Shared}
end
section
variable {X : Cx}
end
end L2
namespace Att
open PySem PySem.W PySem.Calls PyProof.Rows
theorem ints_of_wellAll {P : Params} {h : Heap} : ∀ (ns : List Int) (vs : List Value), WellAll P h vs (ns.map WData.int) → IntsAre vs ns := by
 intro ns
 induction ns with
 | nil =>
   intro vs w
   rw [List.map_nil] at w
   cases w
   exact .nil
 | cons n ns ih =>
   intro vs w
   rw [List.map_cons] at w
   cases w with
   | cons a b =>
     cases a
     exact .cons _ _ (ih _ b)
theorem script_of {l : OpenLaw} {n : Nat} (hn : l.most = some n) {P : Params} {h : Heap} {args : List WData} {vals : List Value}
 (hpre : l.row.toRowW.claim.pre args = true) (hwl : WellAll P h vals args) :
 ∃ a vs ns, vals = [Value.ref a] ∧ args = [WData.list (ns.map WData.int)] ∧ h.get? a = some { cls := .type "list", data := .seq vs.toArray } ∧ IntsAre vs ns ∧ ns.length ≤ n := by
 have hsh : WShape.hasAll [] args [.list .int] = true := (pre_splitW hpre).1
 have hc : l.pre.holds [] { args := args } = true := (pre_splitW hpre).2
 obtain ⟨d, r, rfl, h1, h2⟩ := hasAllW_cons hsh
 obtain rfl := hasAllW_nil h2
 obtain ⟨xs, rfl, h3⟩ := hasW_list h1
 obtain ⟨ns, rfl⟩ := items_int h3
 have hlen : ns.length ≤ n := by
  unfold OpenLaw.pre at hc
  have h4 : (WTm.not (.lt (.lit (.int (n : Int))) (.len (.arg 0)))).holds [] { args := [.list (ns.map .int)] } = true := by
   have h4 := (holds_andW hc).1
   rw [hn] at h4
   exact h4
  have h5 := condW_of h4 (w_not (w_lt w_lit (w_len_list (w_arg rfl))))
  rw [List.length_map] at h5
  refine Nat.le_of_not_lt fun q => ?_
  have q' : (n : Int) < ((ns.length : Nat) : Int) := by lia
  first
   | (rw [decide_eq_true q'] at h5; exact absurd h5 (by decide))
   | (simp at h5; lia)
 cases hwl with
 | cons w1 w2 =>
   cases w2
   cases w1 with
   | list ho hall => exact ⟨_, _, ns, rfl, rfl, ho, ints_of_wellAll ns _ hall, hlen⟩
theorem post_true (l : OpenLaw) (args : List WData) : l.row.toRowW.claim.post args (.bool true) args = true :=
 postW_of (r := l.row.toRowW) (X := (true == true))
  (show WShape.has [] (.bool true) .bool = true by first | rfl | decide | simp [WShape.has, WShape.arms, WShape.armsAll])
  (show (WTm.eq .res (.lit (.bool true))).value [] { args := args, res := some (.bool true), after := args } = some (.bool (true == true)) from w_eq_bool (w_res rfl) w_lit) rfl
theorem attach_call {l : OpenLaw} {n : Nat} {q : Program} {loose : List Str} {XP : (Str → Option Value) → Heap → Prop} {YP : World → Heap → Prop} {d : DefRec}
 (hn : l.most = some n) (hdf : d.params.defaults = [])
 (call : ∀ (w : World) (s₀ s₁ : Shared) (mg mb : Str → Option Value) (fa : Addr) (o : Obj) (pm cd doc : Value) (a : Addr) (vs : List Value) (ns : List Int),
  Ground q loose [] XP w s₀ mg mb s₁.heap → YP w s₁.heap →
  s₁.heap.get? fa = some o → o.data = .func (docDef d.name d.params d.body d.scope pm cd doc) → s₁.heap.CodeRec cd d.name → mg d.name = some (.ref fa) →
  s₁.heap.get? a = some { cls := .type "list", data := .seq vs.toArray } → IntsAre vs ns → ns.length ≤ n → s₁.gens = #[] →
  codeAny (model l.prog w) callerA (.call (.ref fa) ⟨[.ref a], []⟩) (fun r s' => r = .ok (.ret (.bool true)) ∧ OldK s₁.heap s'.heap ∧ s'.os = s₁.os ∧ AllBare s'.gens) s₁) :
 WalkO q loose XP YP l.row.toRowW d [] (fun f vs => PySem.call f vs) := by
 intro w s₀ s₁ mg mb G Y fa o pm cd doc dV kV ho hd hcd hD hmg hg args vals as hpre hlay hrd hwl hlo
 obtain rfl : dV = .none := Dflts.none hD hdf
 obtain rfl : kV = .none := Dflts.noKw hD
 obtain ⟨a, vs, ns, rfl, rfl, hobj, hints, hlen⟩ := script_of hn hpre hwl
 refine enter_call (codeAny_mono (call w s₀ s₁ mg mb fa o pm cd doc a vs ns G Y ho (fd_plain hd) hcd hmg hobj hints hlen hg) fun r s' hq => ?_)
 obtain ⟨rfl, h2, h3, h4⟩ := hq
 exact ⟨.inl ⟨.bool true, .bool true, [], rfl, fun _ => rfl, .bool true, post_true l _, fun _ => ⟨List.Pairwise.nil, fun _ hm => (nomatch hm)⟩⟩, h2, h3, h4⟩
section
variable {prog : Program} {w : World} {A : Around} {E : Value → Shared → Prop} {s : Shared} {K : Frag}
end
end Att
namespace L2
open PySem PySem.Spec PyProof.Rows
theorem vals_ints : ∀ {vs : List Value} {ns : List Int}, IntsAre vs ns → Vals (ns.map V.int) vs
 | _, _, .nil => .nil
 | _, _, .cons n t h => .cons ⟨t, rfl⟩ (vals_ints h)
def Only (H : Hp) : Prop := ∀ b, H b = none ∨ ∃ o xs, H b = some (.frz o (.lst xs))
theorem law_call {P : Program} {w : World} {K : PySem.W.Frag} {mg mb : Str → Option Value} {CX : CXT} {k : Nat} {fa a : Addr} {fd : FuncData} {x : Str} {sp : Sp} {s₁ : Shared} {vs : List Value} {ns : List Int}
 (KX : K.In s₁.heap) (hns : s₁.heap.Ns mainGlobals mg) (hb : s₁.heap.Ns builtinsNs mb) (hbb : ∀ x : Str, x ≠ "__name__" → mb x = bootBuiltins x) (hlim : s₁.heap.NoLimit) (hg : s₁.gens = #[])
 (ha : s₁.heap.get? a = some { cls := .type "list", data := .seq vs.toArray }) (hi : IntsAre vs ns) (hl : ns.length ≤ sizeLine) (hr : Room k callerA)
 (F : ∀ base : Heap, K.In base → base.Ns mainGlobals mg → FnOk P w K mg base CX k fa fd [x] sp) (hbind : ∀ (s : Shared) (u : Value), BindsTo s fd ⟨[u], []⟩ [(x, u)])
 (hsp : ∀ H : Hp, Only H → SqL K H a (ns.map V.int) → sp [.ref a] H (fun v _ => v = .bl true) fun _ _ _ => False)
 (hCX : ∀ H e s', CX [] H s₁ (fun _ _ _ => False) e s' → False) :
 codeAny (model P w) callerA (.call (.ref fa) ⟨[.ref a], []⟩) (fun r s' => r = .ok (.ret (.bool true)) ∧ OldK s₁.heap s'.heap ∧ s'.os = s₁.os ∧ AllBare s'.gens) s₁ := by
 have rv := vals_ints hi
 have lenV := hi.length
 have core : ∀ H : Hp, Only H → SqL K H a (ns.map V.int) → HOk P w H s₁.heap → (∀ b, H b ≠ none → b = a) → (H a ≠ none → K.lookup a = none) →
  codeAny (model P w) callerA (.call (.ref fa) ⟨[.ref a], []⟩) (fun r s' => r = .ok (.ret (.bool true)) ∧ OldK s₁.heap s'.heap ∧ s'.os = s₁.os ∧ AllBare s'.gens) s₁ := by
  intro H hO hS hok hA hK
  have base_of : ∀ {b : Addr} {o : Obj}, s₁.heap.get? b = some o → H b = none → (hidT s₁.heap H).get? b = some o := fun e n => hidT_get e n
  have noA : ∀ {b : Addr} {o : Obj} {es : Array DictEntry} {ep : Nat}, s₁.heap.get? b = some o → o.data = .dict es ep → H b = none := fun {b o es ep} e d => by
   cases q : H b with
   | none => rfl
   | some u =>
     have e' : b = a := hA b (by rw [q]; simp)
     subst e'
     rw [ha] at e; cases e
     have d' : Data.seq vs.toArray _ = Data.dict es ep := d
     cases d'
  have nsK : ∀ {b : Addr} {m : Str → Option Value}, s₁.heap.Ns b m → (hidT s₁.heap H).Ns b m := fun {b m} ⟨o, es, ep, e, d, r⟩ => ⟨o, es, ep, base_of e (noA e d), d, r⟩
  have hKb : K.In (hidT s₁.heap H) := fun b o e => base_of (KX b o e) (by
   cases q : H b with
   | none => rfl
   | some u =>
     have e' : b = a := hA b (by rw [q]; simp)
     subst e'
     rw [hK (by rw [q]; simp)] at e; cases e)
  have hM : Mod K mg (hidT s₁.heap H) := ⟨hKb, nsK hns, ⟨mb, nsK hb, hbb⟩, let ⟨mc, h1, h2⟩ := hlim; ⟨mc, nsK h1, h2⟩⟩
  have e0 : Env0 P w K mg (hidT s₁.heap H) callerA [] s₁ H := ⟨rfl, hM, fun b o e => of_hidT e, Nat.le_of_eq (hidT_size _ _), trivial, fun b hb => absurd (show b ∈ ([] : List Addr) from hb) (by simp), hok, .of_eq hg⟩
  refine codeAny_mono ((F _ hKb (nsK hns)).run callerA [] s₁ H ⟨[.ref a], []⟩ [.ref a] [.ref a] _ _ hr e0 (hbind s₁ (.ref a)) (.cons rfl .nil) (hsp H hO hS)) fun r s' h => ?_
  cases r with
  | error e => exact (hCX H e s' h).elim
  | ok fl =>
    cases fl with
    | next => exact False.elim h
    | brk => exact False.elim h
    | cont => exact False.elim h
    | ret u =>
      obtain ⟨v, H', os, bare, un, hok', r', q⟩ := h
      have q' : v = .bl true := q
      subst q'
      obtain rfl : u = Value.bool true := r'
      refine ⟨rfl, OldK.of_keep fun b o e => ?_, os, bare⟩
      cases q : H b with
      | none => exact un.keep b o e q (by intro z; exact absurd (show b ∈ ([] : List Addr) from z) (by simp)) (by simp)
      | some u =>
        rcases hO b with z | ⟨ob, xs, z⟩
        ·rw [q] at z; cases z
        ·have z2 := un.frzs b ob _ z
         obtain ⟨e1, _⟩ := hok b _ z
         obtain ⟨e2, _⟩ := hok' b _ z2
         rw [e] at e1; cases e1
         exact e2
 cases hk : K.lookup a with
 | some o =>
   have e := KX a o hk
   rw [ha] at e
   cases e
   refine core (fun _ => none) (fun _ => .inl rfl) (.inr ⟨_, vs.toArray, _, hk, rfl, rfl, rfl, by rw [List.size_toArray, lenV]; exact hl, by simpa using rv⟩) (fun b u z => by have z' : (none : Option HO) = some u := z; cases z') (fun b z => absurd rfl z) fun z => absurd rfl z
 | none =>
   refine core (fun b => if b = a then some (.frz { cls := .type "list", data := .seq vs.toArray } (.lst (ns.map V.int))) else none) (fun b => ?_) (.inl (.inr ⟨{ cls := .type "list", data := .seq vs.toArray }, if_pos rfl⟩)) (fun b u z => ?_) (fun b z => ?_) fun _ => hk
   ·by_cases hb : b = a
    ·exact .inr ⟨_, _, if_pos hb⟩
    ·exact .inl (if_neg hb)
   ·by_cases hb : b = a
    ·have z' := (if_pos hb).symm.trans z
     cases z'
     subst hb
     exact ⟨ha, by rw [List.length_map]; exact hl, vs, _, rv, ha⟩
    ·have z' := (if_neg hb).symm.trans z
     cases z'
   ·by_cases hb : b = a
    ·exact hb
    ·exact absurd (if_neg hb) z
end L2
namespace L2
open PySem PySem.Spec PyProof.Rows
theorem walk_of {l : PySem.W.OpenLaw} {n k : Nat} {q : Program} {loose : List Str} {XP : (Str → Option Value) → Heap → Prop} {YP : World → Heap → Prop} {d : DefRec} {K : Params → PySem.W.Frag} {CX : World → CXT} {sp : World → Sp} {x : Str}
 (hn : l.most = some n) (hn2 : n ≤ sizeLine) (hdf : d.params.defaults = []) (hr : Room k callerA)
 (hY : ∀ (w : World) (h : Heap), YP w h → (K w.params).In h)
 (F : ∀ (w : World) (mg : Str → Option Value) (fa : Addr) (h : Heap), (K w.params).In h → h.Ns mainGlobals mg → mg d.name = some (.ref fa) →
  ∃ fd : FuncData, (∀ (s : Shared) (u : Value), BindsTo s fd ⟨[u], []⟩ [(x, u)]) ∧
   ∀ base : Heap, (K w.params).In base → base.Ns mainGlobals mg → FnOk l.prog w (K w.params) mg base (CX w) k fa fd [x] (sp w))
 (hsp : ∀ (w : World) (H : Hp) (a : Addr) (ns : List Int), ns.length ≤ n → Only H → SqL (K w.params) H a (ns.map V.int) → sp w [.ref a] H (fun v _ => v = .bl true) fun _ _ _ => False)
 (hCX : ∀ (w : World) (H : Hp) (s : Shared) (e : Value) (s' : Shared), CX w [] H s (fun _ _ _ => False) e s' → False) :
 PySem.W.WalkO q loose XP YP l.row.toRowW d [] (fun f vs => PySem.call f vs) := by
 refine Att.attach_call hn hdf fun w s₀ s₁ mg mb fa o pm cd doc a vs ns G Y ho hd hcd hmg hobj hints hlen hg => ?_
 have KX := hY w _ Y
 obtain ⟨fd, hb, hF⟩ := F w mg fa _ KX G.T.g hmg
 exact law_call KX G.T.g G.T.b G.T.builtins G.T.nolimit hg hobj hints (Nat.le_trans hlen hn2) hr hF hb (fun H hO hS => hsp w H a ns hlen hO hS) fun H e s' => hCX w H s₁ e s'
end L2
namespace L2
open PySem PySem.Spec PyProof.Rows
def defArgs (s : Stmt) : Arguments := match s with
 | .FunctionDef _ a _ _ _ _ _ _ _ _ => a
 | _ => { posonlyargs := [], args := [], vararg := none, kwonlyargs := [], kw_defaults := [], kwarg := none, defaults := [] }
def defBody (s : Stmt) : List Stmt := match s with
 | .FunctionDef _ _ b _ _ _ _ _ _ _ => b
 | _ => []
def defScope (s : Stmt) : Scope := match s with
 | .FunctionDef _ _ _ _ _ _ sc _ _ _ => sc
 | _ => { kind := .function, names := [], isGenerator := false, isCoroutine := false }
abbrev CX0 : CXT := fun _ _ _ _ _ _ => False
abbrev E0 : XK := fun _ _ _ => False
theorem pass0 {X : Cx} : Passes CX0 X E0 := fun _ _ _ _ _ _ _ h => h.elim
structure Fun (K : PySem.W.Frag) (x qual : Str) (st : Stmt) (f : Addr) (fd : FuncData) : Prop where
 ex : ∃ (oc : Value) (od : Option Addr) (kV doc pm : Value) (an : Option Addr) (cdv ct : Value) (osl : Array (Option Value)),
  fd = PySem.W.fnOf x qual (defArgs st) (defBody st) (defScope st) .none kV doc pm an cdv ct ∧ K.lookup f = some ⟨oc, od, .func fd, osl⟩ ∧ PySem.W.codeIn K cdv qual = true
 kp : PySem.W.keepIn K (.ref f) = true
section
variable {P : Program} {w : World} {K : PySem.W.Frag} {mg : Str → Option Value} {base : Heap}
theorem Fun.ok {x qual : Str} {st : Stmt} {f : Addr} {fd : FuncData} {N ps : List Str} {k : Nat} {sp : Sp} (F : Fun K x qual st f fd) (S : FnScope N ps (defScope st)) (len : ∀ vs H Q E, sp vs H Q E → vs.length = ps.length)
 (hbody : ∀ (cdv : Value) (A : Around) (outer : List Env) (s : Shared) (H : Hp) (vs : List V) (Q : VK) (E : XK), Room k (A.deeper (envOfC qual (defScope st) s.heap.objs.size f cdv)) → sp vs H Q E →
  ∃ t, PSs (cxOf CX0 P w K mg base N qual (defScope st) f cdv A outer s H E).nox (defBody st) t ∧ t { nx := fun _ H' => Q .non H', rt := Q } (start N vs) H) : FnOk P w K mg base CX0 (k + 1) f fd ps sp := by
 obtain ⟨oc, od, kV, doc, pm, an, cdv, ct, osl, rfl, lk, hcd⟩ := F.ex
 refine fn_of lk hcd S len fun A outer s H vs Q E hr hsp => ?_
 obtain ⟨t, h, q⟩ := hbody cdv A outer s H vs Q E hr hsp
 exact ⟨t, h.nox, q⟩
theorem Fun.binds {x qual : Str} {st : Stmt} {f : Addr} {fd : FuncData} {ps : List Str} (F : Fun K x qual st f fd)
 (h : ∀ (kV doc pm : Value) (an : Option Addr) (cdv ct : Value) (us : List Value), us.length = ps.length → bindArgs (PySem.W.fnOf x qual (defArgs st) (defBody st) (defScope st) .none kV doc pm an cdv ct) ⟨us, []⟩ = pure (ps.zip us)) : Binds K fd ps [] := by
 obtain ⟨oc, od, kV, doc, pm, an, cdv, ct, osl, rfl, lk, hcd⟩ := F.ex
 exact .all (h kV doc pm an cdv ct)
theorem fun_mk {x qual : Str} {st : Stmt} {f : Addr} {oc : Value} {od an : Option Addr} {osl : Array (Option Value)} {kV doc pm cdv ct : Value} (l : K.lookup f = some ⟨oc, od, .func (PySem.W.fnOf x qual (defArgs st) (defBody st) (defScope st) .none kV doc pm an cdv ct), osl⟩)
 (c : PySem.W.codeIn K cdv qual = true) (k : PySem.W.keepIn K (.ref f) = true) : Fun K x qual st f (PySem.W.fnOf x qual (defArgs st) (defBody st) (defScope st) .none kV doc pm an cdv ct) := ⟨⟨oc, od, kV, doc, pm, an, cdv, ct, osl, rfl, l, c⟩, k⟩
end
section
variable {X : Cx}
theorem pv (i : Nat) {x : Str} {pos : Pos} (hN : X.N[i]? = some x := by rfl) (hv : Vis X.env.scope x := by first | exact Or.inl rfl | exact Or.inr (Or.inl rfl) | exact Or.inr (Or.inr rfl)) (hd : (x == ("__debug__" : Str)) = false := by decide)
 (hcd : (x == ("__classdict__" : Str)) = false := by decide) : PE X (.Name x pos) (tVar i) := pe_var hN hv hd hcd
end
theorem iteF {A B : Prop} (h : B) : if false = true then A else B := by
 rw [if_neg Bool.false_ne_true]
 exact h
theorem iteT {A B : Prop} (h : A) : if true = true then A else B := by
 rw [if_pos rfl]
 exact h
def Same (H H' : Hp) : Prop := ∀ b o, H b = some o → H' b = some o
theorem Same.refl (H : Hp) : Same H H := fun _ _ h => h
theorem Same.trans {H H1 H2 : Hp} (a : Same H H1) (b : Same H1 H2) : Same H H2 := fun c o h => b c o (a c o h)
theorem Same.free {H H' : Hp} (e : Same H H') {l : Addr} (h : H' l = Option.none) : H l = Option.none := by
 cases q : H l with
 | none => rfl
 | some o =>
   rw [e l o q] at h
   cases h
theorem Same.seq {K : PySem.W.Frag} {H H' : Hp} {a : Addr} {xs : List V} (e : Same H H') (h : SqL K H a xs) : SqL K H' a xs := by
 rcases h with (h | ⟨o, h⟩) | h
 ·exact .inl (.inl (e _ _ h))
 ·exact .inl (.inr ⟨o, e _ _ h⟩)
 ·exact .inr h
end L2
namespace L2
open PySem PySem.Spec PyProof.Rows
def PdAt (K : PySem.W.Frag) (H : Hp) : Nat → PyData → V → Prop
 | 0, d, v => match d with
   | .none => v = .non
   | .bool b => v = .bl b
   | .int i => v = .int i
   | .str x => v = .str x ∧ PyData.strOk x = true
   | _ => False
 | n + 1, d, v => match d with
   | .none => v = .non
   | .bool b => v = .bl b
   | .int i => v = .int i
   | .str x => v = .str x ∧ PyData.strOk x = true
   | .list ds => ∃ a xs, v = .ref a ∧ SqL K H a xs ∧ Paired (PdAt K H n) ds xs
   | .tuple ds => ∃ a xs, v = .ref a ∧ SqT K H a xs ∧ Paired (PdAt K H n) ds xs
   | .dict _ => False
section
variable {X : Cx} {pins : List (Addr × Obj)} {σ : St} {H : Hp} {s : Shared}
theorem pd_reads (I : Inv X pins σ H s) : ∀ (n : Nat) (d : PyData) (v : V) (u : Value), PdAt X.K H n d v → RelV v u → ∃ as, Reads s.heap u d as := by
 intro n
 induction n with
 | zero =>
   intro d v u h r
   cases d with
   | none => cases (show v = .non from h); cases (show u = Value.none from r); exact ⟨_, Reads.none⟩
   | bool b => cases (show v = .bl b from h); cases (show u = Value.bool b from r); exact ⟨_, Reads.bool b⟩
   | int i => cases (show v = .int i from h); obtain ⟨t, rfl⟩ := (show ∃ t, u = Value.int i t from r); exact ⟨_, Reads.int i t⟩
   | str x => cases (show v = .str x ∧ _ from h).1; obtain ⟨t, rfl⟩ := (show ∃ t, u = Value.str x t from r); exact ⟨_, Reads.str x t⟩
   | list _ => exact (show False from h).elim
   | tuple _ => exact (show False from h).elim
   | dict _ => exact (show False from h).elim
 | succ n ih =>
   have all : ∀ (ds : List PyData) (xs : List V) (us : List Value), Paired (PdAt X.K H n) ds xs → Vals xs us → ∃ as, ReadsAll s.heap us ds as := by
    intro ds xs us p
    induction p generalizing us with
    | nil => intro r; cases r; exact ⟨_, ReadsAll.nil⟩
    | cons q _ hi =>
      intro r
      cases r with
      | cons r1 rr =>
        obtain ⟨as, h1⟩ := ih _ _ _ q r1
        obtain ⟨bs, h2⟩ := hi _ rr
        exact ⟨_, ReadsAll.cons h1 h2⟩
   intro d v u h r
   cases d with
   | none => cases (show v = .non from h); cases (show u = Value.none from r); exact ⟨_, Reads.none⟩
   | bool b => cases (show v = .bl b from h); cases (show u = Value.bool b from r); exact ⟨_, Reads.bool b⟩
   | int i => cases (show v = .int i from h); obtain ⟨t, rfl⟩ := (show ∃ t, u = Value.int i t from r); exact ⟨_, Reads.int i t⟩
   | str x => cases (show v = .str x ∧ _ from h).1; obtain ⟨t, rfl⟩ := (show ∃ t, u = Value.str x t from r); exact ⟨_, Reads.str x t⟩
   | list ds =>
     obtain ⟨a, xs, rfl, hq, hp⟩ := (show ∃ a xs, v = .ref a ∧ SqL X.K H a xs ∧ Paired (PdAt X.K H n) ds xs from h)
     cases (show u = Value.ref a from r)
     obtain ⟨its, rv, pl, hz⟩ := I.list hq
     obtain ⟨as, ra⟩ := all _ _ _ hp rv
     obtain ⟨o, ho, hc, k, hd⟩ := pl.isList
     exact ⟨_, reads_list_at ho hc hd (by simpa using ra)⟩
   | tuple ds =>
     obtain ⟨a, xs, rfl, hq, hp⟩ := (show ∃ a xs, v = .ref a ∧ SqT X.K H a xs ∧ Paired (PdAt X.K H n) ds xs from h)
     cases (show u = Value.ref a from r)
     obtain ⟨its, rv, pl, hz⟩ := I.tuple hq
     obtain ⟨as, ra⟩ := all _ _ _ hp rv
     obtain ⟨o, ho, hc, k, hd⟩ := (show s.heap.IsTuple a its.toArray from pl)
     exact ⟨_, reads_tuple_at ho hc hd (by simpa using ra)⟩
   | dict _ => exact (show False from h).elim
end
theorem pd_shape {K : PySem.W.Frag} {H : Hp} : ∀ (n : Nat) (d : PyData) (v : V), PdAt K H n d v → d.canLay0 = true ∧ d.depth ≤ n := by
 intro n
 induction n with
 | zero =>
   intro d v h
   cases d with
   | str x => simp [PyData.canLay0, PyData.depth, (show v = .str x ∧ PyData.strOk x = true from h).2]
   | list _ => exact (show False from h).elim
   | tuple _ => exact (show False from h).elim
   | dict _ => exact (show False from h).elim
   | _ => simp [PyData.canLay0, PyData.depth]
 | succ n ih =>
   have all : ∀ (ds : List PyData) (xs : List V), Paired (PdAt K H n) ds xs → PyData.canLayAll0 ds = true ∧ PyData.depthAll ds ≤ n := by
    intro ds xs p
    induction p with
    | nil => simp [PyData.canLayAll0, PyData.depthAll]
    | cons q _ hi =>
      have h1 := ih _ _ q
      simp only [PyData.canLayAll0, PyData.depthAll, h1.1, hi.1, Bool.and_self, true_and]
      have a1 := h1.2
      have a2 := hi.2
      lia
   intro d v h
   cases d with
   | str x => simp [PyData.canLay0, PyData.depth, (show v = .str x ∧ PyData.strOk x = true from h).2]
   | list ds =>
     obtain ⟨a, xs, rfl, hq, hp⟩ := (show ∃ a xs, v = .ref a ∧ SqL K H a xs ∧ Paired (PdAt K H n) ds xs from h)
     have q := all _ _ hp
     have q2 := q.2
     simp only [PyData.canLay0, PyData.depth, q.1, true_and]
     lia
   | tuple ds =>
     obtain ⟨a, xs, rfl, hq, hp⟩ := (show ∃ a xs, v = .ref a ∧ SqT K H a xs ∧ Paired (PdAt K H n) ds xs from h)
     have q := all _ _ hp
     have q2 := q.2
     simp only [PyData.canLay0, PyData.depth, q.1, true_and]
     lia
   | dict _ => exact (show False from h).elim
   | _ => simp [PyData.canLay0, PyData.depth]
def rEqP (K : PySem.W.Frag) : R2 := fun x y H Q => ∃ d e, PdAt K H 9 d x ∧ PdAt K H 9 e y ∧ Q (.bl (PyData.eqv d e)) H
def rNeP (K : PySem.W.Frag) : R2 := fun x y H Q => ∃ d e, PdAt K H 9 d x ∧ PdAt K H 9 e y ∧ Q (.bl (!PyData.eqv d e)) H
section
variable {X : Cx}
theorem pd_shaped {K : PySem.W.Frag} {H : Hp} {d : PyData} {v : V} (h : PdAt K H 9 d v) : SeqAt.shaped d = true := by
 have q := pd_shape 9 d v h
 unfold SeqAt.shaped
 rw [q.1, Bool.true_and]
 exact decide_eq_true (Nat.le_trans q.2 (by decide))
theorem op_eqP (hu : X.A.units + 64 < cLine) : OpR X (compareOp .Eq) (rEqP X.K) := by
 intro pins s σ H x y v u Q I rx ry h
 obtain ⟨d, e, hd, he, q⟩ := h
 obtain ⟨as, ra⟩ := pd_reads I 9 d x v hd rx
 obtain ⟨bs, rb⟩ := pd_reads I 9 e y u he ry
 exact eq_dataH ra rb (pd_shaped hd) (pd_shaped he) hu ⟨.bl _, H, I, rfl, q⟩
theorem op_neP (hu : X.A.units + 64 < cLine) : OpR X (compareOp .NotEq) (rNeP X.K) := by
 intro pins s σ H x y v u Q I rx ry h
 obtain ⟨d, e, hd, he, q⟩ := h
 obtain ⟨as, ra⟩ := pd_reads I 9 d x v hd rx
 obtain ⟨bs, rb⟩ := pd_reads I 9 e y u he ry
 exact ne_dataH ra rb (pd_shaped hd) (pd_shaped he) hu ⟨.bl _, H, I, rfl, q⟩
end
abbrev iL (ns : List Int) : List V := ns.map V.int
theorem paired_ints {K : PySem.W.Frag} {H : Hp} {n : Nat} : ∀ ns : List Int, Paired (PdAt K H n) (ns.map PyData.int) (iL ns)
 | [] => .nil
 | i :: ns => .cons (by cases n <;> exact (rfl : V.int i = V.int i)) (paired_ints ns)
theorem pd_int {K : PySem.W.Frag} {H : Hp} {n : Nat} {i : Int} : PdAt K H n (.int i) (.int i) := by cases n <;> exact (rfl : V.int i = V.int i)
theorem pd_bl {K : PySem.W.Frag} {H : Hp} {n : Nat} {b : Bool} : PdAt K H n (.bool b) (.bl b) := by cases n <;> exact (rfl : V.bl b = V.bl b)
section
variable {K : PySem.W.Frag} {σ : St} {H : Hp} {Q : VK}
theorem i_var {i : Nat} {v : V} (h : σ[i]? = some (some v)) (q : Q v H) : tVar i σ H Q := ⟨v, h, q⟩
theorem i_I0 {g : Int → Int → V} {i j : Int} (q : Q (g i j) H) : rI0 g (.int i) (.int j) H Q := ⟨i, j, rfl, rfl, q⟩
theorem i_U {g : Int → V} {i : Int} (q : Q (g i) H) : rU g (.int i) H Q := ⟨i, rfl, q⟩
theorem beq_dec (i j : Int) : (i == j) = decide (i = j) := by
 by_cases h : i = j <;> simp [h]
theorem i_eqI {i j : Int} (q : Q (.bl (decide (i = j))) H) : rEqP K (.int i) (.int j) H Q := ⟨_, _, pd_int, pd_int, by rw [← beq_dec] at q; simpa [PyData.eqv] using q⟩
theorem i_neI {i j : Int} (q : Q (.bl (!decide (i = j))) H) : rNeP K (.int i) (.int j) H Q := ⟨_, _, pd_int, pd_int, by rw [← beq_dec] at q; simpa [PyData.eqv] using q⟩
end
def rAddP : R2 := fun x y H Q => rI0 (fun i j => .int (i + j)) x y H Q ∨ rCat x y H Q
def rIxP (K : PySem.W.Frag) : R2 := fun x y H Q => rIxL K x y H Q ∨ rIxT K x y H Q
def rMulP : R2 := fun x y H Q => rI CMul (fun i j => .int (i * j)) x y H Q ∨ rRep x y H Q
section
variable {X : Cx}
theorem op_addP : OpR X (binaryOp .Add) rAddP := op_add.or op_cat
theorem op_mulP : OpR X (binaryOp .Mult) rMulP := op_mul.or op_rep
theorem ix_P : IxR X (rIxP X.K) := ix_list.or ix_tup
end
section
variable {K : PySem.W.Frag} {σ : St} {H : Hp} {Q : VK}
theorem i_addI {i j : Int} (q : Q (.int (i + j)) H) : rAddP (.int i) (.int j) H Q := .inl ⟨i, j, rfl, rfl, q⟩
theorem i_addL {a b : Addr} {xs ys : List V} (ha : H a = some (.lst xs)) (hb : H b = some (.lst ys)) (hl : xs.length + ys.length ≤ sizeLine) (q : ∀ p, H p = none → Q (.ref p) (upd H p (.lst (xs ++ ys)))) : rAddP (.ref a) (.ref b) H Q := .inr ⟨a, b, xs, ys, rfl, rfl, ha, hb, hl, q⟩
theorem i_mulI {i j : Int} (c : CMul i j) (q : Q (.int (i * j)) H) : rMulP (.int i) (.int j) H Q := .inl ⟨i, j, rfl, rfl, c, q⟩
theorem atI_ints {ns : List Int} {i : Int} (h0 : 0 ≤ i) (h1 : i < ns.length) : ∃ v, atI (iL ns) i = some (.int v) ∧ ns[i.toNat]? = some v ∧ v ∈ ns := by
 have hl : i.toNat < ns.length := by lia
 refine ⟨ns[i.toNat], ?_, by simp [hl], List.getElem_mem hl⟩
 have := atI_nat (xs := iL ns) (j := i.toNat) (v := .int ns[i.toNat]) (by simp [iL, hl])
 rwa [Int.toNat_of_nonneg h0] at this
theorem i_ixL {p : Addr} {ns : List Int} {i : Int} (h : SqL K H p (iL ns)) (h0 : 0 ≤ i) (h1 : i < ns.length) (q : ∀ v, ns[i.toNat]? = some v → v ∈ ns → Q (.int v) H) : rIxP K (.ref p) (.int i) H Q := by
 obtain ⟨v, e1, e2, e3⟩ := atI_ints h0 h1
 exact .inl ⟨p, _, i, _, rfl, rfl, h, e1, q v e2 e3⟩
theorem i_ixN {p : Addr} {xs : List V} {i : Int} {v : V} (h : SqL K H p xs) (h0 : 0 ≤ i) (e : xs[i.toNat]? = some v) (q : Q v H) : rIxP K (.ref p) (.int i) H Q := by
 have := atI_nat (xs := xs) (j := i.toNat) (v := v) e
 rw [Int.toNat_of_nonneg h0] at this
 exact .inl ⟨p, _, i, _, rfl, rfl, h, this, q⟩
theorem i_ixT {p : Addr} {xs : List V} {i : Int} {v : V} (h : SqT K H p xs) (h0 : 0 ≤ i) (e : xs[i.toNat]? = some v) (q : Q v H) : rIxP K (.ref p) (.int i) H Q := by
 have := atI_nat (xs := xs) (j := i.toNat) (v := v) e
 rw [Int.toNat_of_nonneg h0] at this
 exact .inr ⟨p, _, i, _, rfl, rfl, h, this, q⟩
end
def Callee (P : Program) (w : World) (K : PySem.W.Frag) (mg : Str → Option Value) (base : Heap) (x : Str) (k : Nat) (sp : Sp) : Prop :=
 ∃ f fd ps, FnOk P w K mg base CX0 k f fd ps sp ∧ mg x = some (.ref f) ∧ PySem.W.keepIn K (.ref f) = true ∧ Binds K fd ps []
def Def (K : PySem.W.Frag) (mg : Str → Option Value) (x : Str) (st : Stmt) : Prop := ∃ f fd, Fun K x x st f fd ∧ mg x = some (.ref f)
section
variable {X : Cx} {x : Str} {k : Nat} {sp : Sp} {e : Expr} {es : List Expr} {t : TA} {p pos : Pos}
theorem pe_callN (C : Callee X.prog X.w X.K X.mg X.base x k sp) (hr : Room k X.A) (hg : Gl X x) (ha : PA X (e :: es) t)
 (he : starEach (e :: es) X.env = (false, eval e X.env) :: starEach es X.env := by rfl) (hpl : (backTo pos (starEach es X.env)).any (·.1) = false := by rfl)
 (hdb : (x == ("__debug__" : Str)) = false := by decide) : PE X (.Call (.Name x p) (e :: es) [] pos) (tCall sp [] E0 t) := by
 obtain ⟨f, fd, ps, F, hm, hk, hb⟩ := C
 exact pe_call F hr hg hm hk hb .nil pass0 ha (hdb := hdb) (he := he) (hpl := hpl)
def rTru (K : PySem.W.Frag) (x : V) (H : Hp) (Q : Bool → Hp → Prop) : Prop := ∃ k, TruV K x H k ∧ Q k H
def tTru (K : PySem.W.Frag) (ta : TE) : TT := fun σ H Q => ta σ H fun x H' => rTru K x H' Q
theorem pt_truthN {a : Expr} {ta : TE} (ha : PE X a ta) (he : ∀ whole, isTrue a X.env whole = (do let v ← whole; standAt a.pos; holding [v] (truthy v))) :
 PT X a (tTru X.K ta) := pt_truth ha he
end
theorem Def.ok {P : Program} {w : World} {K : PySem.W.Frag} {mg : Str → Option Value} {base : Heap} {x : Str} {st : Stmt} {N ps : List Str} {k : Nat} {sp : Sp} (D : Def K mg x st) (S : FnScope N ps (defScope st))
 (bd : ∀ (kV doc pm : Value) (an : Option Addr) (cdv ct : Value) (us : List Value), us.length = ps.length → bindArgs (PySem.W.fnOf x x (defArgs st) (defBody st) (defScope st) .none kV doc pm an cdv ct) ⟨us, []⟩ = pure (ps.zip us))
 (len : ∀ vs H Q E, sp vs H Q E → vs.length = ps.length)
 (hbody : ∀ (f : Addr) (cdv : Value) (A : Around) (outer : List Env) (s : Shared) (H : Hp) (vs : List V) (Q : VK) (E : XK), Room k (A.deeper (envOfC x (defScope st) s.heap.objs.size f cdv)) → sp vs H Q E →
  ∃ t, PSs (cxOf CX0 P w K mg base N x (defScope st) f cdv A outer s H E).nox (defBody st) t ∧ t { nx := fun _ H' => Q .non H', rt := Q } (start N vs) H) : Callee P w K mg base x (k + 1) sp := by
 obtain ⟨f, fd, F, hm⟩ := D
 exact ⟨f, fd, ps, F.ok S len fun cdv A outer s H vs Q E hr h => hbody f cdv A outer s H vs Q E hr h, hm, F.kp, F.binds bd⟩
def rLen (K : PySem.W.Frag) : List V → Hp → VK → Prop := fun xs H Q => ∃ x n, xs = [x] ∧ LenV K x H n ∧ Q (.int n) H
def rIsi (K : PySem.W.Frag) : List V → Hp → VK → Prop := fun xs H Q => ∃ x t n b, xs = [x, .ty n] ∧ TyOf K H x t ∧ PySem.W.kitOne K t (.type n) = some b ∧ Q (.bl b) H
def rIntOf : List V → Hp → VK → Prop := fun xs H Q => (∃ i, xs = [.int i] ∧ Q (.int i) H) ∨ ∃ k, xs = [.bl k] ∧ Q (.int (if k then 1 else 0)) H
def rAbs : List V → Hp → VK → Prop := fun xs H Q => ∃ i, xs = [.int i] ∧ Q (.int (if i < 0 then -i else i)) H
section
variable {X : Cx}
theorem call_lenN : CallR X (.builtin "len") (rLen X.K) := call_len
theorem call_intN : CallR X (.type "int") rIntOf := call_int1
theorem call_absN : CallR X (.builtin "abs") rAbs := call_abs
theorem call_isinstanceN : CallR X (.builtin "isinstance") (rIsi X.K) := by
 walk_at "z25"
 obtain ⟨x, t, n, b, rfl, ty, e, q⟩ := h
 obtain ⟨u, c, rfl, rx, rc⟩ := vals2 r
 cases (show c = Value.type n from rc)
 exact isinst_ok I rx ty e fun tk => ⟨.bl b, H, I.tok tk, rfl, q⟩
end
section
variable {K : PySem.W.Frag} {σ : St} {H : Hp} {Q : VK}
theorem i_len {p : Addr} {xs : List V} (h : SqL K H p xs) (q : Q (.int xs.length) H) : rLen K [.ref p] H Q := ⟨_, _, rfl, .inl ⟨xs, h, rfl⟩, q⟩
theorem i_lenI {p : Addr} {ns : List Int} (h : SqL K H p (iL ns)) (q : Q (.int ns.length) H) : rLen K [.ref p] H Q := ⟨_, _, rfl, .inl ⟨_, h, rfl⟩, by simpa [iL] using q⟩
theorem i_intB {k : Bool} (q : Q (.int (if k then 1 else 0)) H) : rIntOf [.bl k] H Q := .inr ⟨k, rfl, q⟩
theorem i_abs {i : Int} (q : Q (.int (if i < 0 then -i else i)) H) : rAbs [.int i] H Q := ⟨i, rfl, q⟩
theorem isi_ii : PySem.W.kitOne K (.type "int") (.type "int") = some true := by kernel_rfl
theorem isi_ib : PySem.W.kitOne K (.type "int") (.type "bool") = some false := by kernel_rfl
theorem isi_ll : PySem.W.kitOne K (.type "list") (.type "list") = some true := by kernel_rfl
theorem isi_il : PySem.W.kitOne K (.type "int") (.type "list") = some false := by kernel_rfl
theorem isi_id : PySem.W.kitOne K (.type "int") (.type "dict") = some false := by kernel_rfl
theorem isi_it : PySem.W.kitOne K (.type "int") (.type "tuple") = some false := by kernel_rfl
theorem isi_bb : PySem.W.kitOne K (.type "bool") (.type "bool") = some true := by kernel_rfl
theorem i_isiII {i : Int} (q : Q (.bl true) H) : rIsi K [.int i, .ty "int"] H Q := ⟨_, _, _, true, rfl, .int i, isi_ii, q⟩
theorem i_isiIB {i : Int} (q : Q (.bl false) H) : rIsi K [.int i, .ty "bool"] H Q := ⟨_, _, _, false, rfl, .int i, isi_ib, q⟩
theorem i_isiIL {i : Int} (q : Q (.bl false) H) : rIsi K [.int i, .ty "list"] H Q := ⟨_, _, _, false, rfl, .int i, isi_il, q⟩
theorem i_isiID {i : Int} (q : Q (.bl false) H) : rIsi K [.int i, .ty "dict"] H Q := ⟨_, _, _, false, rfl, .int i, isi_id, q⟩
theorem i_isiIT {i : Int} (q : Q (.bl false) H) : rIsi K [.int i, .ty "tuple"] H Q := ⟨_, _, _, false, rfl, .int i, isi_it, q⟩
theorem i_isiBB {b : Bool} (q : Q (.bl true) H) : rIsi K [.bl b, .ty "bool"] H Q := ⟨_, _, _, true, rfl, .bl b, isi_bb, q⟩
theorem i_isiLL {a : Addr} {xs : List V} (h : H a = some (.lst xs)) (q : Q (.bl true) H) : rIsi K [.ref a, .ty "list"] H Q := ⟨_, _, _, true, rfl, .lst h, isi_ll, q⟩
end
theorem i_if {p : Prop} [Decidable p] {A B : Prop} (h1 : p → A) (h2 : ¬ p → B) : if decide p = true then A else B := by
 by_cases h : p
 ·rw [decide_eq_true h]; exact iteT (h1 h)
 ·rw [decide_eq_false h]; exact iteF (h2 h)
theorem i_ifn {p : Prop} [Decidable p] {A B : Prop} (h1 : ¬ p → A) (h2 : p → B) : if (!decide p) = true then A else B := by
 by_cases h : p
 ·rw [decide_eq_true h]; exact iteF (h2 h)
 ·rw [decide_eq_false h]; exact iteT (h1 h)
theorem iteNT {A B : Prop} (h : B) : if (!true) = true then A else B := iteF h
theorem iteNF {A B : Prop} (h : A) : if (!false) = true then A else B := iteT h
theorem szl {n : Nat} (h : n ≤ 100000) : n ≤ sizeLine := Nat.le_trans h (by rw [sizeLine_eq]; decide)
theorem szlt {n : Nat} (h : n ≤ 100000) : n < sizeLine := Nat.lt_of_le_of_lt h (by rw [sizeLine_eq]; decide)
theorem same_upd {H : Hp} {l : Addr} {o : HO} (h : H l = none) : Same H (upd H l o) := fun b u e => by rw [upd_ne (ne_of_none e h)]; exact e
def SameBut (l : Addr) (H H' : Hp) : Prop := ∀ b o, b ≠ l → H b = some o → H' b = some o
theorem cmul_l {i j : Int} (h1 : -(2 ^ 64) < i) (h2 : i < 2 ^ 64) : CMul i j := .inl ⟨h1, h2⟩
theorem cmul_r {i j : Int} (h1 : -(2 ^ 64) < j) (h2 : j < 2 ^ 64) : CMul i j := .inr ⟨h1, h2⟩
end L2
namespace L2
open PySem PySem.Spec PyProof.Rows
theorem bt_int : bootBuiltins "int" = some (.type "int") := by first | exact PySem.boot_int | exact PySem.Pv.boot_int | exact PyProof.Rows.boot_int
theorem bt_bool : bootBuiltins "bool" = some (.type "bool") := by first | exact PySem.boot_bool | exact PySem.Pv.boot_bool | exact PyProof.Rows.boot_bool
theorem bt_list : bootBuiltins "list" = some (.type "list") := by first | exact PySem.boot_list | exact PySem.Pv.boot_list | exact PyProof.Rows.boot_list
theorem bt_tuple : bootBuiltins "tuple" = some (.type "tuple") := by first | exact PySem.boot_tuple | exact PySem.Pv.boot_tuple | exact PyProof.Rows.boot_tuple
theorem bt_isinstance : bootBuiltins "isinstance" = some (.builtin "isinstance") := by first | exact PySem.boot_isinstance | exact PySem.Pv.boot_isinstance | exact PyProof.Rows.boot_isinstance
theorem bt_min : bootBuiltins "min" = some (.builtin "min") := by first | exact PySem.boot_min | exact PySem.Pv.boot_min | exact PyProof.Rows.boot_min
theorem bt_max : bootBuiltins "max" = some (.builtin "max") := by first | exact PySem.boot_max | exact PySem.Pv.boot_max | exact PyProof.Rows.boot_max
theorem bt_sum : bootBuiltins "sum" = some (.builtin "sum") := by first | exact PySem.boot_sum | exact PySem.Pv.boot_sum | exact PyProof.Rows.boot_sum
theorem bt_sorted : bootBuiltins "sorted" = some (.builtin "sorted") := by first | exact PySem.boot_sorted | exact PySem.Pv.boot_sorted | exact PyProof.Rows.boot_sorted
theorem bt_abs : bootBuiltins "abs" = some (.builtin "abs") := by first | exact PySem.boot_abs | exact PySem.Pv.boot_abs | exact PyProof.Rows.boot_abs
theorem bt_len : bootBuiltins "len" = some (.builtin "len") := by first | exact PySem.boot_len | exact PySem.Pv.boot_len | exact PyProof.Rows.boot_len
section
variable {X : Cx} {pos p1 p2 : Pos} {k1 k2 : Nat}
theorem pe_powK {i j r : Int} (h : 0 ≤ j ∧ j ≤ 1000000 ∧ i.natAbs < 2 ^ 64 ∧ i ^ j.toNat = r) : PE X (.BinOp (.Constant (.int i) k1 p1) .Pow (.Constant (.int j) k2 p2) pos) (tC (.int r)) := by
 intro pins s σ H Q I q
 refine pe_op op_pow pe_int pe_int pins s σ H Q I ?_
 exact ⟨i, j, rfl, rfl, ⟨h.1, h.2.1, h.2.2.1⟩, by have e := h.2.2.2; subst e; exact q⟩
end
section
variable {K : PySem.W.Frag} {σ : St} {H : Hp} {Q : VK} {i j : Int}
theorem i_div (h0 : 0 < j) (h1 : j < 1073741824) (q : Q (.int (i / j)) H) : rI CDiv (fun i j => .int (i / j)) (.int i) (.int j) H Q := ⟨i, j, rfl, rfl, ⟨h0, h1⟩, q⟩
theorem i_mod (h0 : 0 < j) (q : Q (.int (i % j)) H) : rI (fun _ j => 0 < j) (fun i j => .int (i % j)) (.int i) (.int j) H Q := ⟨i, j, rfl, rfl, h0, q⟩
theorem i_app {l : Addr} {xs : List V} {y : V} (h : H l = some (.lst xs)) (hl : xs.length < sizeLine) (q : Q .non (upd H l (.lst (xs ++ [y])))) : rAppend (.ref l) [y] H Q := ⟨l, xs, y, rfl, rfl, h, hl, q⟩
end
end L2
namespace L2
open PySem PySem.Spec PyProof.Rows
def LoopI (J : It) (g : TG) (tb : TS) (D : Ends) (σ : St) (H1 : Hp) : Prop := ∃ W : Nat → Nat → St → Hp → Prop, (∃ m, W 0 m σ H1) ∧ ∀ i m σ H, W i m σ H →
 (J.stop i H ∧ D.nx σ H) ∨ (J.go i H ∧ ∃ N : St → Hp → Prop, (∀ σ' H', N σ' H' → ∃ m', m' < m ∧ W (i + 1) m' σ' H') ∧ ∀ x H', J.yld i H x H' → g x σ H' fun σ2 H2 => tb { D with nx := N, ct := N, bk := D.nx } σ2 H2)
theorem tFor_eq (wi : TI) (g : TG) (tb : TS) : tFor wi g tb = fun D σ H => wi σ H fun J H1 => LoopI J g tb D σ H1 := rfl
theorem lp_list {K : PySem.W.Frag} {a : Addr} {xs : List V} {g : TG} {tb : TS} {D : Ends} {σ : St} {H : Hp} (Pv : Nat → St → Hp → Prop) (h0 : Pv 0 σ H) (hl : ∀ i σ H, i ≤ xs.length → Pv i σ H → SqL K H a xs)
 (hs : ∀ i x σ H, xs[i]? = some x → Pv i σ H → g x σ H fun σ2 H2 => tb { D with nx := Pv (i + 1), ct := Pv (i + 1), bk := D.nx } σ2 H2) (hd : ∀ σ H, Pv xs.length σ H → D.nx σ H) : LoopI (Itl K a) g tb D σ H := for_list Pv h0 hl hs hd
theorem lp_ints {K : PySem.W.Frag} {a : Addr} {ns : List Int} {g : TG} {tb : TS} {D : Ends} {σ : St} {H : Hp} (Pv : Nat → St → Hp → Prop) (h0 : Pv 0 σ H) (hl : ∀ i σ H, i ≤ ns.length → Pv i σ H → SqL K H a (iL ns))
 (hs : ∀ i x σ H, ns[i]? = some x → Pv i σ H → g (.int x) σ H fun σ2 H2 => tb { D with nx := Pv (i + 1), ct := Pv (i + 1), bk := D.nx } σ2 H2) (hd : ∀ σ H, Pv ns.length σ H → D.nx σ H) : LoopI (Itl K a) g tb D σ H := by
 have e : (iL ns).length = ns.length := by simp [iL]
 refine for_list (xs := iL ns) Pv h0 (fun i σ H h p => hl i σ H (by rw [e] at h; exact h) p) (fun i x σ H hx p => ?_) (fun σ H p => hd σ H (by rw [e] at p; exact p))
 rw [List.getElem?_map] at hx
 cases q : ns[i]? with
 | none => rw [q] at hx; cases hx
 | some z =>
   rw [q] at hx
   cases hx
   exact hs i z σ H q p
theorem lp_range {lo : Int} {n : Nat} {g : TG} {tb : TS} {D : Ends} {σ : St} {H : Hp} (Pv : Nat → St → Hp → Prop) (h0 : Pv 0 σ H)
 (hs : ∀ i σ H, i < n → Pv i σ H → g (.int (lo + i)) σ H fun σ2 H2 => tb { D with nx := Pv (i + 1), ct := Pv (i + 1), bk := D.nx } σ2 H2) (hd : ∀ σ H, Pv n σ H → D.nx σ H) : LoopI (Itr lo n) g tb D σ H := for_range Pv h0 hs hd
theorem i_truB {K : PySem.W.Frag} {b : Bool} {H : Hp} {Q : Bool → Hp → Prop} (q : Q b H) : rTru K (.bl b) H Q := ⟨b, rfl, q⟩
theorem i_truL {K : PySem.W.Frag} {p : Addr} {xs : List V} {H : Hp} {Q : Bool → Hp → Prop} (h : SqL K H p xs) (q : Q (!xs.isEmpty) H) : rTru K (.ref p) H Q := ⟨_, .inl ⟨xs, h, rfl⟩, q⟩
end L2
namespace L2
open PySem PySem.Spec PyProof.Rows
def rMenu (xs : List V) (y : V) (H : Hp) (Q : VK) : Prop := ∃ i v, y = .int i ∧ atI xs i = some v ∧ Q v H
def tMenu (t : TA) (ti : TE) : TE := fun σ H Q => t σ H fun xs H1 => xs.length ≤ sizeLine ∧ ti σ H1 fun y H2 => rMenu xs y H2 Q
section
variable {X : Cx} {es : List Expr} {b : Expr} {t : TA} {tb : TE} {p1 pos : Pos}
theorem item_raw {X : Cx} {value slice : Expr} {pins : List (Addr × Obj)} {s : Shared} {σ : St} {H : Hp} {p : Addr} {its : List Value} {xs : List V} {i : Int} {tk : Tok} {z : V} {Q : VK} (I : Inv X pins σ H s) (r : Vals xs its) (hz : xs.length ≤ sizeLine)
 (pl : s.heap.IsList p its.toArray) (he : atI xs i = some z) (q : Q z H) (hs : subscripted slice false (.ref p) (.int i tk) = operate [.ref p, .int i tk] (getItem (.ref p) (.int i tk))) :
 wpAny (model X.prog X.w) X.A (subscriptTail value slice (.ref p) (.int i tk)) (EP X pins σ Q) X.xe s := by
 obtain ⟨j, h1, h2, h3, h4, h5⟩ := atI_get he
 obtain ⟨w, ew, rw'⟩ := r.get h2
 have hl := r.length
 have hn := line63
 have fin : EP X pins σ Q w s := ⟨z, H, I, rw', q⟩
 by_cases h0 : 0 ≤ i
 ·have hj : i.toNat = j := by
   rw [seqIndex_of h0 h5] at h1
   exact Option.some.inj h1
  exact item_listR pl h0 (by lia) (by rw [hj]; simpa using ew) fin hs
 ·have hj : (i + (its.toArray.size : Int)).toNat = j := by
   rw [seqIndex_neg (by lia) h4] at h1
   rw [List.size_toArray, ← hl]
   exact Option.some.inj h1
  exact subscriptTail_builtinR (x := w) pl.typeIs slot_list_getitem.lookup
   (wpAny_getItem_list_neg (Q := fun r s' => r = w ∧ EP X pins σ Q r s') pl (by lia) (by rw [List.size_toArray] <;> lia) (by lia) (by rw [hj]; simpa using ew) ⟨rfl, fin⟩) hs
theorem pe_menu (h : PA X es t) (hb : PE X b tb) (hs : PlainIx b) : PE X (.Subscript (.List es p1) b pos) (tMenu t tb) := by
 intro pins s σ H Q I hq
 refine Subscript_ (wpAny_List_spliced (thn (h p1 pins s σ H _ I hq) fun us s1 ⟨xs, H1, I1, r, z, q⟩ => ⟨by rw [← r.length]; exact z, ?_⟩))
 have hf : H1 s1.heap.objs.size = none := I1.hok.fresh (Nat.le_refl _)
 have I2 := I1.kept (t' := s1.toks) (h' := s1.heap.push { cls := .type "list", data := .seq us.toArray 0 }) (fun b u e => Heap.get?_push_of_some _ e)
 have I3 := I2.pins_of (pins' := pins ++ [(s1.heap.objs.size, { cls := .type "list", data := .seq us.toArray 0 })]) (fun p hp => by
  rcases List.mem_append.mp hp with hp | hp
  ·exact I2.pin p (List.mem_append_right _ hp)
  ·have e : p = (s1.heap.objs.size, ({ cls := .type "list", data := .seq us.toArray 0 } : Obj)) := by simpa using hp
   subst e
   refine ⟨Heap.get?_push_size _ rfl, hf, Nat.ne_of_gt I1.lt, I1.nofs (Nat.le_refl _), fun v e => ?_⟩
   have e' : Data.seq us.toArray 0 = Data.cell v := e
   cases e')
 refine thn (hb _ _ σ H1 _ I3 q) fun u s2 ⟨y, H2, I4, r4, i, v, hy, hv, qq⟩ => ?_
 subst hy
 obtain ⟨tk, rfl⟩ := r4
 have pn := (I4.pin (s1.heap.objs.size, { cls := .type "list", data := .seq us.toArray 0 }) (by simp)).1
 exact item_raw I4.unpinned r z ⟨_, pn, rfl, _, rfl⟩ hv qq (hs _ _)
end
section
variable {H : Hp} {Q : VK} {i : Int}
theorem i_menu3 {xa xb xc : Int} (h0 : 0 ≤ i) (h1 : i < 3) (q : ∀ z, (i = 0 ∧ z = xa) ∨ (i = 1 ∧ z = xb) ∨ (i = 2 ∧ z = xc) → Q (.int z) H) : rMenu [.int xa, .int xb, .int xc] (.int i) H Q := by
 have hi : i = 0 ∨ i = 1 ∨ i = 2 := by lia
 rcases hi with h | h | h
 ·subst h; exact ⟨0, _, rfl, rfl, q _ (by simp)⟩
 ·subst h; exact ⟨1, _, rfl, rfl, q _ (by simp)⟩
 ·subst h; exact ⟨2, _, rfl, rfl, q _ (by simp)⟩
theorem i_menu4 {xa xb xc xd : Int} (h0 : 0 ≤ i) (h1 : i < 4) (q : ∀ z, (i = 0 ∧ z = xa) ∨ (i = 1 ∧ z = xb) ∨ (i = 2 ∧ z = xc) ∨ (i = 3 ∧ z = xd) → Q (.int z) H) : rMenu [.int xa, .int xb, .int xc, .int xd] (.int i) H Q := by
 have hi : i = 0 ∨ i = 1 ∨ i = 2 ∨ i = 3 := by lia
 rcases hi with h | h | h | h
 ·subst h; exact ⟨0, _, rfl, rfl, q _ (by simp)⟩
 ·subst h; exact ⟨1, _, rfl, rfl, q _ (by simp)⟩
 ·subst h; exact ⟨2, _, rfl, rfl, q _ (by simp)⟩
 ·subst h; exact ⟨3, _, rfl, rfl, q _ (by simp)⟩
end
theorem cxOf_K (CX : CXT) (P : Program) (w : World) (K : PySem.W.Frag) (mg : Str → Option Value) (base : Heap) (N : List Str) (qual : Str) (scope : Scope) (f : Addr) (cd : Value) (A : Around) (outer : List Env) (s : Shared) (H : Hp) (E : XK) : (cxOf CX P w K mg base N qual scope f cd A outer s H E).K = K := rfl
end L2
namespace L2
open PySem PySem.Spec PyProof.Rows
def tJoin (t u : TS) : TS := fun D σ H => ∃ Pj : St → Hp → Prop, t { D with nx := Pj } σ H ∧ ∀ σ' H', Pj σ' H' → u D σ' H'
theorem pss_join {X : Cx} {st : Stmt} {rest : List Stmt} {t u : TS} (h1 : PS X st t) (h2 : PSs X rest u) : PSs X (st :: rest) (tJoin t u) := by
 intro pins s σ H D I h
 obtain ⟨Pj, ht, hu⟩ := h
 refine wpAny_execs_cons (thn (h1 pins s σ H _ I ht) fun f s1 q => ?_)
 cases f with
 | next =>
   obtain ⟨σ1, H1, I1, q1⟩ := q
   exact h2 pins s1 σ1 H1 D I1 (hu _ _ q1)
 | brk => exact q
 | cont => exact q
 | ret u => exact q
end L2
namespace L2
open PySem PySem.Spec PyProof.Rows
theorem take_min {α : Type} (xs : List α) (k : Nat) : xs.take (min k xs.length) = xs.take k := by
 by_cases h : k ≤ xs.length
 ·rw [Nat.min_eq_left h]
 ·rw [Nat.min_eq_right (by lia), List.take_of_length_le (by lia), List.take_of_length_le (by lia)]
theorem drop_min {α : Type} (xs : List α) (k : Nat) : xs.drop (min k xs.length) = xs.drop k := by
 by_cases h : k ≤ xs.length
 ·rw [Nat.min_eq_left h]
 ·rw [Nat.min_eq_right (by lia), List.drop_of_length_le (by lia), List.drop_of_length_le (by lia)]
theorem sIx_pos (n d : Nat) {b : Int} (h : 0 ≤ b) : HT.sIx n d (some b) = min b.toNat n := by
 have := HT.sIx_nat n d b.toNat
 rwa [Int.toNat_of_nonneg h] at this
theorem cut_to {xs : List V} {b : Int} (h : 0 ≤ b) : cutV xs none (some b) = xs.take b.toNat := by
 unfold cutV
 rw [HT.sIx_none, sIx_pos _ _ h, Nat.sub_zero, List.drop_zero, take_min]
theorem cut_mid {xs : List V} {a b : Int} (h : 0 ≤ a) (h2 : 0 ≤ b) : cutV xs (some a) (some b) = (xs.drop a.toNat).take (b.toNat - a.toNat) := by
 unfold cutV
 rw [sIx_pos _ _ h, sIx_pos _ _ h2, drop_min]
 by_cases e : b.toNat ≤ xs.length
 ·by_cases e2 : a.toNat ≤ xs.length
  ·rw [Nat.min_eq_left e, Nat.min_eq_left e2]
  ·rw [List.drop_of_length_le (by lia)]; simp
 ·rw [Nat.min_eq_right (by lia)]
  by_cases e2 : a.toNat ≤ xs.length
  ·rw [Nat.min_eq_left e2, List.take_of_length_le (by rw [List.length_drop]; lia), List.take_of_length_le (by rw [List.length_drop]; lia)]
  ·rw [List.drop_of_length_le (by lia)]; simp
section
variable {K : PySem.W.Frag} {H : Hp} {Q : VK} {a : Addr} {ns : List Int}
theorem i_slTo {b : Int} (h : SqL K H a (iL ns)) (hb : 0 ≤ b) (q : ∀ p, H p = none → Q (.ref p) (upd H p (.lst (iL (ns.take b.toNat))))) : rSlL K (.ref a) none (some b) H Q :=
 ⟨a, _, rfl, h, fun p hp => by rw [cut_to hb, ← List.map_take]; exact q p hp⟩
theorem i_slMid {b c : Int} (h : SqL K H a (iL ns)) (hb : 0 ≤ b) (hc : 0 ≤ c) (q : ∀ p, H p = none → Q (.ref p) (upd H p (.lst (iL ((ns.drop b.toNat).take (c.toNat - b.toNat)))))) : rSlL K (.ref a) (some b) (some c) H Q :=
 ⟨a, _, rfl, h, fun p hp => by rw [cut_mid hb hc, ← List.map_drop, ← List.map_take]; exact q p hp⟩
end
end L2
namespace L2
open PySem PySem.Spec PyProof.Rows
theorem Inv.track {X : Cx} {pins : List (Addr × Obj)} {σ : St} {H : Hp} {s : Shared} {D : Addr} {o : HO} (I : Inv X pins σ H s) (hn : H D = none) (hL : D ≠ X.env.locals) (h1 : X.s₀.heap.objs.size ≤ D)
 (h2 : ∀ x c, X.env.cells.lookup x = some c → c ≠ D) (h3 : ∀ p ∈ X.pn ++ pins, p.1 ≠ D) (new : ObjOk X.prog X.w (upd H D o) s.heap D o) : Inv X pins σ (upd H D o) s := by
 have up : ∀ b u, H b = some u → upd H D o b = some u := fun b u e => by rw [upd_ne (ne_of_none e hn)]; exact e
 have un : ∀ b, b ≠ D → H b = none → upd H D o b = none := fun b hb e => by rw [upd_ne hb]; exact e
 refine ⟨I.ok, I.os, I.bare, ⟨I.base.keep, I.base.slot, fun b ob e n hx => un b (Nat.ne_of_lt (Nat.lt_of_lt_of_le (Heap.lt_size e) h1)) (I.base.free b ob e n hx), I.base.there, fun b xs e => up _ _ (I.base.tups b xs e), fun b ob u e => up _ _ (I.base.frzs b ob u e), fun b ps e => ?_⟩,
  I.loc, I.cell, un _ (Ne.symm hL) I.free, fun x c e => un _ (h2 x c e) (I.freeC x c e), fun p hp => ?_, fun b u e => ?_, I.len⟩
 ·obtain ⟨m, e'⟩ := I.base.tbls b ps e
  exact ⟨m, up _ _ e'⟩
 ·obtain ⟨e, n, r⟩ := I.pin p hp
  exact ⟨e, un _ (h3 p hp) n, r⟩
 ·by_cases hb : b = D
  ·subst hb
   rw [upd_same] at e
   cases e
   exact new
  ·rw [upd_ne hb] at e
   exact (I.hok b u e).stay (fun _ _ _ q => q) (fun c q => up _ _ q) fun c xs q => up _ _ q
def clOf (env : Env) : List (Str × NameKind) → List (Str × Addr) → List (Str × Addr)
 | [], acc => acc
 | (n, k) :: r, acc => clOf env r (if (k == .free) = true then (n, (env.cells.lookup n).getD 0) :: acc else acc)
theorem closure_go {env : Env} : ∀ (names : List (Str × NameKind)) (acc : List (Str × Addr)), (∀ y ∈ names, y.2 = .free → ∃ c, env.cells.lookup y.1 = some c) →
 (forIn names acc fun (x : Str × NameKind) (r : List (Str × Addr)) => match x with
  | (name, kind) => if (kind == .free) = true then do
   let a ← cellOf env name
   pure (ForInStep.yield ((name, a) :: r))
   else pure (ForInStep.yield r) : Sem (List (Str × Addr))) = pure (clOf env names acc)
 | [], acc, _ => rfl
 | (n, k) :: r, acc, h => by
   rw [List.forIn_cons, clOf]
   by_cases hk : (k == NameKind.free) = true
   ·obtain ⟨c, hc⟩ := h (n, k) (List.mem_cons_self) (by simpa using hk)
    have hc' : env.cells.lookup n = some c := hc
    simp only [hk, if_true, cellOf, hc', Option.getD_some]
    exact closure_go r _ fun y hy => h y (List.mem_cons_of_mem _ hy)
   ·simp only [hk, Bool.false_eq_true, if_false]
    exact closure_go r _ fun y hy => h y (List.mem_cons_of_mem _ hy)
theorem closure_eq {env : Env} {scope : Scope} (h : ∀ y ∈ scope.names, y.2 = .free → ∃ c, env.cells.lookup y.1 = some c) : closureFor scope env = pure (clOf env scope.names []) := by
 have q := closure_go scope.names [] h
 unfold closureFor
 exact (congrArg (fun z => z >>= fun r => pure r) q).trans rfl
theorem clOf_get {env : Env} {x : Str} {c : Addr} : ∀ (names : List (Str × NameKind)) (acc : List (Str × Addr)), (∀ y ∈ names, y.2 = .free → ∃ c, env.cells.lookup y.1 = some c) → (∀ x c, acc.lookup x = some c → env.cells.lookup x = some c) →
 (clOf env names acc).lookup x = some c → env.cells.lookup x = some c
 | [], acc, _, ha, e => ha x c e
 | (n, k) :: r, acc, h, ha, e => by
   rw [clOf] at e
   refine clOf_get r _ (fun y hy => h y (List.mem_cons_of_mem _ hy)) ?_ e
   intro y d hd
   by_cases hk : (k == NameKind.free) = true
   ·rw [if_pos hk] at hd
    obtain ⟨c', hc⟩ := h (n, k) List.mem_cons_self (by simpa using hk)
    have hc' : env.cells.lookup n = some c' := hc
    rw [List.lookup_cons] at hd
    cases hy : y == n with
    | true =>
      rw [hy] at hd
      have e1 : y = n := by simpa using hy
      subst e1
      rw [hc'] at hd ⊢
      exact hd
    | false =>
      rw [hy] at hd
      exact ha y d hd
   ·rw [if_neg hk] at hd
    exact ha y d hd
theorem clOf_has {env : Env} {x : Str} : ∀ (names : List (Str × NameKind)) (acc : List (Str × Addr)), ((x, NameKind.free) ∈ names ∨ ∃ c, acc.lookup x = some c) → ∃ c, (clOf env names acc).lookup x = some c
 | [], acc, h => by
   rcases h with h | h
   ·exact absurd h (by simp)
   ·exact h
 | (n, k) :: r, acc, h => by
   rw [clOf]
   refine clOf_has r _ ?_
   rcases h with h | ⟨c, h⟩
   ·rcases List.mem_cons.mp h with e | e
    ·cases e
     exact .inr ⟨_, by rw [if_pos (by rfl), List.lookup_cons, beq_self_eq_true]⟩
    ·exact .inl e
   ·refine .inr ?_
    by_cases hk : (k == NameKind.free) = true
    ·rw [if_pos hk, List.lookup_cons]
     cases x == n with
     | true => exact ⟨_, rfl⟩
     | false => exact ⟨c, h⟩
    ·rw [if_neg hk]; exact ⟨c, h⟩
theorem relabel_get {scope : Scope} {env : Env} {x : Str} {k : NameKind} (h : (relabel scope env).names.lookup x = some k) : (x, k) ∈ scope.names ∨ (k = .cell ∧ (x, NameKind.free) ∈ scope.names) := by
 have m := PySem.mem_of_lookup h
 unfold relabel at m
 obtain ⟨⟨n, k0⟩, hm, e⟩ := List.mem_map.mp m
 dsimp only at e
 split at e
 ·rename_i hc
  cases e
  have : k0 = .free := by
   have := (Bool.and_eq_true _ _ ▸ (Bool.and_eq_true _ _ ▸ hc).1 : _ ∧ _).1
   simpa using this
  subst this
  exact .inr ⟨rfl, hm⟩
 ·cases e
  exact .inl hm
theorem relabel_freeN {env : Env} : ∀ {names : List (Str × NameKind)} {x : Str}, names.lookup x = some .free →
 (names.map fun (n, k) => if (k == NameKind.free && env.scope.kind == .function && env.kindOf n == some .cell) then (n, NameKind.cell) else (n, k)).lookup x = some .cell ∨
 (names.map fun (n, k) => if (k == NameKind.free && env.scope.kind == .function && env.kindOf n == some .cell) then (n, NameKind.cell) else (n, k)).lookup x = some .free
 | [], _, h => by simp at h
 | (n, k) :: r, x, h => by
   have ih := @relabel_freeN env r x
   show List.lookup x ((if (k == NameKind.free && env.scope.kind == .function && env.kindOf n == some .cell) = true then (n, NameKind.cell) else (n, k)) :: _) = _ ∨ List.lookup x ((if (k == NameKind.free && env.scope.kind == .function && env.kindOf n == some .cell) = true then (n, NameKind.cell) else (n, k)) :: _) = _
   cases hx : x == n with
   | true =>
     simp only [List.lookup_cons, hx] at h
     cases h
     by_cases hc : (NameKind.free == NameKind.free && env.scope.kind == .function && env.kindOf n == some .cell) = true
     ·rw [if_pos hc]; left; simp [List.lookup_cons, hx]
     ·rw [if_neg hc]; right; simp [List.lookup_cons, hx]
   | false =>
     simp only [List.lookup_cons, hx] at h
     by_cases hc : (k == NameKind.free && env.scope.kind == .function && env.kindOf n == some .cell) = true
     ·rw [if_pos hc]; simp only [List.lookup_cons, hx]; exact ih h
     ·rw [if_neg hc]; simp only [List.lookup_cons, hx]; exact ih h
theorem relabel_free {scope : Scope} {env : Env} {x : Str} (h : scope.names.lookup x = some .free) : (relabel scope env).names.lookup x = some .cell ∨ (relabel scope env).names.lookup x = some .free := relabel_freeN h
def cxC (X : Cx) (scope : Scope) (C : Addr) (N : List Str) (s₂ : Shared) (H₂ : Hp) (ex : List Addr) : Cx :=
 { X with N := N, s₀ := s₂, H₀ := H₂, env := compEnvC scope (clOf X.env scope.names []) C X.env, outer := X.stack, stack := X.stack, ex := ex, fn := fun _ => false, pn := [], xe := fun _ _ => False }
def FrOk (X : Cx) (scope : Scope) : List Str → List (Option Nat) → Prop
 | [], [] => True
 | _ :: N, none :: fr => FrOk X scope N fr
 | x :: N, some j :: fr => (X.N[j]? = some x ∧ (X.env.kindOf x = some .cell ∨ X.env.kindOf x = some .free) ∧ scope.names.lookup x = some .free) ∧ FrOk X scope N fr
 | _, _ => False
def stC (fr : List (Option Nat)) (σ : St) : St := fr.map fun o => o.bind fun j => (σ[j]?).join
structure CompOk (X : Cx) (scope : Scope) (N : List Str) (fr : List (Option Nat)) : Prop where
 kind : scope.kind = .function
 ncell : ∀ y ∈ scope.names, y.2 ≠ .cell
 names : ∀ y ∈ scope.names, y.2 = .local → scope.names.lookup y.1 = some .local
 frees : ∀ y ∈ scope.names, y.2 = .free → X.env.kindOf y.1 = some .cell ∨ X.env.kindOf y.1 = some .free
 fr : FrOk X scope N fr
theorem FrOk.len {X : Cx} {scope : Scope} : ∀ {N : List Str} {fr : List (Option Nat)}, FrOk X scope N fr → fr.length = N.length
 | [], [], _ => rfl
 | _ :: N, none :: fr, h => by simp [FrOk.len (N := N) (fr := fr) h]
 | _ :: N, some j :: fr, h => by simp [FrOk.len (N := N) (fr := fr) h.2]
 | [], _ :: _, h => h.elim
 | _ :: _, [], h => h.elim
theorem FrOk.get {X : Cx} {scope : Scope} : ∀ {N : List Str} {fr : List (Option Nat)} {i j : Nat} {x : Str}, FrOk X scope N fr → N[i]? = some x → fr[i]? = some (some j) → X.N[j]? = some x ∧ (X.env.kindOf x = some .cell ∨ X.env.kindOf x = some .free) ∧ scope.names.lookup x = some .free
 | [], _, i, j, x, h, e, _ => by simp at e
 | y :: N, [], _, _, _, h, _, _ => h.elim
 | y :: N, none :: fr, 0, j, x, h, e, e2 => by simp at e2
 | y :: N, none :: fr, i + 1, j, x, h, e, e2 => FrOk.get (N := N) (fr := fr) (i := i) h (by simpa using e) (by simpa using e2)
 | y :: N, some k :: fr, 0, j, x, h, e, e2 => by
   simp at e e2
   subst e e2
   exact h.1
 | y :: N, some k :: fr, i + 1, j, x, h, e, e2 => FrOk.get (N := N) (fr := fr) (i := i) h.2 (by simpa using e) (by simpa using e2)
theorem stC_get {fr : List (Option Nat)} {σ : St} {i : Nat} {v : V} (h : (stC fr σ)[i]? = some (some v)) : ∃ j, fr[i]? = some (some j) ∧ σ[j]? = some (some v) := by
 unfold stC at h
 rw [List.getElem?_map] at h
 cases e : fr[i]? with
 | none => rw [e] at h; cases h
 | some o =>
   rw [e] at h
   cases o with
   | none => cases h
   | some j =>
     refine ⟨j, rfl, ?_⟩
     have h' : (σ[j]?).join = some v := by simpa using h
     cases e2 : σ[j]? with
     | none => rw [e2] at h'; cases h'
     | some w => rw [e2] at h'; cases w with
       | none => cases h'
       | some z => cases h'; rfl
section
variable {X : Cx} {scope : Scope} {N : List Str} {fr : List (Option Nat)}
theorem CompOk.cells (c : CompOk X scope N fr) (ok : X.Ok) : ∀ y ∈ scope.names, y.2 = .free → ∃ c, X.env.cells.lookup y.1 = some c := fun y hy e => ok.has y.1 (c.frees y hy e)
theorem CompOk.get (c : CompOk X scope N fr) (ok : X.Ok) {x : Str} {a : Addr} (h : (clOf X.env scope.names []).lookup x = some a) : X.env.cells.lookup x = some a :=
 clOf_get scope.names [] (c.cells ok) (fun _ _ z => by simp at z) h
theorem comp_ok {pins : List (Addr × Obj)} {σ : St} {H : Hp} {s₂ : Shared} {C : Addr} {fp : List Addr} (c : CompOk X scope N fr) (I : Inv X pins σ H s₂) (hC : s₂.heap.objs.size ≤ C) (hfp : ∀ b ∈ fp, FpOk X pins H b ∧ b < s₂.heap.objs.size) :
 (cxC X scope C N s₂ H fp).Ok where
 mod := I.ok.mod
 kind := c.kind
 glob := I.ok.glob
 blt := I.ok.blt
 above := hC
 inj := fun x y a h1 h2 => I.ok.inj x y a (c.get I.ok h1) (c.get I.ok h2)
 has := fun x h => by
  have hm : (x, NameKind.free) ∈ scope.names := by
   rcases h with h | h
   ·rcases relabel_get h with z | ⟨_, z⟩
    ·exact absurd rfl (c.ncell _ z)
    ·exact z
   ·rcases relabel_get h with z | ⟨z, _⟩
    ·exact z
    ·cases z
  exact clOf_has scope.names [] (.inl hm)
 cab := fun x a h => by cases h
 hd := I.ok.hd
 frames := I.ok.frames
 stk := .inl rfl
 exf := fun b hb => ⟨Nat.ne_of_lt (Nat.lt_of_lt_of_le (hfp b hb).2 hC), fun x a h => (hfp b hb).1.2.2.2.2.1 x a (c.get I.ok h)⟩
 bs := I.bs
 bsz := Nat.le_trans I.ok.bsz I.sz
 noex := fun b o e hb => by
  rcases (hfp b hb).1.2.2.2.1 with z | z
  ·exact I.ok.noex b o e z
  ·have h1 : b < X.base.objs.size := Heap.lt_size e
   have h2 := I.ok.bsz
   exact absurd (Nat.lt_of_lt_of_le h1 (Nat.le_trans h2 z)) (Nat.lt_irrefl _)
 exfs := fun b hb z => by
  rcases List.mem_cons.mp (I.stkSub b z) with e | e
  ·exact (hfp b hb).1.2.1 e
  ·exact (hfp b hb).1.2.2.1 e
 funs := I.stack
 frf := I.stkFree
theorem comp_inv {pins : List (Addr × Obj)} {σ : St} {H : Hp} {s₂ : Shared} {C : Addr} {fp : List Addr} {h₄ : Heap} {tk : Nat} (c : CompOk X scope N fr) (I : Inv X pins σ H s₂) (hC : s₂.heap.objs.size ≤ C) (hfp : ∀ b ∈ fp, FpOk X pins H b ∧ b < s₂.heap.objs.size)
 (hk : ∀ b o, s₂.heap.get? b = some o → h₄.get? b = some o) (hn : h₄.Ns C fun _ => none) : Inv (cxC X scope C N s₂ H fp) [] (stC fr σ) H { s₂ with heap := h₄, toks := tk } := by
 refine ⟨comp_ok c I hC hfp, rfl, I.bare, Un.kept hk, ⟨_, hn, fun i x v e1 e2 e3 => ?_⟩, fun x a e => ?_, I.hok.fresh hC, fun x a e => I.freeC x a (c.get I.ok e), fun p hp => absurd (show p ∈ ([] : List (Addr × Obj)) from hp) (by simp), I.hok.kept hk, ?_⟩
 ·obtain ⟨j, f1, f2⟩ := stC_get e2
  obtain ⟨g1, g2, g3⟩ := c.fr.get e1 f1
  obtain ⟨m, hm, hl⟩ := I.loc
  have vis : Vis X.env.scope x := by
   rcases g2 with g | g
   ·exact .inr (.inl g)
   ·exact .inr (.inr g)
  obtain ⟨u, ru, lk⟩ := hl j x v g1 f2 vis
  refine ⟨u, ru, ?_⟩
  rcases lk with ⟨k, _⟩ | ⟨_, a, ea, o, ho, hd⟩
  ·rcases g2 with g | g <;> (rw [k] at g; cases g)
  ·obtain ⟨a', ea'⟩ := clOf_has (env := X.env) scope.names [] (.inl (PySem.mem_of_lookup g3))
   have e5 := c.get I.ok ea'
   rw [ea] at e5
   cases e5
   have kd : (cxC X scope C N s₂ H fp).env.kindOf x = some .cell ∨ (cxC X scope C N s₂ H fp).env.kindOf x = some .free := relabel_free g3
   exact .inr ⟨kd, a, ea', o, hk _ _ ho, hd⟩
 ·obtain ⟨v, o, ho, hd⟩ := I.cell x a (c.get I.ok e)
  exact ⟨v, o, hk _ _ ho, hd⟩
 ·unfold stC
  rw [List.length_map]
  exact c.fr.len
end
section
variable {prog : Program} {w : World} {A : Around} {E : Value → Shared → Prop} {R : Result → Shared → Prop} {s : Shared}
theorem compLoop_any {elt target iter : Expr} {ifs : List Expr} {scope : Scope} {pos : Pos} {it acc : Value} {env : Env} (I : Nat → Shared → Prop)
 (turn : ∀ n s, I n s → wpAny (model prog w) A (pyNext it) (fun r s₁ => match r with
  | none => R (.ok .next) s₁
  | some v => wpAny (model prog w) A (letOwnedTupleGo target it v) (fun _ s₀ => wpAny (model prog w) A (assign target env v) (fun _ s₂ =>
   wpAny (model prog w) A (forIn ifs true fun c r => if r = true then do let ok ← isTrue c env (eval c env); pure (ForInStep.yield ok) else pure (ForInStep.yield r)) (fun ok s₃ =>
    if ok = true then wpAny (model prog w) A (eval elt env) (fun x s₄ =>
     wpAny (model prog w) A (call (.builtin "list.append") [acc, x]) (fun _ s₅ => ∃ m, m < n ∧ I m s₅) (fun _ _ => False) s₄) (fun _ _ => False) s₃
    else ∃ m, m < n ∧ I m s₃) (fun _ _ => False) s₂) (fun _ _ => False) s₀) (fun _ _ => False) s₁) (fun _ _ => False) s)
 (n : Nat) (h : I n s) :
 codeAny (model prog w) A (.compLoop (.ListComp elt [⟨target, iter, ifs, 0⟩] scope pos) 0 it acc env) R s := by
 refine codeAny_loop rfl I (fun n s hI => ?_) n h
 show wpAny _ A ((compTurn (.ListComp elt [⟨target, iter, ifs, 0⟩] scope pos) 0 it acc env).onRaise (fun x => do noteFrame x env; theTreesLotGoes x)) _ _ s
 refine wpAny_noted ?_
 rw [compTurn_list]
 have nf : ∀ {α : Type} {m : Sem α} {Q : α → Shared → Prop} {F : Value → Shared → Prop} {s : Shared}, wpAny (model prog w) A m Q (fun _ _ => False) s → wpAny (model prog w) A m Q F s := fun h => wpAny_mono h (fun _ _ x => x) fun _ _ x => x.elim
 refine wpAny_bind (wpAny_standAt (wpAny_bind (wpAny_mono (nf (turn n s hI)) (fun r s₁ h₁ => ?_) fun _ _ h' => h')))
 cases r with
 | none => exact wpAny_pure h₁
 | some v =>
   refine wpAny_bind (wpAny_mono (nf h₁) (fun _ s₀ h₀ => ?_) fun _ _ h' => h')
   refine wpAny_bind (wpAny_mono (nf h₀) (fun _ s₂ h₂ => wpAny_bind (wpAny_mono (nf h₂) (fun ok s₃ h₃ => ?_) fun _ _ h' => h')) fun _ _ h' => h')
   cases ok with
   | false => exact wpAny_pure ⟨rfl, h₃⟩
   | true =>
     exact wpAny_bind (wpAny_bind (wpAny_mono (nf h₃) (fun x s₄ h₄ => wpAny_bind (wpAny_mono (nf h₄) (fun _ s₅ h₅ => wpAny_pure (wpAny_pure ⟨rfl, h₅⟩)) fun _ _ h' => h')) fun _ _ h' => h'))
end
def Wk (fr : List (Option Nat)) (σ σ2 : St) : Prop := σ2.length = σ.length ∧ ∀ (i j : Nat), fr[i]? = some (some j) → σ2[i]? = σ[i]?
theorem Wk.trans {fr : List (Option Nat)} {a b c : St} (h1 : Wk fr a b) (h2 : Wk fr b c) : Wk fr a c := ⟨h2.1.trans h1.1, fun i j e => (h2.2 i j e).trans (h1.2 i j e)⟩
def GW (fr : List (Option Nat)) (g : TG) : Prop := ∀ x σ H (Q Q' : St → Hp → Prop), (∀ σ2 H2, Wk fr σ σ2 → Q σ2 H2 → Q' σ2 H2) → g x σ H Q → g x σ H Q'
def GWs (fr : List (Option Nat)) (g : TGs) : Prop := ∀ x σ H (Q Q' : St → Hp → Prop), (∀ σ2 H2, Wk fr σ σ2 → Q σ2 H2 → Q' σ2 H2) → g x σ H Q → g x σ H Q'
theorem gw_name {fr : List (Option Nat)} {i : Nat} (h : fr[i]? = some none) : GW fr (gName i) := fun x σ H Q Q' k q => by
 refine k _ _ ⟨by simp, fun a j e => ?_⟩ q
 have : i ≠ a := fun z => by subst z; rw [h] at e; cases e
 rw [List.getElem?_set_ne this]
theorem gws_nil {fr : List (Option Nat)} : GWs fr gNil := fun x σ H Q Q' k q => ⟨q.1, k _ _ ⟨rfl, fun _ _ _ => rfl⟩ q.2⟩
theorem gws_cons {fr : List (Option Nat)} {t : TG} {u : TGs} (h1 : GW fr t) (h2 : GWs fr u) : GWs fr (gCons t u) := fun x σ H Q Q' k q => by
 obtain ⟨v, r, e, q⟩ := q
 exact ⟨v, r, e, h1 v σ H _ _ (fun σ' H' w1 q1 => h2 r σ' H' _ _ (fun σ2 H2 w2 q2 => k _ _ (w1.trans w2) q2) q1) q⟩
theorem gw_tup {fr : List (Option Nat)} {K : PySem.W.Frag} {n : Nat} {t : TGs} (h : GWs fr t) : GW fr (gTup K n t) := fun x σ H Q Q' k q => by
 obtain ⟨a, xs, e1, e2, e3, q⟩ := q
 exact ⟨a, xs, e1, e2, e3, h xs σ H _ _ k q⟩
def PIfs (X : Cx) (ifs : List Expr) (t : TT) : Prop :=
 ∀ (pins : List (Addr × Obj)) (s : Shared) (σ : St) (H : Hp) (Q : Bool → Hp → Prop), Inv X pins σ H s → t σ H Q →
  wpAny (model X.prog X.w) X.A (forIn ifs true fun c r => if r = true then do let ok ← isTrue c X.env (eval c X.env); pure (ForInStep.yield ok) else pure (ForInStep.yield r)) (TP X pins σ Q) X.xe s
def tNoIf : TT := fun _ H Q => Q true H
theorem pifs_nil {X : Cx} : PIfs X [] tNoIf := fun _ _ _ H _ I h => wpAny_tests_nil ⟨H, I, h⟩
theorem pifs_one {X : Cx} {c : Expr} {t : TT} (h : PT X c t) : PIfs X [c] t := fun pins s σ H Q I q => wpAny_tests_one (h pins s σ H Q I q)
def CompI (J : It) (g : TG) (ti : TT) (te : TE) (σc : St) (H1 : Hp) (Q : VK) : Prop := ∃ W : Nat → Nat → List V → Hp → Prop, (∃ m, W 0 m [] H1) ∧ ∀ i m ys H, W i m ys H → ys.length < sizeLine ∧
 ((J.stop i H ∧ ∀ l, H l = none → Q (.ref l) (upd H l (.lst ys))) ∨ (J.go i H ∧ ∃ M : List V → Hp → Prop, (∀ ys' H', M ys' H' → ∃ m', m' < m ∧ W (i + 1) m' ys' H') ∧
   ∀ x H', J.yld i H x H' → g x σc H' fun σ2 H2 => ti σ2 H2 fun b H3 => if b = true then te σ2 H3 fun y H4 => M (ys ++ [y]) H4 else M ys H3))
def tComp (fr : List (Option Nat)) (wi : TI) (g : TG) (ti : TT) (te : TE) : TE := fun σ H Q => wi σ H fun J H1 => CompI J g ti te (stC fr σ) H1 Q
structure Aside (X : Cx) (pins : List (Addr × Obj)) (H : Hp) (C : Addr) : Prop where
 fr : H C = none
 ne : C ≠ X.env.locals
 ab : X.s₀.heap.objs.size ≤ C
 cl : ∀ x c, X.env.cells.lookup x = some c → c ≠ C
 pn : ∀ p ∈ X.pn ++ pins, p.1 ≠ C
theorem Inv.aside {X : Cx} {pins : List (Addr × Obj)} {σ : St} {H H' : Hp} {s : Shared} {C : Addr} (I : Inv X pins σ H s) (hC : s.heap.objs.size ≤ C) (hn : H' C = none) : Aside X pins H' C := by
 obtain ⟨a, b, c, d, e, f⟩ := I.fpOk hC hn
 exact ⟨hn, b, Nat.le_trans I.sz hC, e, f⟩
def lob (us : List Value) (n : Nat) : Obj := { cls := .type "list", dict := none, data := .seq us.toArray n }
section
variable {X : Cx} {scope : Scope} {N : List Str} {fr : List (Option Nat)} {tg iter elt : Expr} {ifs : List Expr} {pos : Pos} {J : It} {g : TG} {ti : TT} {te : TE}
theorem comp_core {pins : List (Addr × Obj)} {σ : St} {H : Hp} {s₂ : Shared} {it : Addr} {fp : List Addr} {tn : Nat → Heap → Prop} {Q : VK} {E : Value → Shared → Prop} (c : CompOk X scope N fr) (hc : X.calm = true) (I : Inv X pins σ H s₂)
 (T : Turn X.prog X.w X.K tg J fp it tn) (st : tn 0 s₂.heap) (hfp : ∀ b ∈ fp, FpOk X pins H b)
 (hg : ∀ C, PG (cxC X scope C N s₂ H fp) tg g) (hi : ∀ C, PIfs (cxC X scope C N s₂ H fp) ifs ti) (he : ∀ C, PE (cxC X scope C N s₂ H fp) elt te) (gw : GW fr g) (hq : CompI J g ti te (stC fr σ) H Q)
 {RR : Value → Addr → Result → Shared → Prop}
 (hRR : ∀ D C H' ys s', Inv X pins σ (upd H' D (.lst ys)) s' → Aside X pins (upd H' D (.lst ys)) C → (∃ m, s'.heap.Ns C m) → Q (.ref D) (upd H' D (.lst ys)) → RR (.ref D) C (.ok .next) s') :
 wpAny (model X.prog X.w) X.A (newList []) (fun acc s₃ => wpAny (model X.prog X.w) X.A (newFunctionEnv scope X.env.globals (clOf X.env scope.names []) [] X.env.qual none .none (some X.env)) (fun cenv s₄ =>
  codeAny (model X.prog X.w) X.A (.compStart (.ListComp elt [⟨tg, iter, ifs, 0⟩] scope pos) 0 (.ref it) acc { cenv with scope := relabel scope X.env }) (RR acc cenv.locals) s₄) E s₃) E s₂ := by
 refine wpAny_newObj_type (wpAny_newFunctionEnv c.ncell (by intro y hy; simp at hy) (fun h₁ hns₁ hsb₁ => ?_) c.kind)
 dsimp only at hns₁ hsb₁ ⊢
 generalize hH2 : s₂.heap.push { cls := .type "list", dict := none, data := .seq ([] : List Value).toArray } = H2 at hns₁ hsb₁ ⊢
 have hC : H2.objs.size = s₂.heap.objs.size + 1 := by rw [← hH2, Heap.size_push]
 have hCle : s₂.heap.objs.size ≤ H2.objs.size := by rw [hC]; exact Nat.le_succ _
 have hDC : s₂.heap.objs.size ≠ H2.objs.size := by rw [hC]; exact Nat.ne_of_lt (Nat.lt_succ_self _)
 have old : ∀ b o, s₂.heap.get? b = some o → h₁.get? b = some o := fun b o e => hsb₁.extBut b o (by rw [hC]; exact Nat.ne_of_lt (Nat.lt_succ_of_lt (Heap.lt_size e))) (Heap.get?_push_of_some _ (hH2 ▸ Heap.get?_push_of_some _ e))
 have hacc : h₁.get? s₂.heap.objs.size = some (lob [] 0) := hsb₁.extBut _ _ hDC (Heap.get?_push_of_some _ (hH2 ▸ Heap.get?_push_size _ rfl))
 generalize hD : s₂.heap.objs.size = D at *
 generalize hCC : H2.objs.size = C at *
 have hfp2 : ∀ b ∈ fp, FpOk X pins H b ∧ b < s₂.heap.objs.size := fun b hb => ⟨hfp b hb, by obtain ⟨o, e, _⟩ := T.obj _ _ st b hb; exact Heap.lt_size e⟩
 have hns₂ : h₁.Ns C fun _ => none := hns₁
 have I0 : Inv (cxC X scope C N s₂ H fp) [] (stC fr σ) H { s₂ with heap := h₁, toks := s₂.toks + ([] : List (Str × Value)).length } := comp_inv c I (by rw [hD]; exact hCle) hfp2 old hns₂
 have st₁ : tn 0 h₁ := T.keep _ _ _ st fun b hb o e => old b o e
 have hDn : ∀ b ∈ fp, b ≠ D := fun b hb => by rw [← hD]; exact Nat.ne_of_lt (hfp2 b hb).2
 have dAs : ∀ {H' : Hp}, H' D = none → (D ≠ (cxC X scope C N s₂ H fp).env.locals ∧ (cxC X scope C N s₂ H fp).s₀.heap.objs.size ≤ D ∧ ∀ x a, (cxC X scope C N s₂ H fp).env.cells.lookup x = some a → a ≠ D) := fun hn => ⟨hDC, Nat.le_of_eq hD, fun x a e z => by
  obtain ⟨v, o, ho, _⟩ := I.cell x a (c.get I.ok e)
  have := Heap.lt_size ho
  rw [z, ← hD] at this
  exact Nat.lt_irrefl _ this⟩
 obtain ⟨W, ⟨m0, w0⟩, turn⟩ := hq
 have loop : codeAny (model X.prog X.w) X.A (.compLoop (.ListComp elt [⟨tg, iter, ifs, 0⟩] scope pos) 0 (.ref it) (.ref D) (compEnvC scope (clOf X.env scope.names []) C X.env)) (RR (.ref D) C) { s₂ with heap := h₁, toks := s₂.toks + ([] : List (Str × Value)).length } := by
  refine compLoop_any (fun n s' => ∃ i ys us k H', Inv (cxC X scope C N s₂ H fp) [] (stC fr σ) H' s' ∧ tn i s'.heap ∧ (∀ b ∈ fp, H' b = none) ∧ s'.heap.get? D = some (lob us k) ∧ Vals ys us ∧ H' D = none ∧ W i n ys H') ?_ m0
   ⟨0, [], [], 0, H, I0, st₁, fun b hb => (hfp b hb).1, hacc, .nil, by rw [← hD]; exact I.hok.fresh (Nat.le_refl _), w0⟩
  rintro n s3 ⟨i, ys, us, k, H3, I3, st3, fr3, hD3, rv3, hDn3, w3⟩
  obtain ⟨hlen, alt⟩ := turn i n ys H3 w3
  obtain ⟨d1, d2, d3⟩ := dAs hDn3
  have I3p : Inv (cxC X scope C N s₂ H fp) [(D, lob us k)] (stC fr σ) H3 s3 := I3.pins_of fun p hp => by
   have e : p = (D, lob us k) := by simpa using hp
   subst e
   refine ⟨hD3, hDn3, d1, fun z => ?_, fun v e => by cases (show Data.seq us.toArray k = Data.cell v from e)⟩
   have z' : D ∈ frs X.stack := z
   rcases List.mem_cons.mp (I.stkSub D z') with e | e
   ·have := I.lt
    rw [← e, ← hD] at this
    exact Nat.lt_irrefl _ this
   ·exact I.nofs (Nat.le_of_eq hD) e
  have stat : ∀ {H' : Hp}, (∀ b ∈ fp, H' b = none) → ∀ b ∈ fp, FpOk (cxC X scope C N s₂ H fp) [(D, lob us k)] H' b := fun hn b hb => by
   obtain ⟨q1, q2⟩ := hfp2 b hb
   refine ⟨hn b hb, Nat.ne_of_lt (Nat.lt_of_lt_of_le q2 (by rw [hD]; exact hCle)), fun z => ?_, .inl hb, fun x a e => q1.2.2.2.2.1 x a (c.get I.ok e), fun p hp => ?_⟩
   ·exact (comp_ok c I (by rw [hD]; exact hCle) hfp2).exfs b hb z
   ·have e : p = (D, lob us k) := by simpa [cxC] using hp
    subst e
    exact (hDn b hb).symm
  rcases alt with ⟨stop, qn⟩ | ⟨go, M, hM, step⟩
  ·refine thn (T.done (cxC X scope C N s₂ H fp) rfl rfl rfl hc i _ s3 _ H3 _ I3p (stat fr3) st3 stop) fun r s4 ⟨hr, I4⟩ => ?_
   subst hr
   have pD := (I4.pin (D, lob us k) (by simp)).1
   have I4' : Inv (cxC X scope C N s₂ H fp) [] (stC fr σ) H3 s4 := I4.pins_of fun p hp => absurd hp (by simp)
   have IX : Inv X pins σ H3 s4 := I.call' I4'.os I4'.base I4'.hok I4'.bare fun b hb => by
    obtain ⟨q1, q2, q3, q4, q5, q6⟩ := hfp b hb
    exact ⟨q4, q2, q5, q6⟩
   have aD : Aside X pins H3 D := I.aside (Nat.le_of_eq hD) hDn3
   have IT : Inv X pins σ (upd H3 D (.lst ys)) s4 := IX.track hDn3 aD.ne aD.ab aD.cl aD.pn ⟨Nat.le_of_lt hlen, us, k, rv3, pD⟩
   refine hRR D C H3 ys s4 IT ?_ ?_ (qn D hDn3)
   ·refine I.aside (by rw [hD]; exact hCle) ?_
    rw [upd_ne (Ne.symm hDC)]
    exact I4'.free
   ·obtain ⟨m, hm, _⟩ := I4'.loc
    exact ⟨m, hm⟩
  ·refine thn (T.item (cxC X scope C N s₂ H fp) rfl rfl rfl hc i _ s3 _ H3 _ I3p (stat fr3) st3 go) fun r s4 ⟨u, hr, h4⟩ => ?_
   subst hr
   refine thn h4 fun _ s5 ⟨x, H5, I5, r5, y5, st5, fr5⟩ => ?_
   have I5' := I5.pinned (stat fr5) (T.obj _ _ st5)
   refine thn (hg C _ s5 _ H5 x u _ I5' r5 (gw x _ H5 _ _ (fun σ2 H2 wk q => And.intro wk q) (step x H5 y5))) fun _ s6 ⟨σ6, H6, I6, wk6, q6⟩ => ?_
   refine thn (hi C _ s6 σ6 H6 _ I6 q6) fun ok s7 ⟨H7, I7, q7⟩ => ?_
   have back : ∀ {σ8 : St} {H8 : Hp} {s8 : Shared}, σ8 = σ6 → Inv (cxC X scope C N s₂ H fp) ([(D, lob us k)] ++ pinsAt fp s5.heap) σ8 H8 s8 → Inv (cxC X scope C N s₂ H fp) [] (stC fr σ) H8 s8 ∧ tn (i + 1) s8.heap ∧ (∀ b ∈ fp, H8 b = none) ∧ s8.heap.get? D = some (lob us k) ∧ H8 D = none := fun {σ8 H8 s8} e8 I8 => by
    subst e8
    have pf : ∀ b o, b ∈ fp → s5.heap.get? b = some o → s8.heap.get? b = some o ∧ H8 b = none := fun b o hb e => by
     have := I8.pin (b, o) (List.mem_append_right _ (List.mem_append_right _ (mem_pinsAt hb e)))
     exact ⟨this.1, this.2.1⟩
    refine ⟨(I8.pins_of (pins' := []) fun p hp => absurd hp (by simp)).weak wk6.1.symm fun a v e => ?_, T.keep _ _ _ st5 fun b hb o e => (pf b o hb e).1, fun b hb => ?_, (I8.pin (D, lob us k) (by simp)).1, (I8.pin (D, lob us k) (by simp)).2.1⟩
    ·obtain ⟨j, f1, _⟩ := stC_get e
     rw [wk6.2 a j f1]
     exact e
    ·obtain ⟨o, e, _⟩ := T.obj _ _ st5 b hb
     exact (pf b o hb e).2
   cases ok with
   | false =>
     obtain ⟨m', hm, w7⟩ := hM _ _ (by simpa using q7)
     obtain ⟨a1, a2, a3, a4, a5⟩ := back rfl I7
     exact ⟨m', hm, i + 1, ys, us, k, H7, a1, a2, a3, a4, rv3, a5, w7⟩
   | true =>
     have q7' : te σ6 H7 fun y H4 => M (ys ++ [y]) H4 := by simpa using q7
     refine thn (he C _ s7 σ6 H7 _ I7 q7') fun v s8 ⟨y, H8, I8, ry, q8⟩ => ?_
     obtain ⟨m', hm, w8⟩ := hM _ _ q8
     obtain ⟨a1, a2, a3, a4, a5⟩ := back rfl I8
     have hus : us.toArray.size ≤ sizeLine := by
      rw [List.size_toArray, ← rv3.length]
      exact Nat.le_of_lt hlen
     refine wpAny_list_append_plain (hsz := hus) (l := D) (items := us.toArray) ⟨_, a4⟩ fun h₅ hl₅ hs₅ => ?_
     obtain ⟨k', hl₅'⟩ := hl₅
     obtain ⟨e1, e2, e3⟩ := dAs a5
     refine ⟨m', hm, i + 1, ys ++ [y], us ++ [v], k', H8, a1.turned (t' := s8.toks) (fun b o hb e => (hs₅.2 b hb).trans e) a5 e1 (.inr e2) e3 (fun p hp => absurd (show p ∈ ([] : List (Addr × Obj)) from hp) (by simp)), T.keep _ _ _ a2 fun b hb o e => (hs₅.2 b (hDn b hb)).trans e, a3, ?_, rv3.append (.cons ry .nil), a5, w8⟩
     show h₅.get? D = _
     rw [hl₅']
     simp [lob]
 exact codeAny_compStart_list loop (T.self _ _ _ _ _ st₁ loop)
theorem pe_comp {wi : TI} (c : CompOk X scope N fr) (hc : X.calm = true) (hi : PI X tg iter wi) (hg : ∀ C s₂ H fp, PG (cxC X scope C N s₂ H fp) tg g) (hf : ∀ C s₂ H fp, PIfs (cxC X scope C N s₂ H fp) ifs ti) (he : ∀ C s₂ H fp, PE (cxC X scope C N s₂ H fp) elt te) (gw : GW fr g)
 (hs : ∀ x, foldedSetIterable iter X.env x = pure x := by intro _; rfl) : PE X (.ListComp elt [⟨tg, iter, ifs, 0⟩] scope pos) (tComp fr wi g ti te) := by
 walk_at "z9"
 rw [eval_ListComp]
 refine wpAny_comprehension_free (use := none) rfl hs (closure_eq (c.cells I.ok)) c.kind c.names (thn (hi pins s σ H _ I h) fun v s1 h1 => thn h1 fun itv s2 h2 => ?_)
 obtain ⟨it, fp, tn, J, H2, e, I2, T, st2, f2, q⟩ := h2
 subst e
 refine comp_core (RR := fun acc C => compPost (model X.prog X.w) X.A X.xe none (EP X pins σ Q) acc C) c hc I2 T st2 f2 (fun C => hg C _ _ _) (fun C => hf C _ _ _) (fun C => he C _ _ _) gw q ?_
 intro D C H' ys s' IT as hm q
 obtain ⟨m, hm⟩ := hm
 exact ⟨m, hm, fun h' sb => ⟨.ref D, _, IT.turned (t' := s'.toks) (fun b o hb e => (sb.2 b hb).trans e) as.fr as.ne (.inr as.ab) as.cl as.pn, rfl, q⟩⟩
theorem ps_setC {wi : TI} {i : Nat} {x : Str} {pos' spos : Pos} (hN : X.N.Nodup) (hn : X.N[i]? = some x) (hx : Loc X.env.scope x) (c : CompOk X scope N fr) (hc : X.calm = true) (hi : PI X tg iter wi) (hg : ∀ C s₂ H fp, PG (cxC X scope C N s₂ H fp) tg g) (hf : ∀ C s₂ H fp, PIfs (cxC X scope C N s₂ H fp) ifs ti) (he : ∀ C s₂ H fp, PE (cxC X scope C N s₂ H fp) elt te) (gw : GW fr g)
 (hsw : swapsWith (.ListComp elt [⟨tg, iter, ifs, 0⟩] scope pos) (some (.Name x pos')) spos.line X.env = pure true := by rfl) (hs : ∀ x, foldedSetIterable iter X.env x = pure x := by intro _; rfl)
 (hfl : X.fn x = true ∨ X.env.scope.names.lookup x = some .local := by first | exact .inl rfl | exact .inr rfl | assumption) :
 PS X (.Assign [.Name x pos'] (.ListComp elt [⟨tg, iter, ifs, 0⟩] scope pos) spos) (tAsg (tComp fr wi g ti te) (gName i)) := by
 walk_at "z9"
 rw [exec_Assign_Name_used _ _ _ _ hsw]
 refine wpAny_bind (wpAny_standAt (wpAny_bind ?_))
 show wpAny _ X.A (do let _ ← comprehension (.ListComp elt [⟨tg, iter, ifs, 0⟩] scope pos) scope X.env _ (newList []) false (eval iter X.env) (some (assign (.Name x pos') X.env))) _ _ s
 refine wpAny_bind (wpAny_mono (wpAny_comprehension_free (use := some (assign (.Name x pos') X.env)) (Q := fun _ s' => SP X pins Q .next s') rfl hs (closure_eq (c.cells I.ok)) c.kind c.names
  (thn (hi pins s σ H _ I h) fun v s1 h1 => thn h1 fun itv s2 h2 => ?_)) (fun _ s' hq => wpAny_pure (wpAny_pure hq)) fun _ _ e => e)
 obtain ⟨it, fp, tn, J, H2, e, I2, T, st2, f2, q⟩ := h2
 subst e
 refine comp_core (RR := fun acc C => compPost (model X.prog X.w) X.A X.xe (some (assign (.Name x pos') X.env)) (fun _ s' => SP X pins Q .next s') acc C) c hc I2 T st2 f2 (fun C => hg C _ _ _) (fun C => hf C _ _ _) (fun C => he C _ _ _) gw q ?_
 intro D C H' ys s' IT as hm q
 obtain ⟨m, hm⟩ := hm
 show wpAny _ X.A (assign (.Name x pos') X.env (.ref D)) _ _ _
 refine wpAny_assign_Name (store_ok2 IT hN hn hx (v := .ref D) rfl (fun s2 I3 hsb => ?_) hfl)
 obtain ⟨a, sb, ha⟩ := hsb
 have hne : C ≠ a := by
  rcases ha with ha | ha
  ·rw [ha]; exact as.ne
  ·exact (as.cl _ _ ha).symm
 refine ⟨m, hm.sameBut sb hne, fun h' sb' => ⟨_, _, I3.turned (t' := s2.toks) (fun b o hb e => (sb'.2 b hb).trans e) as.fr as.ne (.inr as.ab) as.cl as.pn, q⟩⟩
end
end L2
namespace L2
open PySem PySem.Spec PyProof.Rows
theorem Inv.turnedL {X : Cx} {pins : List (Addr × Obj)} {σ : St} {H : Hp} {s : Shared} {h' : Heap} {t' : Nat} {fp : List Addr} (I : Inv X pins σ H s) (hf : ∀ b ∈ fp, FpOk X pins H b) (k : ∀ b o, b ∉ fp → s.heap.get? b = some o → h'.get? b = some o) :
 Inv X pins σ H { s with heap := h', toks := t' } := by
 have nit : ∀ b u, H b = some u → b ∉ fp := fun b u e z => by rw [(hf b z).1] at e; cases e
 refine I.step (g' := s.gens) (d' := s.drawn) (ch := fp) (fun b hb => ?_) (fun b o _ _ hc e _ => k b o hc e) (fun b o _ _ hc e _ => ⟨o.slots, k b o hc e⟩) (fun _ _ _ _ n => n)
  (fun b o hc e => ⟨o, k b o hc e⟩) (fun _ _ e => e) (fun _ _ _ e => e) (fun b ps e => ⟨#[], by rw [e]; simp⟩) (fun m hm => ?_) (fun b u e => ?_) I.bare
 ·obtain ⟨q1, q2, q3, q4, q5, q6⟩ := hf b hb
  exact ⟨q4, q2, q5, q6⟩
 ·obtain ⟨o, es, ep, ho, r⟩ := hm
  exact ⟨o, es, ep, k _ o (fun z => (hf _ z).2.1 rfl) ho, r⟩
 ·refine (I.hok b u e).stay (fun c v hc q => k c v ?_ q) (fun _ q => q) fun _ _ q => q
  rcases hc with z | z
  ·rw [z]; exact nit b u e
  ·exact nit c _ z
theorem Inv.turnT {X : Cx} {pins : List (Addr × Obj)} {σ : St} {H : Hp} {s : Shared} {h' : Heap} {t' : Nat} {fp : List Addr} {T : Addr} {xs : List V} {its : List Value} (I : Inv X pins σ H s) (hf : ∀ b ∈ fp, FpOk X pins H b) (k : ∀ b o, b ∉ fp → s.heap.get? b = some o → h'.get? b = some o)
 (hT : s.heap.objs.size ≤ T) (hz : xs.length ≤ sizeLine) (r : Vals xs its) (it : IsTup h' T its.toArray) : Inv X pins σ (upd H T (.tup xs)) { s with heap := h', toks := t' } := by
 have hn : H T = none := I.hok.fresh hT
 have a := I.aside hT hn
 exact (I.turnedL (t' := t') hf k).track hn a.ne a.ab a.cl a.pn ⟨hz, its, r, it⟩
def Itz (K : PySem.W.Frag) (a b : Addr) : It :=
 ⟨fun i H => ∃ xs ys x y, SqL K H a xs ∧ SqL K H b ys ∧ xs[i]? = some x ∧ ys[i]? = some y,
  fun i H v H' => ∃ T x y, v = .ref T ∧ H T = none ∧ H' = upd H T (.tup [x, y]) ∧ (∀ xs, SqL K H a xs → xs[i]? = some x) ∧ ∀ ys, SqL K H b ys → ys[i]? = some y,
  fun i H => ∃ xs ys, SqL K H a xs ∧ SqL K H b ys ∧ (xs.length ≤ i ∨ ys.length ≤ i)⟩
def ZipSt (z TI TO i1 i2 a b : Addr) (i : Nat) (h : Heap) : Prop := IsZip h z TI TO .none ∧ IsPair h TI (.ref i1) (.ref i2) ∧ (∃ u v, IsPair h TO u v) ∧ h.IsListIter i1 a i ∧ h.IsListIter i2 b i
theorem turn_zip {P : Program} {w : World} {K : PySem.W.Frag} {elts : List Expr} {kk : Nat} {tp : Pos} {z TI TO i1 i2 a b : Addr} (D : ZipApart z TI TO i1 i2 a b) :
 Turn P w K (.Tuple elts kk tp) (Itz K a b) [z, TI, TO, i1, i2] z (ZipSt z TI TO i1 i2 a b) where
 mem := by simp
 obj := fun i h st c hc => by
  obtain ⟨h1, h2, ⟨u, v, h3⟩, ⟨o1, e1, _, d1⟩, ⟨o2, e2, _, d2⟩⟩ := st
  walk_at "z23"
  rcases hc with rfl | rfl | rfl | rfl | rfl
  ·exact ⟨_, h1, fun v z => by cases (show Data.fields _ = Data.cell v from z)⟩
  ·exact ⟨_, h2, fun v z => by cases (show Data.seq _ _ = Data.cell v from z)⟩
  ·exact ⟨_, h3, fun v z => by cases (show Data.seq _ _ = Data.cell v from z)⟩
  ·exact ⟨_, e1, fun v z => by rw [d1] at z; cases z⟩
  ·exact ⟨_, e2, fun v z => by rw [d2] at z; cases z⟩
 keep := fun i h h' st k => by
  obtain ⟨h1, h2, ⟨u, v, h3⟩, h4, h5⟩ := st
  exact ⟨k _ (by simp) _ h1, k _ (by simp) _ h2, ⟨u, v, k _ (by simp) _ h3⟩, h4.at fun o e => k _ (by simp) o e, h5.at fun o e => k _ (by simp) o e⟩
 item := by
  walk_at "z7"
  subst hP hw hK
  obtain ⟨xs, ys, x, y, hx, hy, ex, ey⟩ := hg
  obtain ⟨h1, h2, ⟨u, v, h3⟩, h4, h5⟩ := st
  obtain ⟨its, rv, p, hz⟩ := I.list hx
  obtain ⟨jts, rw', q, hz'⟩ := I.list hy
  obtain ⟨ux, hux, rux⟩ := rv.get ex
  obtain ⟨uy, huy, ruy⟩ := rw'.get ey
  refine wpAny_pyNext_zip_item D h1 h2 h3 h4 h5 p.isList q.isList (x := ux) (y := uy) (by simpa using hux) (by simpa using huy) fun h' a1 a2 a3 a4 a5 a6 a7 => ?_
  have lt : ∀ c ∈ [z, TI, TO, i1, i2], c < s.heap.objs.size := fun c hc => by
   obtain ⟨o1, e1, _⟩ := h4
   obtain ⟨o2, e2, _⟩ := h5
   walk_at "z23"
   rcases hc with rfl | rfl | rfl | rfl | rfl
   ·exact Heap.lt_size h1
   ·exact Heap.lt_size h2
   ·exact Heap.lt_size h3
   ·exact Heap.lt_size e1
   ·exact Heap.lt_size e2
  have zT : z ≠ s.heap.objs.size := Nat.ne_of_lt (lt z (by simp))
  refine ⟨_, rfl, wpAny_letOwnedTupleGo_zip a1 fun h2' b1 b2 => ?_⟩
  have hk : ∀ c o, c ∉ [z, TI, TO, i1, i2] → s.heap.get? c = some o → h2'.get? c = some o := fun c o hc e => by
   simp only [List.mem_cons, List.not_mem_nil, or_false, not_or] at hc
   exact (b2.2 c hc.1).trans (a7 c o hc.1 hc.2.2.1 hc.2.2.2.1 hc.2.2.2.2 e)
  have I1 := I.turnT (h' := h2') (t' := s.toks) (T := s.heap.objs.size) (xs := [x, y]) (its := [ux, uy]) hf hk (Nat.le_refl _) (szl (Nat.le_of_ble_eq_true rfl)) (.cons rux (.cons ruy .nil)) ⟨_, (b2.2 _ zT.symm).trans a5, rfl, _, rfl⟩
  refine ⟨.ref s.heap.objs.size, _, I1, rfl, ⟨_, x, y, rfl, I.hok.fresh (Nat.le_refl _), rfl, fun xs' h => by rw [I.list_inj h hx]; exact ex, fun ys' h => by rw [I.list_inj h hy]; exact ey⟩, ?_, fun c hc => ?_⟩
  ·exact ⟨b1, (b2.2 _ D.TIz).trans (a7 _ _ D.TIz D.TITO D.TIi1 D.TIi2 h2), ⟨_, _, (b2.2 _ D.TOz).trans a2⟩, a3.at fun o e => (b2.2 _ D.i1z).trans e, a4.at fun o e => (b2.2 _ D.i2z).trans e⟩
  ·rw [upd_ne (Nat.ne_of_lt (lt c hc))]
   exact (hf c hc).1
 done := by
  walk_at "z7"
  subst hP hw hK
  obtain ⟨xs, ys, hx, hy, hl⟩ := hg
  obtain ⟨h1, h2, ⟨u, v, h3⟩, h4, h5⟩ := st
  obtain ⟨its, rv, p, hz⟩ := I.list hx
  obtain ⟨jts, rw', q, hz'⟩ := I.list hy
  have l1 := rv.length
  have l2 := rw'.length
  refine wpAny_pyNext_zip_end (I.ok.hd hc) D h1 h2 h3 h4 h5 p.isList q.isList ?_ fun h' hk => ⟨rfl, ?_⟩
  ·rcases hl with hl | hl
   ·left; simp; lia
   ·right; simp; lia
  ·exact I.turnedL (t' := s.toks) hf fun c o hc e => by
    simp only [List.mem_cons, List.not_mem_nil, or_false, not_or] at hc
    exact hk c o hc.1 hc.2.2.1 hc.2.2.2.1 hc.2.2.2.2 e
 self := fun A i s Q E st h => wpAny_pyIter_zip st.1 h
def iZip2 (K : PySem.W.Frag) (ta : TA) : TI := fun σ H R => ta σ H fun vs H1 => ∃ a b, vs = [.ref a, .ref b] ∧ (∃ xs, SqL K H1 a xs) ∧ (∃ ys, SqL K H1 b ys) ∧ R (Itz K a b) H1
theorem bt_zip : bootBuiltins "zip" = some (.type "zip") := by first | exact PySem.boot_zip | exact PyProof.Rows.boot_zip
theorem bt_enumerate : bootBuiltins "enumerate" = some (.type "enumerate") := by first | exact PySem.boot_enumerate | exact PyProof.Rows.boot_enumerate
section
variable {X : Cx} {elts : List Expr} {kk : Nat} {tp : Pos}
theorem pi_zip2 {a b : Expr} {ta : TA} {p pos : Pos} (hg : Gl X "zip") (hm : X.mg "zip" = none) (ha : PA X [a, b] ta) (hs : starEach [a, b] X.env = [(false, eval a X.env), (false, eval b X.env)] := by rfl) (hs2 : starEach [b] X.env = [(false, eval b X.env)] := by rfl) :
 PI X (.Tuple elts kk tp) (.Call (.Name "zip" p) [a, b] [] pos) (iZip2 X.K ta) := by
 intro pins s σ H R I h
 refine Call_ (ld_blt I hg hm bt_zip (PyProof.Rows.callWith_type1 (thn (ha pos pins s σ H _ I h) fun us s1 ⟨vs, H1, I1, r1, q1⟩ => ?_) (by rw [hs, hs2]) (by rw [hs2]; rfl)))
 obtain ⟨x, y, e, ⟨xs, hx⟩, ⟨ys, hy⟩, q⟩ := q1
 subst e
 cases r1 with
 | cons r rr =>
   cases rr with
   | cons r' rr =>
     cases rr
     obtain ⟨its, rv, pl, hz⟩ := I1.list hx
     obtain ⟨jts, rw', ql, hz'⟩ := I1.list hy
     cases r
     cases r'
     have a1 : x < s1.heap.objs.size := by obtain ⟨_, e, _⟩ := pl.isList; exact Heap.lt_size e
     have a2 : y < s1.heap.objs.size := by obtain ⟨_, e, _⟩ := ql.isList; exact Heap.lt_size e
     refine call_zip_2 pl.isList ql.isList fun h' b1 b2 b3 b4 b5 b6 b7 => ?_
     have I2 : Inv X pins σ H1 { s1 with heap := h' } := I1.kept (t' := s1.toks) b7
     refine wpAny_pyIter_zip (s := { s1 with heap := h' }) b1 ⟨_, _, _, _, H1, rfl, I2, turn_zip (zipApart_new a1 a2), ⟨b1, b2, ⟨_, _, b3⟩, b4, b5⟩, fun c hc => ?_, q⟩
     have hc' : s1.heap.objs.size ≤ c := by
      walk_at "z23"
      rcases hc with rfl | rfl | rfl | rfl | rfl
      ·exact Nat.le_add_right _ _
      ·exact Nat.le_add_right _ _
      ·exact Nat.le_add_right _ _
      ·exact Nat.le_refl _
      ·exact Nat.le_add_right _ _
     exact I1.fpOk hc' (I1.hok.fresh hc')
end
def Ite (K : PySem.W.Frag) (a : Addr) : It :=
 ⟨fun i H => ∃ xs x, SqL K H a xs ∧ xs[i]? = some x,
  fun i H v H' => ∃ T x, v = .ref T ∧ H T = none ∧ H' = upd H T (.tup [.int i, x]) ∧ (∀ xs, SqL K H a xs → xs[i]? = some x),
  fun i H => ∃ xs, SqL K H a xs ∧ xs.length ≤ i⟩
theorem turn_enum {P : Program} {w : World} {K : PySem.W.Frag} {elts : List Expr} {kk : Nat} {tp : Pos} {e it a : Addr} (hei : e ≠ it) :
 Turn P w K (.Tuple elts kk tp) (Ite K a) [e, it] e (fun i h => (∃ old, IsEnum h e it i old) ∧ h.IsListIter it a i) where
 mem := by simp
 obj := fun i h st c hc => by
  obtain ⟨⟨old, h1⟩, ⟨o1, e1, _, d1⟩⟩ := st
  walk_at "z23"
  rcases hc with rfl | rfl
  ·exact ⟨_, h1, fun v z => by cases (show Data.fields _ = Data.cell v from z)⟩
  ·exact ⟨_, e1, fun v z => by rw [d1] at z; cases z⟩
 keep := fun i h h' st k => by
  obtain ⟨⟨old, h1⟩, h2⟩ := st
  exact ⟨⟨old, k _ (by simp) _ h1⟩, h2.at fun o e => k _ (by simp) o e⟩
 item := by
  walk_at "z7"
  subst hP hw hK
  obtain ⟨xs, x, hx, ex⟩ := hg
  obtain ⟨⟨old, h1⟩, h2⟩ := st
  obtain ⟨its, rv, p, hz⟩ := I.list hx
  obtain ⟨ux, hux, rux⟩ := rv.get ex
  refine wpAny_pyNext_enum_item h1 h2 p.isList (x := ux) (by simpa using hux) hei fun h' a1 a2 a3 a4 a5 => ?_
  have lt : ∀ c ∈ [e, it], c < s.heap.objs.size := fun c hc => by
   obtain ⟨o1, e1, _⟩ := h2
   walk_at "z23"
   rcases hc with rfl | rfl
   ·exact Heap.lt_size h1
   ·exact Heap.lt_size e1
  have eT : e ≠ s.heap.objs.size := Nat.ne_of_lt (lt e (by simp))
  refine ⟨_, rfl, wpAny_letOwnedTupleGo_enum (s := { s with heap := h', toks := s.toks + 1 }) a1 fun h2' b1 b2 => ?_⟩
  have hk : ∀ c o, c ∉ [e, it] → s.heap.get? c = some o → h2'.get? c = some o := fun c o hc q => by
   simp only [List.mem_cons, List.not_mem_nil, or_false, not_or] at hc
   exact (b2.2 c hc.1).trans (a5 c o hc.1 hc.2 q)
  have I1 := I.turnT (h' := h2') (t' := s.toks + 1) (T := s.heap.objs.size) (xs := [.int i, x]) (its := [.int i s.toks, ux]) hf hk (Nat.le_refl _) (szl (Nat.le_of_ble_eq_true rfl)) (.cons ⟨_, rfl⟩ (.cons rux .nil)) ⟨_, (b2.2 _ eT.symm).trans a3, rfl, _, rfl⟩
  refine ⟨.ref s.heap.objs.size, _, I1, rfl, ⟨_, x, rfl, I.hok.fresh (Nat.le_refl _), rfl, fun xs' h => by rw [I.list_inj h hx]; exact ex⟩, ?_, fun c hc => ?_⟩
  ·exact ⟨⟨ux, by simpa using b1⟩, a2.at fun o q => (b2.2 _ hei.symm).trans q⟩
  ·rw [upd_ne (Nat.ne_of_lt (lt c hc))]
   exact (hf c hc).1
 done := by
  walk_at "z7"
  subst hP hw hK
  obtain ⟨xs, hx, hl⟩ := hg
  obtain ⟨⟨old, h1⟩, h2⟩ := st
  obtain ⟨its, rv, p, hz⟩ := I.list hx
  have l1 := rv.length
  refine wpAny_pyNext_enum_end (I.ok.hd hc) h1 h2 p.isList (by simp; lia) fun h' hk => ⟨rfl, ?_⟩
  exact I.turnedL (t' := s.toks) hf fun c o hc q => by
   simp only [List.mem_cons, List.not_mem_nil, or_false, not_or] at hc
   exact hk c o hc.2 q
 self := fun A i s Q E st h => by
  obtain ⟨⟨old, h1⟩, _⟩ := st
  exact wpAny_pyIter_enum h1 h
def iEnum (K : PySem.W.Frag) (ta : TA) : TI := fun σ H R => ta σ H fun vs H1 => ∃ a, vs = [.ref a] ∧ (∃ xs, H1 a = some (.lst xs)) ∧ R (Ite K a) H1
section
variable {X : Cx} {elts : List Expr} {kk : Nat} {tp : Pos}
theorem pi_enumerate1 {a : Expr} {ta : TA} {p pos : Pos} (hg : Gl X "enumerate") (hm : X.mg "enumerate" = none) (ha : PA X [a] ta) (hs : starEach [a] X.env = [(false, eval a X.env)] := by rfl) :
 PI X (.Tuple elts kk tp) (.Call (.Name "enumerate" p) [a] [] pos) (iEnum X.K ta) := by
 intro pins s σ H R I h
 refine Call_ (ld_blt I hg hm bt_enumerate (PyProof.Rows.callWith_type1 (thn (ha pos pins s σ H _ I h) fun us s1 ⟨vs, H1, I1, r1, q1⟩ => ?_) hs rfl))
 obtain ⟨x, e, ⟨xs, hx⟩, q⟩ := q1
 subst e
 cases r1 with
 | cons r rr =>
   cases rr
   cases r
   obtain ⟨hz, its, n, rv, hg⟩ := (show ObjOk X.prog X.w H1 s1.heap x (.lst xs) from I1.hok x _ hx)
   refine call_enumerate_1 hg fun h' b1 b2 b3 b4 => ?_
   have I2 : Inv X pins σ H1 { s1 with heap := h' } := I1.kept (t' := s1.toks) b4
   refine wpAny_pyIter_enum (s := { s1 with heap := h' }) b1 ⟨_, _, _, _, H1, rfl, I2, turn_enum (Nat.ne_of_gt (Nat.lt_succ_self _)), ⟨⟨_, b1⟩, b2⟩, fun c hc => ?_, q⟩
   have hc' : s1.heap.objs.size ≤ c := by
    walk_at "z23"
    rcases hc with rfl | rfl
    ·exact Nat.le_add_right _ _
    ·exact Nat.le_refl _
   exact I1.fpOk hc' (I1.hok.fresh hc')
end
end L2
namespace L2
open PySem PySem.Spec PyProof.Rows
section
variable {prog : Program} {w : World} {A : Around} {E : Value → Shared → Prop} {s : Shared}
theorem min_raw {l : Addr} {vs : List Value} {ns : List Int} {Q : Value → Shared → Prop} (hh : A.handled = none) (hl : s.heap.IsList l vs.toArray) (hi : IntsAre vs ns) (hne : 0 < ns.length)
 (h : ∀ h' M (t : Tok) tk, (∀ b o, s.heap.get? b = some o → h'.get? b = some o) → M ∈ ns → (∀ a, a ∈ ns → M ≤ a) → Q (.int M t) { s with heap := h', toks := tk }) : wpAny (model prog w) A (call (.builtin "min") [.ref l]) Q E s := by
 obtain ⟨xs, e⟩ := hi.allInts.items
 have hns : ns = xs.toList.map (·.1) := by
  rw [← hi.numsOf, ← nums_intItems, ← e]
 have hsz : 0 < xs.size := by
  have h3 := hne; rw [hns, List.length_map, Array.length_toList] at h3; exact h3
 rw [e] at hl
 refine min_intList hh hl hsz fun v h' tk hv hk => ?_
 obtain ⟨t, rfl⟩ := intItems_at hv
 obtain ⟨h1, h2⟩ := argBest_lt (numAt xs) (xs.size - 1)
 refine h _ _ t tk hk ?_ fun a ha => ?_
 ·rw [hns, numAt_eq]; exact PySem.getD_mem (by rw [List.length_map, Array.length_toList]; lia)
 ·rw [hns] at ha
  obtain ⟨j, hj, rfl⟩ := mem_getD ha
  rw [List.length_map, Array.length_toList] at hj
  rw [← numAt_eq]; exact h2 j (by lia)
theorem max_raw {l : Addr} {vs : List Value} {ns : List Int} {Q : Value → Shared → Prop} (hh : A.handled = none) (hl : s.heap.IsList l vs.toArray) (hi : IntsAre vs ns) (hne : 0 < ns.length)
 (h : ∀ h' M (t : Tok) tk, (∀ b o, s.heap.get? b = some o → h'.get? b = some o) → M ∈ ns → (∀ a, a ∈ ns → a ≤ M) → Q (.int M t) { s with heap := h', toks := tk }) : wpAny (model prog w) A (call (.builtin "max") [.ref l]) Q E s := by
 obtain ⟨xs, e⟩ := hi.allInts.items
 have hns : ns = xs.toList.map (·.1) := by
  rw [← hi.numsOf, ← nums_intItems, ← e]
 have hsz : 0 < xs.size := by
  have h3 := hne; rw [hns, List.length_map, Array.length_toList] at h3; exact h3
 rw [e] at hl
 refine max_intList hh hl hsz fun v h' tk hv hk => ?_
 obtain ⟨t, rfl⟩ := intItems_at hv
 obtain ⟨h1, h2⟩ := argBest_gt (numAt xs) (xs.size - 1)
 refine h _ _ t tk hk ?_ fun a ha => ?_
 ·rw [hns, numAt_eq]; exact PySem.getD_mem (by rw [List.length_map, Array.length_toList]; lia)
 ·rw [hns] at ha
  obtain ⟨j, hj, rfl⟩ := mem_getD ha
  rw [List.length_map, Array.length_toList] at hj
  rw [← numAt_eq]; exact h2 j (by lia)
theorem sum_raw {l : Addr} {vs : List Value} {ns : List Int} {Q : Value → Shared → Prop} (hh : A.handled = none) (hl : s.heap.IsList l vs.toArray) (hi : IntsAre vs ns)
 (h : ∀ h' tk t', (∀ b o, s.heap.get? b = some o → h'.get? b = some o) → Q (.int ns.sum t') { s with heap := h', toks := tk }) : wpAny (model prog w) A (call (.builtin "sum") [.ref l]) Q E s := by
 obtain ⟨xs, hx⟩ := hi.allInts.items
 have hl' : s.heap.IsList l (intItems xs) := hx ▸ hl
 refine sum_intListG hh hl' fun h' tk t' hk => ?_
 have e1 : ns = xs.toList.map (·.1) := by
  rw [← nums_intItems, ← hx]
  exact (show numsOf vs.toArray.toList = ns from hi.numsOf).symm
 have e2 : preSum (numAt xs) xs.size = ns.sum := by
  rw [preSum_eq, List.take_of_length_le (by simp), e1]
 rw [e2]
 exact h h' tk t' hk
end
def rSum (K : PySem.W.Frag) : List V → Hp → VK → Prop := fun xs H Q => ∃ p ns, xs = [.ref p] ∧ SqL K H p (iL ns) ∧ Q (.int ns.sum) H
def rMin (K : PySem.W.Frag) : List V → Hp → VK → Prop := fun xs H Q => (∃ i j, xs = [.int i, .int j] ∧ Q (.int (if j < i then j else i)) H) ∨ ∃ p ns, xs = [.ref p] ∧ SqL K H p (iL ns) ∧ 0 < ns.length ∧ ∀ m, m ∈ ns → (∀ a ∈ ns, m ≤ a) → Q (.int m) H
def rMax (K : PySem.W.Frag) : List V → Hp → VK → Prop := fun xs H Q => (∃ i j, xs = [.int i, .int j] ∧ Q (.int (if j > i then j else i)) H) ∨ ∃ p ns, xs = [.ref p] ∧ SqL K H p (iL ns) ∧ 0 < ns.length ∧ ∀ m, m ∈ ns → (∀ a ∈ ns, a ≤ m) → Q (.int m) H
section
variable {X : Cx}
theorem call_sumN (hc : X.calm = true) : CallR X (.builtin "sum") (rSum X.K) := by
 walk_at "z25"
 obtain ⟨p, ns, rfl, hq, q⟩ := h
 obtain ⟨u, rfl, ru⟩ := vals1 r
 cases ru
 obtain ⟨its, rv, pl, hz⟩ := I.list hq
 exact sum_raw (I.ok.hd hc) pl.isList (intsAre_of rv) fun h' tk t' hk => ⟨.int _, H, I.kept (t' := tk) hk, ⟨_, rfl⟩, q⟩
theorem call_minN (hc : X.calm = true) : CallR X (.builtin "min") (rMin X.K) := by
 walk_at "z25"
 rcases h with h | ⟨p, ns, rfl, hq, hne, q⟩
 ·exact call_min2 hc pins s σ H xs us Q I r h
 ·obtain ⟨u, rfl, ru⟩ := vals1 r
  cases ru
  obtain ⟨its, rv, pl, hz⟩ := I.list hq
  exact min_raw (I.ok.hd hc) pl.isList (intsAre_of rv) hne fun h' M t tk hk h1 h2 => ⟨.int M, H, I.kept (t' := tk) hk, ⟨_, rfl⟩, q M h1 h2⟩
theorem call_maxN (hc : X.calm = true) : CallR X (.builtin "max") (rMax X.K) := by
 walk_at "z25"
 rcases h with h | ⟨p, ns, rfl, hq, hne, q⟩
 ·exact call_max2 hc pins s σ H xs us Q I r h
 ·obtain ⟨u, rfl, ru⟩ := vals1 r
  cases ru
  obtain ⟨its, rv, pl, hz⟩ := I.list hq
  exact max_raw (I.ok.hd hc) pl.isList (intsAre_of rv) hne fun h' M t tk hk h1 h2 => ⟨.int M, H, I.kept (t' := tk) hk, ⟨_, rfl⟩, q M h1 h2⟩
end
section
variable {K : PySem.W.Frag} {H : Hp} {Q : VK} {p : Addr} {ns : List Int} {i j : Int}
theorem i_sum (h : SqL K H p (iL ns)) (q : Q (.int ns.sum) H) : rSum K [.ref p] H Q := ⟨p, ns, rfl, h, q⟩
theorem i_min2 (q : ∀ m, m = min i j → Q (.int m) H) : rMin K [.int i, .int j] H Q := .inl ⟨i, j, rfl, q _ (by split <;> lia)⟩
theorem i_max2 (q : ∀ m, m = max i j → Q (.int m) H) : rMax K [.int i, .int j] H Q := .inl ⟨i, j, rfl, q _ (by split <;> lia)⟩
theorem i_minL (h : SqL K H p (iL ns)) (hn : 0 < ns.length) (q : ∀ m, m ∈ ns → (∀ a ∈ ns, m ≤ a) → Q (.int m) H) : rMin K [.ref p] H Q := .inr ⟨p, ns, rfl, h, hn, q⟩
theorem i_maxL (h : SqL K H p (iL ns)) (hn : 0 < ns.length) (q : ∀ m, m ∈ ns → (∀ a ∈ ns, a ≤ m) → Q (.int m) H) : rMax K [.ref p] H Q := .inr ⟨p, ns, rfl, h, hn, q⟩
end
section
variable {K : PySem.W.Frag} {g : TG} {tb : TS} {D : Ends} {σ : St} {H : Hp}
theorem lp_zip {a b : Addr} {xs ys : List V} (Pv : Nat → St → Hp → Prop) (h0 : Pv 0 σ H) (hl : ∀ i σ H, Pv i σ H → SqL K H a xs ∧ SqL K H b ys)
 (hs : ∀ i x y T σ H, xs[i]? = some x → ys[i]? = some y → Pv i σ H → H T = none → g (.ref T) σ (upd H T (.tup [x, y])) fun σ2 H2 => tb { D with nx := Pv (i + 1), ct := Pv (i + 1), bk := D.nx } σ2 H2)
 (hd : ∀ σ H, Pv (min xs.length ys.length) σ H → D.nx σ H) : LoopI (Itz K a b) g tb D σ H := by
 refine ⟨fun i m σ H => m = min xs.length ys.length - i ∧ i ≤ min xs.length ys.length ∧ Pv i σ H, ⟨_, rfl, Nat.zero_le _, h0⟩, ?_⟩
 rintro i m σ H ⟨rfl, hi, p⟩
 obtain ⟨q1, q2⟩ := hl i σ H p
 by_cases hlt : i < min xs.length ys.length
 ·have l1 : i < xs.length := by lia
  have l2 : i < ys.length := by lia
  walk_at "z20"
  obtain ⟨T, x1, y1, rfl, hT, rfl, ex, ey⟩ := y
  exact hs i x1 y1 T σ H (ex xs q1) (ey ys q2) p hT
 ·have e : i = min xs.length ys.length := by lia
  refine .inl ⟨⟨xs, ys, q1, q2, by lia⟩, hd σ H (by rw [← e]; exact p)⟩
theorem lp_enum {a : Addr} {xs : List V} (Pv : Nat → St → Hp → Prop) (h0 : Pv 0 σ H) (hl : ∀ i σ H, Pv i σ H → SqL K H a xs)
 (hs : ∀ i x T σ H, xs[i]? = some x → Pv i σ H → H T = none → g (.ref T) σ (upd H T (.tup [.int i, x])) fun σ2 H2 => tb { D with nx := Pv (i + 1), ct := Pv (i + 1), bk := D.nx } σ2 H2)
 (hd : ∀ σ H, Pv xs.length σ H → D.nx σ H) : LoopI (Ite K a) g tb D σ H := by
 refine ⟨fun i m σ H => m = xs.length - i ∧ i ≤ xs.length ∧ Pv i σ H, ⟨_, rfl, Nat.zero_le _, h0⟩, ?_⟩
 rintro i m σ H ⟨rfl, hi, p⟩
 have q1 := hl i σ H p
 by_cases hlt : i < xs.length
 ·refine .inr ⟨⟨xs, xs[i], q1, by simp [hlt]⟩, Pv (i + 1), fun σ' H' p' => ⟨_, by lia, rfl, hlt, p'⟩, fun x H' y => ?_⟩
  obtain ⟨T, x1, rfl, hT, rfl, ex⟩ := y
  exact hs i x1 T σ H (ex xs q1) p hT
 ·have e : i = xs.length := by lia
  refine .inl ⟨⟨xs, q1, by lia⟩, hd σ H (by rw [← e]; exact p)⟩
end
section
variable {K : PySem.W.Frag} {g : TG} {ti : TT} {te : TE} {σc : St} {H : Hp} {Q : VK}
theorem cp_list {a : Addr} {xs : List V} (Pv : Nat → List V → Hp → Prop) (h0 : Pv 0 [] H) (hl : ∀ i ys H, Pv i ys H → SqL K H a xs ∧ ys.length ≤ i) (hx : xs.length < sizeLine)
 (hs : ∀ i x ys H, xs[i]? = some x → Pv i ys H → g x σc H fun σ2 H2 => ti σ2 H2 fun b H3 => if b = true then te σ2 H3 fun y H4 => Pv (i + 1) (ys ++ [y]) H4 else Pv (i + 1) ys H3)
 (hd : ∀ l ys H, Pv xs.length ys H → H l = none → Q (.ref l) (upd H l (.lst ys))) : CompI (Itl K a) g ti te σc H Q := by
 refine ⟨fun i m ys H => m = xs.length - i ∧ i ≤ xs.length ∧ Pv i ys H, ⟨_, rfl, Nat.zero_le _, h0⟩, ?_⟩
 rintro i m ys H ⟨rfl, hi, p⟩
 obtain ⟨q, hy⟩ := hl i ys H p
 refine ⟨by lia, ?_⟩
 by_cases hlt : i < xs.length
 ·walk_at "z29"
  obtain ⟨e, y⟩ := y
  subst e
  exact hs i x ys _ (y xs q) p
 ·have e : i = xs.length := by lia
  subst e
  exact .inl ⟨⟨xs, q, Nat.le_refl _⟩, fun l hl => hd l ys H p hl⟩
theorem cp_range {lo : Int} {n : Nat} (Pv : Nat → List V → Hp → Prop) (h0 : Pv 0 [] H) (hl : ∀ i ys H, Pv i ys H → ys.length ≤ i) (hx : n < sizeLine)
 (hs : ∀ i ys H, i < n → Pv i ys H → g (.int (lo + i)) σc H fun σ2 H2 => ti σ2 H2 fun b H3 => if b = true then te σ2 H3 fun y H4 => Pv (i + 1) (ys ++ [y]) H4 else Pv (i + 1) ys H3)
 (hd : ∀ l ys H, Pv n ys H → H l = none → Q (.ref l) (upd H l (.lst ys))) : CompI (Itr lo n) g ti te σc H Q := by
 refine ⟨fun i m ys H => m = n - i ∧ i ≤ n ∧ Pv i ys H, ⟨_, rfl, Nat.zero_le _, h0⟩, ?_⟩
 rintro i m ys H ⟨rfl, hi, p⟩
 have hy := hl i ys H p
 refine ⟨by lia, ?_⟩
 by_cases hlt : i < n
 ·refine .inr ⟨hlt, Pv (i + 1), fun σ' H' p' => ⟨_, by lia, rfl, hlt, p'⟩, fun x H' y => ?_⟩
  obtain ⟨e, y⟩ := y
  subst e y
  exact hs i ys _ hlt p
 ·have e : i = n := by lia
  subst e
  exact .inl ⟨Nat.le_refl _, fun l hl => hd l ys H p hl⟩
theorem cp_zip {a b : Addr} {xs ys : List V} (Pv : Nat → List V → Hp → Prop) (h0 : Pv 0 [] H) (hl : ∀ i zs H, Pv i zs H → SqL K H a xs ∧ SqL K H b ys ∧ zs.length ≤ i) (hx : min xs.length ys.length < sizeLine)
 (hs : ∀ i x y T zs H, xs[i]? = some x → ys[i]? = some y → Pv i zs H → H T = none → g (.ref T) σc (upd H T (.tup [x, y])) fun σ2 H2 => ti σ2 H2 fun b H3 => if b = true then te σ2 H3 fun y H4 => Pv (i + 1) (zs ++ [y]) H4 else Pv (i + 1) zs H3)
 (hd : ∀ l zs H, Pv (min xs.length ys.length) zs H → H l = none → Q (.ref l) (upd H l (.lst zs))) : CompI (Itz K a b) g ti te σc H Q := by
 refine ⟨fun i m zs H => m = min xs.length ys.length - i ∧ i ≤ min xs.length ys.length ∧ Pv i zs H, ⟨_, rfl, Nat.zero_le _, h0⟩, ?_⟩
 rintro i m zs H ⟨rfl, hi, p⟩
 obtain ⟨q1, q2, hy⟩ := hl i zs H p
 refine ⟨by lia, ?_⟩
 by_cases hlt : i < min xs.length ys.length
 ·have l1 : i < xs.length := by lia
  have l2 : i < ys.length := by lia
  walk_at "z20"
  obtain ⟨T, x1, y1, rfl, hT, rfl, ex, ey⟩ := y
  exact hs i x1 y1 T zs H (ex xs q1) (ey ys q2) p hT
 ·have e : i = min xs.length ys.length := by lia
  exact .inl ⟨⟨xs, ys, q1, q2, by lia⟩, fun l hl => hd l zs H (by rw [← e]; exact p) hl⟩
end
end L2
namespace L2
open PySem PySem.Spec PyProof.Rows
theorem fr_nil {X : Cx} {sc : Scope} : FrOk X sc [] [] := trivial
theorem fr_none {X : Cx} {sc : Scope} {x : Str} {N : List Str} {fr : List (Option Nat)} (h : FrOk X sc N fr) : FrOk X sc (x :: N) (none :: fr) := h
theorem fr_some {X : Cx} {sc : Scope} {x : Str} {N : List Str} {fr : List (Option Nat)} {j : Nat} (h1 : X.N[j]? = some x) (h2 : X.env.kindOf x = some .cell ∨ X.env.kindOf x = some .free) (h3 : sc.names.lookup x = some .free) (h : FrOk X sc N fr) : FrOk X sc (x :: N) (some j :: fr) := ⟨⟨h1, h2, h3⟩, h⟩
theorem pe_globI {X : Cx} {x : Str} {n : Int} {pos : Pos} (h : ∃ t, X.mg x = some (.int n t)) (hg : Gl X x) (hd : (x == ("__debug__" : Str)) = false := by decide) : PE X (.Name x pos) (tC (.int n)) := by
 obtain ⟨t, h⟩ := h
 exact pe_glob hg h ⟨t, rfl⟩ hd
end L2
namespace L2
open PySem PySem.Spec PyProof.Rows
section
variable {X : Cx} (K : PySem.W.Frag) {tg l : Expr} {tl : TE} {pos p : Pos}
theorem op_eqK (hu : X.A.units + 64 < cLine) (hK : X.K = K := by rfl) : OpR X (compareOp .Eq) (rEqP K) := by subst hK; exact op_eqP hu
theorem op_neK (hu : X.A.units + 64 < cLine) (hK : X.K = K := by rfl) : OpR X (compareOp .NotEq) (rNeP K) := by subst hK; exact op_neP hu
theorem ix_K (hK : X.K = K := by rfl) : IxR X (rIxP K) := by subst hK; exact ix_P
theorem sl_listK (hK : X.K = K := by rfl) : SlR X (rSlL K) := by subst hK; exact sl_list
theorem call_lenK (hK : X.K = K := by rfl) : CallR X (.builtin "len") (rLen K) := by subst hK; exact call_lenN
theorem call_isinstanceK (hK : X.K = K := by rfl) : CallR X (.builtin "isinstance") (rIsi K) := by subst hK; exact call_isinstanceN
theorem call_sumK (hc : X.calm = true := by rfl) (hK : X.K = K := by rfl) : CallR X (.builtin "sum") (rSum K) := by subst hK; exact call_sumN hc
theorem call_minK (hc : X.calm = true := by rfl) (hK : X.K = K := by rfl) : CallR X (.builtin "min") (rMin K) := by subst hK; exact call_minN hc
theorem call_maxK (hc : X.calm = true := by rfl) (hK : X.K = K := by rfl) : CallR X (.builtin "max") (rMax K) := by subst hK; exact call_maxN hc
theorem call_intK : CallR X (.type "int") rIntOf := call_intN
theorem call_absK : CallR X (.builtin "abs") rAbs := call_absN
theorem pi_listK (hl : PE X l tl) (hK : X.K = K := by rfl) : PI X tg l (iList K tl) := by subst hK; exact pi_list hl
theorem pi_zip2K {elts : List Expr} {kk : Nat} {tp : Pos} {a b : Expr} {ta : TA} (hg : Gl X "zip") (hm : X.mg "zip" = none) (ha : PA X [a, b] ta) (hs : starEach [a, b] X.env = [(false, eval a X.env), (false, eval b X.env)] := by rfl) (hs2 : starEach [b] X.env = [(false, eval b X.env)] := by rfl) (hK : X.K = K := by rfl) :
 PI X (.Tuple elts kk tp) (.Call (.Name "zip" p) [a, b] [] pos) (iZip2 K ta) := by subst hK; exact pi_zip2 hg hm ha hs hs2
theorem pi_enumerate1K {elts : List Expr} {kk : Nat} {tp : Pos} {a : Expr} {ta : TA} (hg : Gl X "enumerate") (hm : X.mg "enumerate" = none) (ha : PA X [a] ta) (hs : starEach [a] X.env = [(false, eval a X.env)] := by rfl) (hK : X.K = K := by rfl) :
 PI X (.Tuple elts kk tp) (.Call (.Name "enumerate" p) [a] [] pos) (iEnum K ta) := by subst hK; exact pi_enumerate1 hg hm ha hs
theorem pg_tupK {es : List Expr} {k : Nat} {t : TGs} (n : Nat) (h : PGs X es t) (hc : X.calm = true := by rfl) (hn : (assignEach es X.env).length = n := by rfl) (hst : (assignEach es X.env).findIdx? (·.1) = none := by rfl) (hK : X.K = K := by rfl) : PG X (.Tuple es k pos) (gTup K n t) := by
 subst hK; exact pg_tup hc h hn hst
theorem pt_truthK {a : Expr} {ta : TE} (ha : PE X a ta) (he : ∀ whole, isTrue a X.env whole = (do let v ← whole; standAt a.pos; holding [v] (truthy v)) := by intro _; rfl) (hK : X.K = K := by rfl) : PT X a (tTru K ta) := by
 subst hK; exact pt_truthN ha he
theorem pe_bmK {o e : Expr} {es : List Expr} {to : TE} {t : TA} {name : Str} {apos cpos : Pos} {T id : String} {r : V → List V → Hp → VK → Prop} (pa : PlainAttrs T) (slot : Slot T name id) (hty : typeOf (.builtin id) = pure (.type "method_descriptor")) (hm : MtR X id r) (ho : PE X o to) (ha : PA X (e :: es) t)
 (hbase : attributeBase o name X.env (eval o X.env) = eval o X.env := by rfl)
 (hfew : ((backTo cpos (starEach (e :: es) X.env)).all (fun x => !x.1) && (backToKw cpos (keywordEach [] X.env)).all (fun x => x.1.isSome)
  && decide ((e :: es).length + ([] : List Keyword).length + (if ([] : List Keyword).isEmpty then 0 else 1) < 30)) = true := by rfl)
 (hline : (apos.endLine == cpos.line) = true := by rfl) (hs : starEach (e :: es) X.env = (false, eval e X.env) :: starEach es X.env := by rfl) (hplain : (backTo cpos (starEach es X.env)).any (·.1) = false := by rfl) (hK : X.K = K := by rfl) :
 PE X (.Call (.Attribute o name apos) (e :: es) [] cpos) (tBM K T r to t) := by
 subst hK; exact pe_bm pa slot hty hm ho ha hbase hfew hline hs hplain
theorem pe_bm0K {o : Expr} {to : TE} {name : Str} {apos cpos : Pos} {T id : String} {r : V → List V → Hp → VK → Prop} (pa : PlainAttrs T) (slot : Slot T name id) (hty : typeOf (.builtin id) = pure (.type "method_descriptor")) (hm : MtR X id r) (ho : PE X o to)
 (hbase : attributeBase o name X.env (eval o X.env) = eval o X.env := by rfl) (hline : (apos.endLine == cpos.line) = true := by rfl) (hK : X.K = K := by rfl) : PE X (.Call (.Attribute o name apos) [] [] cpos) (tBM0 K T r to) := by
 subst hK; exact pe_bm0 pa slot hty hm ho hbase hline
end
end L2
namespace L2
open PySem PySem.Spec PyProof.Rows
section
variable {K : PySem.W.Frag} {H : Hp} {Q : VK} {n : Nat}
theorem pd_tup {t : Addr} {ds : List PyData} {xs : List V} (h : SqT K H t xs) (p : Paired (PdAt K H n) ds xs) : PdAt K H (n + 1) (.tuple ds) (.ref t) := ⟨t, xs, rfl, h, p⟩
theorem pd_lst {t : Addr} {ds : List PyData} {xs : List V} (h : SqL K H t xs) (p : Paired (PdAt K H n) ds xs) : PdAt K H (n + 1) (.list ds) (.ref t) := ⟨t, xs, rfl, h, p⟩
theorem i_neSame {x y : V} (d : PyData) (hx : PdAt K H 9 d x) (hy : PdAt K H 9 d y) (q : Q (.bl false) H) : rNeP K x y H Q := ⟨d, d, hx, hy, by
 rw [PySem.SeqAt.eqv_refl d (pd_shape 9 d x hx).1]; exact q⟩
theorem i_eqSame {x y : V} (d : PyData) (hx : PdAt K H 9 d x) (hy : PdAt K H 9 d y) (q : Q (.bl true) H) : rEqP K x y H Q := ⟨d, d, hx, hy, by
 rw [PySem.SeqAt.eqv_refl d (pd_shape 9 d x hx).1]; exact q⟩
end
end L2
namespace L2
open PySem PySem.Spec PyProof.Rows
theorem i_popS {H : Hp} {Q : VK} {l : Addr} {xs : List V} {y : V} (h : H l = some (.lst (xs ++ [y]))) (q : Q y (upd H l (.lst xs))) : rPop (.ref l) [] H Q := ⟨l, _, y, rfl, rfl, h, by simp, by simpa using q⟩
end L2
namespace L2
open PySem PySem.Spec PyProof.Rows
def Itd (lo : Int) (n : Nat) : It := ⟨fun i _ => i < n, fun i H x H' => H' = H ∧ x = .int (lo - i), fun i _ => n ≤ i⟩
section
variable {X : Cx} {tg : Expr}
def iRng3 (ta : TA) : TI := fun σ H R => ta σ H fun vs H1 => ∃ i j : Int, vs = [.int i, .int j, .int (-1)] ∧ (-(2 ^ 62) ≤ i ∧ i < 2 ^ 62 ∧ -(2 ^ 62) ≤ j ∧ j < 2 ^ 62) ∧ R (Itd i (i - j).toNat) H1
end
section
variable {K : PySem.W.Frag} {g : TG} {tb : TS} {D : Ends} {σ : St} {H : Hp}
theorem lp_tup {a : Addr} {xs : List V} (Pv : Nat → St → Hp → Prop) (h0 : Pv 0 σ H) (hl : ∀ i σ H, i ≤ xs.length → Pv i σ H → SqT K H a xs)
 (hs : ∀ i x σ H, xs[i]? = some x → Pv i σ H → g x σ H fun σ2 H2 => tb { D with nx := Pv (i + 1), ct := Pv (i + 1), bk := D.nx } σ2 H2) (hd : ∀ σ H, Pv xs.length σ H → D.nx σ H) : LoopI (Itt K a) g tb D σ H := by
 refine ⟨fun i m σ H => m = xs.length - i ∧ i ≤ xs.length ∧ Pv i σ H, ⟨_, rfl, Nat.zero_le _, h0⟩, ?_⟩
 rintro i m σ H ⟨rfl, hi, p⟩
 have q := hl i σ H hi p
 by_cases hlt : i < xs.length
 ·walk_at "z29"
  obtain ⟨e, y⟩ := y
  subst e
  exact hs i x σ _ (y xs q) p
 ·have e : i = xs.length := by lia
  subst e
  exact .inl ⟨⟨xs, q, Nat.le_refl _⟩, hd σ H p⟩
end
section
variable {X : Cx} (K : PySem.W.Frag)
theorem pi_tupK {tg l : Expr} {tl : TE} (hl : PE X l tl) (hK : X.K = K := by rfl) : PI X tg l (iTup K tl) := by subst hK; exact pi_tup hl
def rIsB (neg : Bool) : R2 := fun x y H Q => ∃ a b : Bool, x = .bl a ∧ y = .bl b ∧ Q (.bl (if neg then !decide (a = b) else decide (a = b))) H
theorem i_isB {a b : Bool} {H : Hp} {Q : VK} (q : Q (.bl (decide (a = b))) H) : rIsB false (.bl a) (.bl b) H Q := ⟨a, b, rfl, rfl, q⟩
theorem i_isNotB {a b : Bool} {H : Hp} {Q : VK} (q : Q (.bl (!decide (a = b))) H) : rIsB true (.bl a) (.bl b) H Q := ⟨a, b, rfl, rfl, q⟩
end
end L2
namespace L2
open PySem PySem.Spec PyProof.Rows
theorem dict_mapFields (o : Obj) (g : Array Value → Array Value) : (o.mapFields g).dict = o.dict := by
 rcases o with ⟨c, d, dt, sl⟩
 cases dt <;> rfl
def TrD (h B : Heap) (e : Addr) (cls fl : Value) : Prop :=
 ∃ oe vs T oT ts, h.get? e = some oe ∧ (oe.cls = cls ∧ oe.dict = none) ∧ oe.data = .fields vs ∧ vs[1]? = some (.ref T) ∧ B.get? T = none ∧ T ≠ e ∧ h.get? T = some oT ∧ oT.data = .fields ts ∧ ts[3]? = some fl
structure FlyAt (B : Heap) (l : List Env) (e : Addr) (cls fl : Value) (h : Heap) : Prop where
 st : B.StaysIn h
 ne : B.get? e = none
 fr : h.FunFrames B l
 tr : TrD h B e cls fl
abbrev Fly (B : Heap) (l : List Env) (e : Addr) (cls : Value) (h : Heap) : Prop := FlyAt B l e cls .none h
theorem FlyAt.there {B : Heap} {l : List Env} {e : Addr} {cls fl : Value} {h : Heap} (x : FlyAt B l e cls fl h) : ∃ o vs, h.get? e = some o ∧ o.cls = cls ∧ o.dict = none ∧ o.data = .fields vs := by
 obtain ⟨oe, vs, T, oT, ts, h1, ⟨h2, h3⟩, h4, _⟩ := x.tr
 exact ⟨oe, vs, h1, h2, h3, h4⟩
section
variable {M : Model} {A : Around} {E : Value → Shared → Prop} {s : Shared} {B : Heap} {env : Env} {outer : List Env} {L e : Addr}
theorem fly_entry {oe : Obj} {vs : Array Value} {head : Value} {had : Bool} {Q : Unit → Shared → Prop} (hfr : A.frames = some (env :: outer)) (hl : s.heap.FunFrames B (env :: outer)) (hf : env.frame = some L) (he : s.heap.get? e = some oe) (hB : B.StaysIn s.heap) (hn : B.get? e = none) (hd : oe.data = .fields vs) (hz : 1 < vs.size) (hdn : oe.dict = none)
 (k : ∀ h', FlyAt B (env :: outer) e oe.cls (rawInt L) h' → s.heap.UpToSlots h' → Q () { s with heap := h' }) :
 wpAny M A (do let fr ← frameOf env; let pl ← entryPlaceOf L had; let tb ← EntryCells.newEntry head fr .none (rawInt L) .none pl; setField (.ref e) 1 tb) Q E s := by
 have noFr : e ∉ (env :: outer).filterMap (·.frame) := fun hm => by
  obtain ⟨_, ob, hob, hno⟩ := hl.mem hm
  rw [he] at hob
  cases hob
  exact hno vs hd
 refine wpAny_bind (wpAny_frameOf_fun hfr hl hf fun ha sa => ?_)
 refine wpAny_bind (wpAny_entryPlaceOf fun pl hpl => ?_)
 unfold EntryCells.newEntry newFields
 refine wpAny_bind (wpAny_newObj_type ?_ (hpl.sizeOk5 _ _ _ _ _))
 have ea : ha.get? e = some oe := by rw [sa.2.1 e noFr]; exact he
 have Ba : B.StaysIn ha := fun b o z => by
  rw [sa.2.1 b fun hm => by rw [(hl.mem hm).1] at z; cases z]
  exact hB b o z
 generalize hO : ({ cls := .type "traceback", dict := none, data := .fields ([head, .ref L, .none, rawInt L, .none] ++ (if pl.isEmpty then List.replicate 6 Value.none else pl)).toArray } : Obj) = oT
 have hOd : oT.data = .fields ([head, .ref L, .none, rawInt L, .none] ++ (if pl.isEmpty then List.replicate 6 Value.none else pl)).toArray := by rw [← hO]
 have hOf : oT.isFreed = false := Obj.isFreed_of_fields hOd
 have eb : (ha.push oT).get? e = some oe := Heap.get?_push_of_some _ ea
 have Tb : (ha.push oT).get? ha.objs.size = some oT := Heap.get?_push_size _ hOf
 have Te : ha.objs.size ≠ e := fun z => by rw [← z] at ea; exact absurd (Heap.lt_size ea) (Nat.lt_irrefl _)
 refine wpAny_setField eb hd hz (k _ ?_ ?_)
 ·have md := Obj.data_mapFields hd (·.setIfInBounds 1 (Value.ref ha.objs.size))
  have ec := Heap.get?_update_self (Obj.mapFields (·.setIfInBounds 1 (Value.ref ha.objs.size))) eb (Obj.isFreed_of_fields md)
  have Tc : ((ha.push oT).update e (Obj.mapFields (·.setIfInBounds 1 (Value.ref ha.objs.size)))).get? ha.objs.size = some oT := by rw [Heap.get?_update_other _ _ (Ne.symm Te)]; exact Tb
  have kc : ∀ b o, b ≠ e → ha.get? b = some o → ((ha.push oT).update e (Obj.mapFields (·.setIfInBounds 1 (Value.ref ha.objs.size)))).get? b = some o := fun b o nb z => by
   rw [Heap.get?_update_other _ _ (Ne.symm nb)]
   exact Heap.get?_push_of_some _ z
  refine ⟨fun b o z => kc b o (fun q => by rw [q, hn] at z; cases z) (Ba b o z), hn, hl.of_keeps fun b o z hno => ?_, ⟨_, _, ha.objs.size, oT, _, ec, ⟨Obj.cls_mapFields _ _, (dict_mapFields _ _).trans hdn⟩, md, by simp [hz], ?_, Te, Tc, hOd, ?_⟩⟩
  ·obtain ⟨sl, z2⟩ := sa.2.2 b o z
   exact ⟨_, kc b _ (fun q => by rw [q, he] at z; cases z; exact hno vs hd) z2, rfl⟩
  ·cases q : B.get? ha.objs.size with
   | none => rfl
   | some o => exact absurd (Heap.lt_size (Ba _ _ q)) (Nat.lt_irrefl _)
  ·rcases hpl with rfl | ⟨_, _, _, _, _, _, _, rfl⟩ <;> simp
 ·intro b o z hno
  obtain ⟨sl, z2⟩ := sa.2.2 b o z
  refine ⟨sl, ?_⟩
  have nb : b ≠ e := fun q => by rw [q, he] at z; cases z; exact hno vs hd
  show ((ha.push oT).update e _).get? b = _
  rw [Heap.get?_update_other _ _ (Ne.symm nb)]
  exact Heap.get?_push_of_some _ z2
theorem fly_lands {l : List Env} {cls fl : Value} {Q : Unit → Shared → Prop} (x : FlyAt B l e cls fl s.heap) (k : ∀ h', Fly B l e cls h' → s.heap.UpToSlots h' → Q () { s with heap := h' }) : wpAny M A (setFlight (.ref e) none) Q E s := by
 obtain ⟨x1, x2, x3, oe, vs, T, oT, ts, t1, t2, t3, t4, t5, t6, t7, t8, t9⟩ := x
 have sz : 3 < ts.size := (Array.getElem?_eq_some_iff.mp t9).1
 unfold setFlight
 refine wpAny_bind (wpAny_field t1 t3 t4 ?_)
 rw [if_pos (by simp)]
 have oth : ∀ b, b ≠ T → (s.heap.update T (Obj.mapFields (·.setIfInBounds 3 Value.none))).get? b = s.heap.get? b := fun b nb => Heap.get?_update_other _ _ (Ne.symm nb)
 have rec0 : ∀ b o, s.heap.get? b = some o → (∀ us, o.data ≠ .fields us) → b ≠ T := fun b o z hno q => by rw [q, t7] at z; cases z; exact hno ts t8
 refine wpAny_setField t7 t8 sz (k _ ⟨fun b o z => ?_, x2, x3.of_keeps fun b o z hno => ⟨o, (oth b (rec0 b o z hno)).trans z, rfl⟩, oe, vs, T, _, _, (oth e (Ne.symm t6)).trans t1, t2, t3, t4, t5, t6, Heap.get?_update_self _ t7 (Obj.isFreed_of_fields (Obj.data_mapFields t8 _)), Obj.data_mapFields t8 _, by simp [sz]⟩ fun b o z hno => ⟨o.slots, (oth b (rec0 b o z hno)).trans z⟩)
 exact (oth b fun q => by rw [q, t5] at z; cases z).trans (x1 b o z)
theorem fly_looks {cls : Value} {Q : Unit → Shared → Prop} (hfr : A.frames = some (env :: outer)) (hf : env.frame = some L) (x : Fly B (env :: outer) e cls s.heap) (k : ∀ h', FlyAt B (env :: outer) e cls (rawInt L) h' → s.heap.UpToSlots h' → Q () { s with heap := h' }) : wpAny M A (noteFrame (.ref e) env) Q E s := by
 obtain ⟨x1, x2, x3, oe, vs, T, oT, ts, t1, ⟨rfl, tdn⟩, t3, t4, t5, t6, t7, t8, t9⟩ := x
 unfold noteFrame
 simp only [hf]
 refine wpAny_bind (wpAny_field t1 t3 t4 ?_)
 rw [if_pos (by simp)]
 refine wpAny_bind (wpAny_field t7 t8 t9 ?_)
 rw [if_neg (by simp [rawInt])]
 refine wpAny_bind (wpAny_setField t7 t8 (Array.getElem?_eq_some_iff.mp t9).1 ?_)
 have oth : ∀ b, b ≠ T → (s.heap.update T (Obj.mapFields (·.setIfInBounds 3 Value.none))).get? b = s.heap.get? b := fun b nb => Heap.get?_update_other _ _ (Ne.symm nb)
 have rec0 : ∀ b o, s.heap.get? b = some o → (∀ us, o.data ≠ .fields us) → b ≠ T := fun b o z hno q => by rw [q, t7] at z; cases z; exact hno ts t8
 refine fly_entry (s := { s with heap := s.heap.update T (Obj.mapFields (·.setIfInBounds 3 Value.none)) }) hfr (x3.of_keeps fun b o z hno => ⟨o, (oth b (rec0 b o z hno)).trans z, rfl⟩) hf ((oth e (Ne.symm t6)).trans t1)
  (fun b o z => (oth b fun q => by rw [q, t5] at z; cases z).trans (x1 b o z)) x2 t3 (Array.getElem?_eq_some_iff.mp t4).1 tdn fun h' f u => k h' f fun b o z hno => u b o ((oth b (rec0 b o z hno)).trans z) hno
theorem fly_out {l : List Env} {cls fl : Value} {h : Heap} (x : FlyAt B (env :: l) e cls fl h) : FlyAt B l e cls fl h := ⟨x.st, x.ne, x.fr.2.2, x.tr⟩
theorem fly_on {cls : Value} {Q : Unit → Shared → Prop} (hfr : A.frames = some (env :: outer)) (hf : env.frame = some L) (x : Fly B (env :: outer) e cls s.heap) (k : ∀ h', Fly B outer e cls h' → s.heap.UpToSlots h' → Q () { s with heap := h' }) : wpAny M A (leaving env (.ref e)) Q E s := by
 unfold leaving
 refine wpAny_bind (fly_looks hfr hf x fun h1 f1 u1 => ?_)
 exact fly_lands (s := { s with heap := h1 }) f1 fun h2 f2 u2 => k h2 (fly_out f2) (u1.trans u2)
theorem fly_made {h : Heap} {cls : Value} {args : List Value} {Q : Unit → Shared → Prop} (hfr : A.frames = some (env :: outer)) (hf : env.frame = some L) (hB : B.StaysIn h) (hl : h.FunFrames B (env :: outer)) (hx : Heap.MadeExcOf h s.heap e cls args)
 (k : ∀ h', Fly B outer e cls h' → s.heap.UpToSlots h' → Q () { s with heap := h' }) : wpAny M A (leaving env (.ref e)) Q E s := by
 obtain ⟨t, he, _, _⟩ := hx.there
 have hn : B.get? e = none := by
  cases q : B.get? e with
  | none => rfl
  | some o =>
    have := hB e o q
    rw [hx.new] at this
    cases this
 unfold leaving noteFrame
 simp only [hf]
 refine wpAny_bind (wpAny_bind (wpAny_field he rfl (x := .none) rfl ?_))
 rw [if_neg (by decide)]
 refine fly_entry hfr (hl.of_keeps fun b o z _ => ⟨o, hx.keeps b o z, rfl⟩) hf he (fun b o z => hx.keeps b o (hB b o z)) hn rfl (by simp) rfl fun h1 f1 u1 => ?_
 exact fly_lands (s := { s with heap := h1 }) f1 fun h2 f2 u2 => k h2 (fly_out f2) (u1.trans u2)
end
end L2
namespace L2
open PySem PySem.Spec PyProof.Rows
section
variable {P : Program} {w : World} {H : Hp} {h h' : Heap} {a : Addr} {o : HO}
theorem ObjOk.there (x : ObjOk P w H h a o) : ∃ ob, h.get? a = some ob := by
 cases o with
 | lst xs => obtain ⟨_, _, _, _, e⟩ := x; exact ⟨_, e⟩
 | tup xs => obtain ⟨_, _, _, ob, e, _⟩ := x; exact ⟨_, e⟩
 | dK kvs => obtain ⟨_, _, _, _, o, _, _, e, _⟩ := x; exact ⟨_, e⟩
 | dT kvs => obtain ⟨_, _, _, _, o, _, _, e, _⟩ := x; exact ⟨_, e⟩
 | set S n => obtain ⟨o, _, _, _, e, _⟩ := x; exact ⟨_, e⟩
 | ins C dx fs => obtain ⟨_, _, _, e, _⟩ := x; exact ⟨_, e⟩
 | own y => obtain ⟨_, e⟩ := x; exact ⟨_, e⟩
 | xd fs => obtain ⟨_, ⟨_, _, _, e, _⟩, _⟩ := x; exact ⟨_, e⟩
 | rng lo hi => obtain ⟨_, _, _, e⟩ := x; exact ⟨_, e⟩
 | frz ob u => obtain ⟨e, _⟩ := x; exact ⟨_, e⟩
 | tbl ps => exact ⟨_, (show h.get? a = some _ from x)⟩
 | met f y => exact ⟨_, (show h.get? a = some _ from x)⟩
 | ext φ => obtain ⟨_, e, _⟩ := x; exact e
theorem HOk.tracked (x : HOk P w H h) (k : ∀ b u, H b ≠ none → h.get? b = some u → h'.get? b = some u) : HOk P w H h' := fun b u e =>
 (x b u e).stay (fun c v hc q => k c v (by rcases hc with z | z <;> rw [z] <;> simp_all) q) (fun _ z => z) (fun _ _ z => z)
end
def CXE (P : Program) (w : World) : CXT := fun outer H s E v s' => ∃ (e : Addr) (cls : Value) (B : Heap) (H' : Hp), v = .ref e ∧ s'.os = s.os ∧ AllBare s'.gens ∧ Un (frs outer) [] H H' s.heap s'.heap ∧ HOk P w H' s'.heap ∧
 Fly B outer e cls s'.heap ∧ (∀ b o, s.heap.get? b = some o → b ∉ frs outer → ∃ o', B.get? b = some o') ∧ (∀ b, H' b ≠ none → ∃ o, B.get? b = some o) ∧ E cls none H'
section
variable {P : Program} {w : World} {K : PySem.W.Frag} {mg : Str → Option Value} {base : Heap} {N : List Str} {qual : Str} {scope : Scope} {f : Addr} {cd : Value} {A : Around} {outer : List Env} {s : Shared} {H : Hp} {E : XK}
theorem xe_made {pins : List (Addr × Obj)} {σ : St} {H1 : Hp} {s1 : Shared} {h1 : Heap} {e : Addr} {cls : Value} {vs : List Value}
 (I : Inv ((cxOf (CXE P w) P w K mg base N qual scope f cd A outer s H E)) pins σ H1 s1) (hx : Heap.MadeExcOf s1.heap h1 e cls vs) (q : E cls none H1) :
 (cxOf (CXE P w) P w K mg base N qual scope f cd A outer s H E).xe (.ref e) { s1 with heap := h1 } := by
 have hst : s1.heap.FunFrames base (envOfC qual scope s.heap.objs.size f cd :: outer) := I.stack
 have hfr : (A.deeper (envOfC qual scope s.heap.objs.size f cd)).frames = some (envOfC qual scope s.heap.objs.size f cd :: outer) := I.ok.frames
 have hin : ∀ env ∈ (envOfC qual scope s.heap.objs.size f cd :: outer), ∀ b, env.frame = some b → b ∈ frs (envOfC qual scope s.heap.objs.size f cd :: outer) := fun env he b hb => List.mem_filterMap.mpr ⟨env, he, hb⟩
 have hB := PySem.W.funFrames_hide hst hin
 have hloc : (envOfC qual scope s.heap.objs.size f cd).frame = some s.heap.objs.size := rfl
 have hfree : ∀ b ∈ frs (envOfC qual scope s.heap.objs.size f cd :: outer), H1 b = none := I.stkFree
 have hcons : frs (envOfC qual scope s.heap.objs.size f cd :: outer) = s.heap.objs.size :: frs outer := by unfold frs; rw [List.filterMap_cons, hloc]
 refine fly_made (B := PySem.W.hideAll s1.heap (frs (envOfC qual scope s.heap.objs.size f cd :: outer))) hfr hloc (fun b o z => PySem.W.of_hideAll _ z) hB hx fun h2 k1 k4 => ?_
 generalize hBB : PySem.W.hideAll s1.heap (frs (envOfC qual scope s.heap.objs.size f cd :: outer)) = B at *
 have toB : ∀ b o, s1.heap.get? b = some o → b ∉ frs (envOfC qual scope s.heap.objs.size f cd :: outer) → B.get? b = some o := fun b o z n => by rw [← hBB]; exact PySem.W.hideAll_get _ z n
 have keepAll : ∀ b o, s1.heap.get? b = some o → b ∉ frs (envOfC qual scope s.heap.objs.size f cd :: outer) → h2.get? b = some o := fun b o z n => k1.st b o (toB b o z n)
 have base0 : Un (frs outer) [] H H1 s.heap s1.heap := I.base
 have notLoc : ∀ b o, s.heap.get? b = some o → b ∉ frs outer → b ∉ frs (envOfC qual scope s.heap.objs.size f cd :: outer) := fun b o z n hm => by
  rw [hcons] at hm
  rcases List.mem_cons.mp hm with e | e
  ·exact absurd (Heap.lt_size z) (by rw [e]; exact Nat.lt_irrefl _)
  ·exact n e
 have trackedB : ∀ b u, H1 b = some u → ∃ o, B.get? b = some o := fun b u z => by
  obtain ⟨o, ho⟩ := (I.hok b u z).there
  exact ⟨o, toB b o ho fun hm => by rw [hfree b hm] at z; cases z⟩
 refine ⟨e, cls, B, H1, rfl, I.os, I.bare, ?_, ?_, k1, ?_, ?_, q⟩
 ·refine ⟨fun b o z n hb hx' => keepAll b o (base0.keep b o z n hb hx') (notLoc b o z hb), fun b o z n hb hx' => ?_, base0.free, fun b o z hx' => ?_, base0.tups, base0.frzs, base0.tbls⟩
  ·obtain ⟨sl, z1⟩ := base0.slot b o z n hb hx'
   have hm : b ∈ frs (envOfC qual scope s.heap.objs.size f cd :: outer) := by rw [hcons]; exact List.mem_cons_of_mem _ hb
   obtain ⟨_, o', ho', hd⟩ := hst.mem hm
   rw [z1] at ho'
   cases ho'
   obtain ⟨sl2, z2⟩ := k4 b _ (hx.keeps b _ z1) hd
   exact ⟨sl2, z2⟩
  ·obtain ⟨o1, z1⟩ := base0.there b o z hx'
   by_cases hm : b ∈ frs (envOfC qual scope s.heap.objs.size f cd :: outer)
   ·obtain ⟨_, o', ho', hd⟩ := hst.mem hm
    rw [z1] at ho'
    cases ho'
    obtain ⟨sl2, z2⟩ := k4 b _ (hx.keeps b _ z1) hd
    exact ⟨_, z2⟩
   ·exact ⟨o1, keepAll b o1 z1 hm⟩
 ·exact HOk.tracked I.hok fun b u n z => keepAll b u z fun hm => n (hfree b hm)
 ·intro b o z n
  obtain ⟨o1, z1⟩ := base0.there b o z (by simp)
  exact ⟨o1, toB b o1 z1 (notLoc b o z n)⟩
 ·intro b n
  cases z : H1 b with
  | none => exact absurd z n
  | some u => exact trackedB b u z
theorem pass_exc {E' : XK} (hE : ∀ c d H', E' c d H' → E c d H') : Passes (CXE P w) (cxOf (CXE P w) P w K mg base N qual scope f cd A outer s H E) E' := by
 rintro pins σ H1 s1 v s2 I ⟨e, cls, B, H2, rfl, os, bare, un, hok, hfl, hfresh, htr, q⟩
 have hst : s1.heap.FunFrames base (envOfC qual scope s.heap.objs.size f cd :: outer) := I.stack
 have hfr : (A.deeper (envOfC qual scope s.heap.objs.size f cd)).frames = some (envOfC qual scope s.heap.objs.size f cd :: outer) := I.ok.frames
 have hloc : (envOfC qual scope s.heap.objs.size f cd).frame = some s.heap.objs.size := rfl
 have hcons : frs (envOfC qual scope s.heap.objs.size f cd :: outer) = s.heap.objs.size :: frs outer := by unfold frs; rw [List.filterMap_cons, hloc]
 have base0 : Un (frs outer) [] H H1 s.heap s1.heap := I.base
 have un' : Un (frs (envOfC qual scope s.heap.objs.size f cd :: outer)) [] H1 H2 s1.heap s2.heap := un
 have hfl' : Fly B (envOfC qual scope s.heap.objs.size f cd :: outer) e cls s2.heap := hfl
 have hfresh' : ∀ b o, s1.heap.get? b = some o → b ∉ frs (envOfC qual scope s.heap.objs.size f cd :: outer) → ∃ o', B.get? b = some o' := hfresh
 have hfree : ∀ b ∈ frs (envOfC qual scope s.heap.objs.size f cd :: outer), H1 b = none := I.stkFree
 refine fly_on (s := s2) hfr hloc hfl' fun h3 k1 k2 => ?_
 have notLoc : ∀ b o, s.heap.get? b = some o → b ∉ frs outer → b ∉ frs (envOfC qual scope s.heap.objs.size f cd :: outer) := fun b o z n hm => by
  rw [hcons] at hm
  rcases List.mem_cons.mp hm with e | e
  ·exact absurd (Heap.lt_size z) (by rw [e]; exact Nat.lt_irrefl _)
  ·exact n e
 have inB : ∀ b o, s2.heap.get? b = some o → (∃ o', B.get? b = some o') → h3.get? b = some o := fun b o z ⟨o', z'⟩ => by
  have := hfl'.st b o' z'
  rw [z] at this
  cases this
  exact k1.st b o z'
 refine ⟨e, cls, B, H2, rfl, os.trans I.os, bare, ?_, ?_, k1, ?_, htr, hE _ _ _ q⟩
 ·refine ⟨fun b o z n hb hx' => ?_, fun b o z n hb hx' => ?_, fun b o z n hx' => ?_, fun b o z hx' => ?_, fun b xs z => un'.tups b xs (base0.tups b xs z), fun b o u z => un'.frzs b o u (base0.frzs b o u z), fun b ps z => ?_⟩
  ·have z1 := base0.keep b o z n hb hx'
   have n1 := base0.free b o z n hx'
   have nb := notLoc b o z hb
   exact inB b o (un'.keep b o z1 n1 nb hx') (hfresh' b o z1 nb)
  ·obtain ⟨sl, z1⟩ := base0.slot b o z n hb hx'
   have n1 := base0.free b o z n hx'
   have hm : b ∈ frs (envOfC qual scope s.heap.objs.size f cd :: outer) := by rw [hcons]; exact List.mem_cons_of_mem _ hb
   obtain ⟨sl2, z2⟩ := un'.slot b _ z1 n1 hm hx'
   obtain ⟨_, o', ho', hd⟩ := hst.mem hm
   rw [z1] at ho'
   cases ho'
   obtain ⟨sl3, z3⟩ := k2 b _ z2 hd
   exact ⟨sl3, z3⟩
  ·obtain ⟨sl, z1⟩ := base0.any z n hx'
   exact un'.free b _ z1 (base0.free b o z n hx') hx'
  ·obtain ⟨o1, z1⟩ := base0.there b o z hx'
   obtain ⟨o2, z2⟩ := un'.there b o1 z1 hx'
   by_cases hm : b ∈ frs (envOfC qual scope s.heap.objs.size f cd :: outer)
   ·obtain ⟨_, o', ho', hd⟩ := hfl'.fr.mem hm
    rw [z2] at ho'
    cases ho'
    obtain ⟨sl3, z3⟩ := k2 b _ z2 hd
    exact ⟨_, z3⟩
   ·exact ⟨o2, inB b o2 z2 (hfresh' b o1 z1 hm)⟩
  ·obtain ⟨m1, z1⟩ := base0.tbls b ps z
   obtain ⟨m2, z2⟩ := un'.tbls b _ z1
   exact ⟨m1 ++ m2, by rw [z2, Array.append_assoc]⟩
 ·exact HOk.tracked hok fun b u n z => inB b u z (htr b n)
 ·intro b o z n
  obtain ⟨o1, z1⟩ := base0.there b o z (by simp)
  exact hfresh' b o1 z1 (notLoc b o z n)
end
end L2
namespace L2
open PySem PySem.Spec PyProof.Rows
theorem exc_obj {K : PySem.W.Frag} {h : Heap} {C : Addr} {bmB : List Value} {newId : String} (kin : K.In h) (hq : PySem.W.excIn K C bmB newId = true) :
 ∃ bm nsp nm qn bs hd sn sub ab col dd k0 k1 k2 k3 k5 mN, h.get? C = some (excClassObj nm qn C nsp bs bm hd sn sub ab col dd k0 k1 k2 k3 k5 newId) ∧ h.Ns nsp mN ∧ mN "__init__" = none ∧ OwnTail h bmB bm := by
 unfold PySem.W.excIn at hq
 split at hq
 case h_2 => cases hq
 case h_1 dd cd sl look =>
  split at hq
  case h_2 => cases hq
  case h_1 C' bm k0 k1 k2 k3 n k5 mroE slE =>
   simp only [Bool.and_eq_true, beq_iff_eq, Bool.not_eq_true'] at hq
   obtain ⟨⟨⟨⟨⟨c1, c2⟩, c3⟩, c4⟩, c5⟩, c6⟩ := hq
   subst c1 c2
   rcases cd with ⟨nm, bs, mro, nsp, qn, hd, sn, sub, ab, col, del⟩
   dsimp only at mroE c3 c5 c6
   subst mroE c3
   have slA : sl = #[k0, k1, k2, k3, some (.builtin n), k5] := by
    rcases sl with ⟨lst⟩
    exact congrArg Array.mk slE
   subst slA
   exact ⟨bm, nsp, nm, qn, bs, hd, sn, sub, ab, col, dd, k0, k1, k2, k3, k5, _, kin _ _ look, .of_isNs (PySem.W.isNs_of_in kin c5), PySem.W.nsMap_none_of_in kin c5 c6, PySem.W.tail_of_in kin c4⟩
structure ExcCls (K : PySem.W.Frag) (mg : Str → Option Value) (x : Str) (C : Addr) (bmB : List Value) (newId : String) : Prop where
 at_ : mg x = some (.ref C)
 obj : PySem.W.excIn K C bmB newId = true
def tRaise (C : Addr) (E : XK) (t : TA) : TS := fun _ σ H => t σ H fun vs H1 => vs.length ≤ 3 ∧ E (.ref C) none H1
section
variable {P : Program} {w : World} {K : PySem.W.Frag} {mg : Str → Option Value} {base : Heap} {N : List Str} {qual : Str} {scope : Scope} {f : Addr} {cd : Value} {A : Around} {outer : List Env} {s : Shared} {H : Hp} {E : XK}
theorem ps_raise {x : Str} {C : Addr} {bmB : List Value} {B newId initId : String} {np cpos pos : Pos} {e0 : Expr} {es : List Expr} {t : TA} (hc : ExcCls K mg x C bmB newId) (F : ExcBaseFacts B newId initId bmB)
 (hg : Gl (cxOf (CXE P w) P w K mg base N qual scope f cd A outer s H E) x) (ha : PA (cxOf (CXE P w) P w K mg base N qual scope f cd A outer s H E) (e0 :: es) t)
 (he : starEach (e0 :: es) (envOfC qual scope s.heap.objs.size f cd) = (false, eval e0 (envOfC qual scope s.heap.objs.size f cd)) :: starEach es (envOfC qual scope s.heap.objs.size f cd) := by rfl)
 (hpl : (backTo cpos (starEach es (envOfC qual scope s.heap.objs.size f cd))).any (·.1) = false := by rfl) (hdb : (x == ("__debug__" : Str)) = false := by decide) :
 PS (cxOf (CXE P w) P w K mg base N qual scope f cd A outer s H E) (.Raise (some (.Call (.Name x np) (e0 :: es) [] cpos)) none pos) (tRaise C E t) := by
 intro pins s1 σ H1 D I q
 obtain ⟨bm, nsp, nm, qn, bs, hd, sn, sub, ab, col, dd, k0, k1, k2, k3, k5, mN, o1, o2, o3, o4⟩ := exc_obj I.ok.mod.kin hc.obj
 refine wpAny_Raise_call_subT F (o4.hasType F.hasBase) (I.ok.hd rfl) (by
  show (backTo cpos (starEach (e0 :: es) (envOfC qual scope s.heap.objs.size f cd))).any (·.1) = false
  rw [he]; show (false || (backTo cpos (starEach es (envOfC qual scope s.heap.objs.size f cd))).any (·.1)) = false; rw [hpl]; rfl) o3 ?_ (nm := nm) (q := qn) (C := C) (N := nsp) (bs := bs) (bm := bm) (hdct := hd) (sn := sn) (sub := sub) (ab := ab) (col := col) (dd := dd) (k0 := k0) (k1 := k1) (k2 := k2) (k3 := k3) (k5 := k5)
 refine ld_glob I hg hc.at_ ⟨rfl, ?_⟩ hdb
 have hs := ha cpos pins s1 σ H1 _ I q
 show wpAny _ _ (evalArgs (.ref C) true (backTo cpos (starEach (e0 :: es) (envOfC qual scope s.heap.objs.size f cd))) []) _ _ _
 change wpAny _ _ (spliced (backTo cpos (starEach (e0 :: es) (envOfC qual scope s.heap.objs.size f cd)))) _ _ _ at hs
 rw [he] at hs ⊢
 refine Calls.evalArgs_plain (wpAny_mono hs (fun us s2 h2 => ?_) fun _ _ z => z)
 obtain ⟨vs, H2, I2, r2, hl, q2⟩ := h2
 have hul : us.length ≤ 3 := by rw [← r2.length]; exact hl
 exact ⟨rfl, Nat.le_trans hul (by rw [sizeLine_eq]; decide), I2.bk _ _ o1, o2.keeps I2.bk, o4.keeps I2.bk, fun h' e hm => xe_made I2 hm q2⟩
def CalleeE (P : Program) (w : World) (K : PySem.W.Frag) (mg : Str → Option Value) (base : Heap) (x : Str) (k : Nat) (sp : Sp) : Prop :=
 ∃ f fd ps, FnOk P w K mg base (CXE P w) k f fd ps sp ∧ mg x = some (.ref f) ∧ PySem.W.keepIn K (.ref f) = true ∧ Binds K fd ps []
theorem Def.okE {x : Str} {st : Stmt} {N ps : List Str} {k : Nat} {sp : Sp} (D : Def K mg x st) (S : FnScope N ps (defScope st))
 (bd : ∀ (kV doc pm : Value) (an : Option Addr) (cdv ct : Value) (us : List Value), us.length = ps.length → bindArgs (PySem.W.fnOf x x (defArgs st) (defBody st) (defScope st) .none kV doc pm an cdv ct) ⟨us, []⟩ = pure (ps.zip us))
 (len : ∀ vs H Q E, sp vs H Q E → vs.length = ps.length)
 (hbody : ∀ (f : Addr) (cdv : Value) (A : Around) (outer : List Env) (s : Shared) (H : Hp) (vs : List V) (Q : VK) (E : XK), Room k (A.deeper (envOfC x (defScope st) s.heap.objs.size f cdv)) → sp vs H Q E →
  ∃ t, PSs (cxOf (CXE P w) P w K mg base N x (defScope st) f cdv A outer s H E) (defBody st) t ∧ t { nx := fun _ H' => Q .non H', rt := Q } (start N vs) H) : CalleeE P w K mg base x (k + 1) sp := by
 obtain ⟨f, fd, F, hm⟩ := D
 have Fk := F.kp
 have Fb := F.binds bd
 obtain ⟨oc, od, kV, doc, pm, an, cdv, ct, osl, rfl, lk, hcd⟩ := F.ex
 exact ⟨f, _, ps, fn_of lk hcd S len fun A outer s H vs Q E hr hsp => hbody f cdv A outer s H vs Q E hr hsp, hm, Fk, Fb⟩
theorem pe_callE {x : Str} {k : Nat} {sp : Sp} {e0 : Expr} {es : List Expr} {t : TA} {p pos : Pos} {E' : XK} (C : CalleeE P w K mg base x k sp) (hr : Room k (A.deeper (envOfC qual scope s.heap.objs.size f cd))) (hg : Gl (cxOf (CXE P w) P w K mg base N qual scope f cd A outer s H E) x)
 (ha : PA (cxOf (CXE P w) P w K mg base N qual scope f cd A outer s H E) (e0 :: es) t) (hE : ∀ c d H', E' c d H' → E c d H' := by exact fun _ _ _ z => z)
 (he : starEach (e0 :: es) (envOfC qual scope s.heap.objs.size f cd) = (false, eval e0 (envOfC qual scope s.heap.objs.size f cd)) :: starEach es (envOfC qual scope s.heap.objs.size f cd) := by rfl)
 (hpl : (backTo pos (starEach es (envOfC qual scope s.heap.objs.size f cd))).any (·.1) = false := by rfl) (hdb : (x == ("__debug__" : Str)) = false := by decide) :
 PE (cxOf (CXE P w) P w K mg base N qual scope f cd A outer s H E) (.Call (.Name x p) (e0 :: es) [] pos) (tCall sp [] E' t) := by
 obtain ⟨f', fd, ps, F, hm, hk, hb⟩ := C
 exact pe_call F hr hg hm hk hb .nil (pass_exc hE) ha (hdb := hdb) (he := he) (hpl := hpl)
end
end L2
namespace L2
open PySem PySem.Spec PyProof.Rows
section
theorem un_fly {l : List Env} {H1 H2 : Hp} {h1 h2 h3 B : Heap} (u : Un (frs l) [] H1 H2 h1 h2) (hs : B.StaysIn h2) (hf : h2.FunFrames B l) (hfresh : ∀ b o, h1.get? b = some o → b ∉ frs l → ∃ o', B.get? b = some o') (k1 : B.StaysIn h3) (k2 : h2.UpToSlots h3) : Un (frs l) [] H1 H2 h1 h3 := by
 have inB : ∀ b o, h2.get? b = some o → (∃ o', B.get? b = some o') → h3.get? b = some o := fun b o z ⟨o', z'⟩ => by
  have := hs b o' z'
  rw [z] at this
  cases this
  exact k1 b o z'
 refine ⟨fun b o z n hb hx => inB b o (u.keep b o z n hb hx) (hfresh b o z hb), fun b o z n hb hx => ?_, u.free, fun b o z hx => ?_, u.tups, u.frzs, u.tbls⟩
 ·obtain ⟨sl, z1⟩ := u.slot b o z n hb hx
  obtain ⟨_, o', ho', hd⟩ := hf.mem hb
  rw [z1] at ho'
  cases ho'
  obtain ⟨sl2, z2⟩ := k2 b _ z1 hd
  exact ⟨sl2, z2⟩
 ·obtain ⟨o2, z2⟩ := u.there b o z hx
  by_cases hm : b ∈ frs l
  ·obtain ⟨_, o', ho', hd⟩ := hf.mem hm
   rw [z2] at ho'
   cases ho'
   obtain ⟨sl3, z3⟩ := k2 b _ z2 hd
   exact ⟨_, z3⟩
  ·exact ⟨o2, inB b o2 z2 (hfresh b o z hm)⟩
theorem hok_fly {P : Program} {w : World} {H2 : Hp} {h2 h3 B : Heap} (x : HOk P w H2 h2) (hs : B.StaysIn h2) (htr : ∀ b, H2 b ≠ none → ∃ o, B.get? b = some o) (k1 : B.StaysIn h3) : HOk P w H2 h3 :=
 HOk.tracked x fun b u n z => by
  obtain ⟨o', z'⟩ := htr b n
  have := hs b o' z'
  rw [z] at this
  cases this
  exact k1 b _ z'
variable {X : Cx}
abbrev Cx.inTry (X : Cx) (pins : List (Addr × Obj)) (ξ : Value → Shared → Prop) : Cx := { X with pn := X.pn ++ pins, xe := ξ }
theorem Cx.Ok.inTry (ok : X.Ok) (pins : List (Addr × Obj)) (ξ : Value → Shared → Prop) : (X.inTry pins ξ).Ok :=
 ⟨ok.mod, ok.kind, ok.glob, ok.blt, ok.above, ok.inj, ok.has, ok.cab, ok.hd, ok.frames, ok.stk, ok.exf, ok.bs, ok.bsz, ok.noex, ok.exfs, ok.funs, ok.frf⟩
theorem Cx.Ok.outTry {pins : List (Addr × Obj)} {ξ : Value → Shared → Prop} (ok : (X.inTry pins ξ).Ok) : X.Ok :=
 ⟨ok.mod, ok.kind, ok.glob, ok.blt, ok.above, ok.inj, ok.has, ok.cab, ok.hd, ok.frames, ok.stk, ok.exf, ok.bs, ok.bsz, ok.noex, ok.exfs, ok.funs, ok.frf⟩
theorem Inv.inTry {pins : List (Addr × Obj)} {σ : St} {H : Hp} {s : Shared} (I : Inv X pins σ H s) (ξ : Value → Shared → Prop) : Inv (X.inTry pins ξ) [] σ H s :=
 ⟨I.ok.inTry pins ξ, I.os, I.bare, I.base, I.loc, I.cell, I.free, I.freeC, fun p hp => I.pin p (by simpa using hp), I.hok, I.len⟩
theorem Inv.outTry {pins pins' : List (Addr × Obj)} {σ : St} {H : Hp} {s : Shared} {ξ : Value → Shared → Prop} (I : Inv (X.inTry pins ξ) pins' σ H s) : Inv X pins σ H s :=
 ⟨I.ok.outTry, I.os, I.bare, I.base, I.loc, I.cell, I.free, I.freeC, fun p hp => I.pin p (List.mem_append_left _ hp), I.hok, I.len⟩
def tCallS (sp : Sp) (Ex : St → XK) (t : TA) : TE := fun σ H Q => t σ H fun vs H1 => sp (vs ++ []) H1 Q (Ex σ)
def PassS (X : Cx) (Ex : St → XK) : Prop := ∀ (pins : List (Addr × Obj)) (σ : St) (H : Hp) (s : Shared) (e : Value) (s' : Shared), Inv X pins σ H s → CXE X.prog X.w X.stack H s (Ex σ) e s' → X.xe e s'
theorem pe_callS {x : Str} {k : Nat} {sp : Sp} {e : Expr} {es : List Expr} {t : TA} {p pos : Pos} {Ex : St → XK} (C : CalleeE X.prog X.w X.K X.mg X.base x k sp) (hr : Room k X.A) (hg : Gl X x) (hx : PassS X Ex) (ha : PA X (e :: es) t)
 (he : starEach (e :: es) X.env = (false, eval e X.env) :: starEach es X.env := by rfl) (hpl : (backTo pos (starEach es X.env)).any (·.1) = false := by rfl) (hdb : (x == ("__debug__" : Str)) = false := by decide) :
 PE X (.Call (.Name x p) (e :: es) [] pos) (tCallS sp Ex t) := by
 obtain ⟨f, fd, ps, F, hm, hk, hb⟩ := C
 walk_at "z9"
 refine wpAny_Call_Name_kw (ld_glob I hg hm ?_ hdb)
 walk_at "z22"
 have r2 : Vals (vs ++ []) (us ++ []) := r.append .nil
 have hl : (us ++ []).length = ps.length := by rw [← r2.length]; exact F.len _ _ _ _ q
 refine wpAny_call (codeAny_mono (F.run X.A X.stack s1 H1 ⟨us, []⟩ (us ++ []) (vs ++ []) Q (Ex σ) hr I1.env0 (hb s1 us I1.kIn hl) r2 q) fun r3 s' hq => ?_)
 cases r3 with
 | error v => exact hx pins σ H1 s1 v s' I1 hq
 | ok fl =>
   cases fl with
   | ret u => exact I1.after hq
   | next => exact False.elim hq
   | brk => exact False.elim hq
   | cont => exact False.elim hq
theorem Inv.trackN {pins : List (Addr × Obj)} {σ : St} {H : Hp} {s : Shared} {D : Addr} {o : HO} (I : Inv X pins σ H s) (hn : H D = none) (hL : D ≠ X.env.locals) (h1 : X.s₀.heap.get? D = none)
 (h2 : ∀ x c, X.env.cells.lookup x = some c → c ≠ D) (h3 : ∀ p ∈ X.pn ++ pins, p.1 ≠ D) (new : ObjOk X.prog X.w (upd H D o) s.heap D o) : Inv X pins σ (upd H D o) s := by
 have up : ∀ b u, H b = some u → upd H D o b = some u := fun b u e => by rw [upd_ne (ne_of_none e hn)]; exact e
 have un : ∀ b, b ≠ D → H b = none → upd H D o b = none := fun b hb e => by rw [upd_ne hb]; exact e
 refine ⟨I.ok, I.os, I.bare, ⟨I.base.keep, I.base.slot, fun b ob e n hx => un b (fun z => by rw [z, h1] at e; cases e) (I.base.free b ob e n hx), I.base.there, fun b xs e => up _ _ (I.base.tups b xs e), fun b ob u e => up _ _ (I.base.frzs b ob u e), fun b ps e => ?_⟩,
  I.loc, I.cell, un _ (Ne.symm hL) I.free, fun x c e => un _ (h2 x c e) (I.freeC x c e), fun p hp => ?_, fun b u e => ?_, I.len⟩
 ·obtain ⟨m, e'⟩ := I.base.tbls b ps e
  exact ⟨m, up _ _ e'⟩
 ·obtain ⟨e, n, r⟩ := I.pin p hp
  exact ⟨e, un _ (h3 p hp) n, r⟩
 ·by_cases hb : b = D
  ·subst hb
   rw [upd_same] at e
   cases e
   exact new
  ·rw [upd_ne hb] at e
   exact (I.hok b u e).stay (fun _ _ _ z => z) (fun c z => up _ _ z) fun c xs z => up _ _ z
def ExcAt (e : Addr) (cls : Value) : Heap → Prop := fun h => ∃ o vs, h.get? e = some o ∧ o.cls = cls ∧ o.dict = none ∧ o.data = .fields vs
theorem excAt_ok {P : Program} {w : World} {H : Hp} {h : Heap} {e : Addr} {cls : Value} (x : ExcAt e cls h) : ObjOk P w H h e (.ext (ExcAt e cls)) := by
 obtain ⟨o, vs, z, c⟩ := x
 exact ⟨⟨o, vs, z, c⟩, ⟨o, z⟩, fun h1 h2 ⟨o1, vs1, z1, c1⟩ k => ⟨o1, vs1, k o1 z1, c1⟩⟩
theorem comes {pins : List (Addr × Obj)} {σ : St} {H1 : Hp} {s1 s2 : Shared} {Ex : XK} {v : Value} {Q : Flow → Shared → Prop} {E : Value → Shared → Prop} {hs : List ExceptHandler} (hstk : X.stack = X.env :: X.outer) (hf : X.env.frame = some X.env.locals) (hex : X.ex = []) (I : Inv X pins σ H1 s1)
 (hq : CXE X.prog X.w X.stack H1 s1 Ex v s2)
 (k : ∀ (e : Addr) (cls : Value) (B : Heap) (H2 : Hp), v = .ref e → Ex cls none H2 → H2 e = none →
  (∀ h6, Fly B X.stack e cls h6 → s2.heap.UpToSlots h6 → Inv X pins σ (upd H2 e (.ext (ExcAt e cls))) { s2 with heap := h6 }) →
  ∀ h3, Fly B X.stack e cls h3 → s2.heap.UpToSlots h3 → wpAny (model X.prog X.w) X.A (handleBy (.ref e) X.env hs) Q E { s2 with heap := h3 }) :
 wpAny (model X.prog X.w) X.A (noteFrame v X.env) (fun _ s3 => wpAny (model X.prog X.w) X.A (setFlight v none) (fun _ s4 => wpAny (model X.prog X.w) X.A (handleBy v X.env hs) Q E s4) E s3) E s2 := by
 obtain ⟨e, cls, B, H2, rfl, os, bare, un, hok, hfl, hfresh, htr, q⟩ := hq
 have hfr : X.A.frames = some (X.env :: X.outer) := by rw [← hstk]; exact I.ok.frames
 have hfl' := hfl
 rw [hstk] at hfl'
 have hnew : s1.heap.get? e = none := by
  cases z : s1.heap.get? e with
  | none => rfl
  | some o =>
    exfalso
    by_cases hm : e ∈ frs X.stack
    ·obtain ⟨oe, vs, T, oT, ts, he, _, hd, _⟩ := hfl.tr
     obtain ⟨_, o', ho', hd'⟩ := hfl.fr.mem hm
     rw [he] at ho'
     cases ho'
     exact hd' vs hd
    ·obtain ⟨o', z'⟩ := hfresh e o z hm
     rw [hfl.ne] at z'
     cases z'
 have hHe : H2 e = none := by
  cases z : H2 e with
  | none => rfl
  | some u =>
    obtain ⟨o, z'⟩ := htr e (by rw [z]; exact fun y => by cases y)
    rw [hfl.ne] at z'
    cases z'
 have inv6 : ∀ h6, Fly B X.stack e cls h6 → s2.heap.UpToSlots h6 → Inv X pins σ (upd H2 e (.ext (ExcAt e cls))) { s2 with heap := h6 } := fun h6 fl up => by
  have u6 : Un (frs X.stack) [] H1 H2 s1.heap h6 := un_fly un hfl.st hfl.fr hfresh fl.st up
  have I6 : Inv X pins σ H2 { s2 with heap := h6 } := I.call' (s' := { s2 with heap := h6 }) os u6 (hok_fly hok hfl.st htr fl.st) bare (fun b z => absurd z (by simp))
  have hs0 : X.s₀.heap.get? e = none := by
   cases z : X.s₀.heap.get? e with
   | none => rfl
   | some o =>
     obtain ⟨o', z'⟩ := I.base.there e o z (by rw [hex]; simp)
     rw [hnew] at z'
     cases z'
  refine I6.trackN hHe (fun z => ?_) hs0 (fun x c hc z => ?_) (fun p hp z => ?_) (excAt_ok fl.there)
  ·obtain ⟨m, hn, _⟩ := I.loc
   obtain ⟨o, _, _, ho, _⟩ := hn
   rw [← z, hnew] at ho
   cases ho
  ·obtain ⟨v', o, ho, _⟩ := I.cell x c hc
   rw [z, hnew] at ho
   cases ho
  ·have := (I.pin p hp).1
   rw [z, hnew] at this
   cases this
 refine fly_looks (s := s2) hfr hf hfl' fun h4 held4 up4 => ?_
 refine fly_lands held4 fun h5 fl5 up5 => ?_
 exact k e cls B H2 rfl q hHe inv6 h5 (by rw [hstk]; exact fl5) (up4.trans up5)
abbrev Cx.inClause (X : Cx) (pins : List (Addr × Obj)) (e : Addr) : Cx := { X with A := X.A.mark (some (.ref e)), calm := false, pn := X.pn ++ pins, xe := fun _ _ => False }
theorem Inv.inClause {pins : List (Addr × Obj)} {σ : St} {H : Hp} {s : Shared} (I : Inv X pins σ H s) (e : Addr) : Inv (X.inClause pins e) [] σ H s :=
 ⟨⟨I.ok.mod, I.ok.kind, I.ok.glob, I.ok.blt, I.ok.above, I.ok.inj, I.ok.has, I.ok.cab, fun h => (by cases h), I.ok.frames, I.ok.stk, I.ok.exf, I.ok.bs, I.ok.bsz, I.ok.noex, I.ok.exfs, I.ok.funs, I.ok.frf⟩, I.os, I.bare, I.base, I.loc, I.cell, I.free, I.freeC, fun p hp => I.pin p (by simpa using hp), I.hok, I.len⟩
theorem Inv.outClause {pins pins' : List (Addr × Obj)} {σ : St} {H : Hp} {s : Shared} {e : Addr} (ok : X.Ok) (I : Inv (X.inClause pins e) pins' σ H s) : Inv X pins σ H s :=
 ⟨ok, I.os, I.bare, I.base, I.loc, I.cell, I.free, I.freeC, fun p hp => I.pin p (List.mem_append_left _ hp), I.hok, I.len⟩
theorem Inv.unset {pins : List (Addr × Obj)} {σ : St} {H : Hp} {s : Shared} {M : Model} {A : Around} {E : Value → Shared → Prop} {n : Str} {j : Nat} {pos : Pos} {Q : Unit → Shared → Prop} (I : Inv X pins σ H s) (hN : X.N.Nodup) (hj : X.N[j]? = some n) (hl : X.env.kindOf n = some .local)
 (h : ∀ s', Inv X pins (σ.set j none) H s' → Q () s') : wpAny M A (do bindName X.env n .none; unbindBehindTheSuite X.env n pos) Q E s := by
 obtain ⟨m, hn, hm⟩ := id I.loc
 have hcls : (X.env.scope.kind == .class || (X.env.scope.kind == .module && X.env.locals != X.env.globals)) = false := by rw [I.ok.kind]; rfl
 refine wpAny_nameGoes_keeps hl hn hcls fun h' v hn' hs => h _ ?_
 have far : ∀ b o, X.s₀.heap.get? b = some o → b ≠ X.env.locals := fun b o e => Nat.ne_of_lt (Nat.lt_of_lt_of_le (Heap.lt_size e) I.ok.above)
 refine ⟨I.ok, I.os, I.bare, ⟨fun b o e nn hb hx => (hs.2 b (far b o e)).trans (I.base.keep b o e nn hb hx), fun b o e nn hb hx => ?_, I.base.free, fun b o e hx => ?_, I.base.tups, I.base.frzs, I.base.tbls⟩, ⟨_, hn', fun i y v' e1 e2 e3 => ?_⟩, fun y c e => ?_, I.free, I.freeC, fun p hp => ?_, ?_, by simpa using I.len⟩
 ·obtain ⟨sl, e1⟩ := I.base.slot b o e nn hb hx
  exact ⟨sl, (hs.2 b (far b o e)).trans e1⟩
 ·obtain ⟨o', e1⟩ := I.base.there b o e hx
  exact ⟨o', (hs.2 b (far b o e)).trans e1⟩
 ·by_cases hij : i = j
  ·subst hij
   rw [List.getElem?_set] at e2
   split at e2
   ·split at e2 <;> cases e2
   ·exact absurd rfl (by assumption)
  ·rw [List.getElem?_set_ne (Ne.symm hij)] at e2
   obtain ⟨u', r', q⟩ := hm i y v' e1 e2 e3
   refine ⟨u', r', ?_⟩
   have hyn : y ≠ n := fun e => hij (nodup_ix hN e1 (e ▸ hj))
   rcases q with ⟨k, e⟩ | ⟨k, c, e, z⟩
   ·exact .inl ⟨k, by simp [hyn, e]⟩
   ·exact .inr ⟨k, c, e, z.sameBut hs (I.cne y c e)⟩
 ·obtain ⟨w', z⟩ := I.cell y c e
  exact ⟨w', z.sameBut hs (I.cne y c e)⟩
 ·obtain ⟨e, nn, ne, nf, d⟩ := I.pin p hp
  exact ⟨(hs.2 p.1 ne).trans e, nn, ne, nf, d⟩
 ·exact HOk.tracked I.hok fun b u nn z => (hs.2 b fun e => nn (by rw [e]; exact I.free)).trans z
def tTry (K : PySem.W.Frag) (TC : Addr) (j : Nat) (tb : (St → XK) → TS) (ts : TS) : TS := fun D σ H =>
 tb (fun σ' cls _ H' => PySem.W.exmOne K cls (.ref TC) = some true ∧ ∀ e, H' e = none → ts { nx := fun σ2 H2 => D.nx (σ2.set j none) H2, rt := fun _ _ => False } (σ'.set j (some (.ref e))) (upd H' e (.ext (ExcAt e cls)))) D σ H
theorem ps_try {T n : Str} {TC : Addr} {j : Nat} {body : List Stmt} {b0 : Stmt} {suite : List Stmt} {tb : (St → XK) → TS} {ts : TS} {np hpos pos : Pos} (hstk : X.stack = X.env :: X.outer) (hf : X.env.frame = some X.env.locals) (hex : X.ex = [])
 (hT : X.mg T = some (.ref TC)) (hgT : Gl X T) (hN : X.N.Nodup) (hj : X.N[j]? = some n) (hl : X.env.kindOf n = some .local) (hl2 : X.env.scope.names.lookup n = some .local)
 (hb : ∀ (pins : List (Addr × Obj)) (ξ : Value → Shared → Prop) (Ex : St → XK), PassS (X.inTry pins ξ) Ex → PSs (X.inTry pins ξ) body (tb Ex))
 (hs : ∀ (pins : List (Addr × Obj)) (e : Addr), PSs (X.inClause pins e) (b0 :: suite) ts) (hdb : (T == ("__debug__" : Str)) = false := by decide) :
 PS X (.Try body [.ExceptHandler (some (.Name T np)) (some n) (b0 :: suite) hpos] [] [] pos) (tTry X.K TC j tb ts) := by
 intro pins s σ H D I q
 refine wpAny_Try_except ?_
 have hp : PassS (X.inTry pins (fun v s1 => wpAny (model X.prog X.w) X.A (noteFrame v X.env) (fun _ s2 => wpAny (model X.prog X.w) X.A (setFlight v none) (fun _ s3 => wpAny (model X.prog X.w) X.A (handleBy v X.env [.ExceptHandler (some (.Name T np)) (some n) (b0 :: suite) hpos]) (SP X pins D) X.xe s3) X.xe s2) X.xe s1))
  (fun σ' cls _ H' => PySem.W.exmOne X.K cls (.ref TC) = some true ∧ ∀ e, H' e = none → ts { nx := fun σ2 H2 => D.nx (σ2.set j none) H2, rt := fun _ _ => False } (σ'.set j (some (.ref e))) (upd H' e (.ext (ExcAt e cls)))) := by
  intro pins' σ' H' s' v s2 I' hq
  refine comes hstk hf hex I'.outTry hq fun e cls B H2 hv hE hHe inv6 h3 fl3 up3 => ?_
  obtain ⟨hx, hk⟩ := hE
  have I3 := inv6 h3 fl3 up3
  have I3c := I3.inClause e
  refine wpAny_handleBy_cons (codeAny_handlers_test ?_) (by intro z; cases z)
  refine ld_glob (X := X.inClause pins e) I3c hgT hT ?_ hdb
  obtain ⟨oe, _, hoe, hoc, _⟩ := fl3.there
  have LT : PySem.W.Looks (model X.prog X.w) h3 (typeOf (.ref e)) cls := by
   rw [← hoc]
   exact (PySem.W.Looks.ld hoe).andThen .now
  refine PySem.W.exm_one I3.kIn LT hx _ _ _ _ (fun _ _ z => z) ?_
  refine codeAny_handlers_suite_as ?_
  refine fly_lands (s := { s2 with heap := h3 }) fl3 fun h6 fl6 up6 => ?_
  have I6 := inv6 h6 fl6 (up3.trans up6)
  have I6c := I6.inClause e
  refine store_ok (X := X.inClause pins e) (v := .ref e) I6c hN hj (.inl hl2) rfl (fun s7 I7 => ?_) (.inr hl2)
  refine wpAny_mono (hs pins e [] s7 _ _ _ I7 (hk e hHe)) (fun f s8 h8 => ?_) (fun _ _ z => False.elim z)
  cases f with
  | next =>
    obtain ⟨σ8, H8, I8, q8⟩ := h8
    exact Inv.unset (I8.outClause I6.ok) hN hj hl fun s9 I9 => ⟨_, _, I9, q8⟩
  | ret u => obtain ⟨_, _, _, _, _, z⟩ := h8; exact False.elim z
  | brk => obtain ⟨_, _, _, z⟩ := h8; exact False.elim z
  | cont => obtain ⟨_, _, _, z⟩ := h8; exact False.elim z
 have hbody := hb pins _ _ hp [] s σ H D (I.inTry _) q
 refine wpAny_mono hbody (fun f s1 h1 => ?_) (fun _ _ z => z)
 cases f with
 | next =>
   obtain ⟨σ1, H1, I1, q1⟩ := h1
   exact wpAny_execs_nil ⟨σ1, H1, I1.outTry, q1⟩
 | ret u => obtain ⟨v, σ1, H1, I1, r1, q1⟩ := h1; exact ⟨v, σ1, H1, I1.outTry, r1, q1⟩
 | brk => obtain ⟨σ1, H1, I1, q1⟩ := h1; exact ⟨σ1, H1, I1.outTry, q1⟩
 | cont => obtain ⟨σ1, H1, I1, q1⟩ := h1; exact ⟨σ1, H1, I1.outTry, q1⟩
end
end L2
namespace L2
open PySem PySem.Spec PyProof.Rows
structure RoomN (k : Nat) (A : Around) : Prop where
 dp : A.depth + 3 * k + 5 < recursionLimit
 un : A.units + 16 * k + 200 < cLine
theorem RoomN.deeper {k : Nat} {A : Around} (r : RoomN (k + 1) A) (env : Env) : RoomN k (A.deeper env) :=
 ⟨by have := r.dp; show A.depth + 1 + 3 * k + 5 < _; lia, by have := r.un; show A.units + 3 + 16 * k + 200 < _; lia⟩
theorem Room.noted {k : Nat} {A : Around} (r : Room k A) (v : Option Value) : RoomN k (A.mark v) := ⟨r.dp, r.un⟩
structure FnOkN (P : Program) (w : World) (K : PySem.W.Frag) (mg : Str → Option Value) (base : Heap) (k : Nat) (f : Addr) (fd : FuncData) (ps : List Str) (sp : Sp) : Prop where
 len : ∀ vs H Q E, sp vs H Q E → vs.length = ps.length
 run : ∀ (A : Around) (outer : List Env) (s : Shared) (H : Hp) (args : Args) (us : List Value) (vs : List V) (Q : VK) (E : XK), RoomN k A → Env0 P w K mg base A outer s H → BindsTo s fd args (ps.zip us) → Vals vs us → sp vs H Q E →
  codeAny (model P w) A (.call (.ref f) args) (CR CX0 outer P w H s Q E) s
def CalleeN (P : Program) (w : World) (K : PySem.W.Frag) (mg : Str → Option Value) (base : Heap) (x : Str) (k : Nat) (sp : Sp) : Prop :=
 ∃ f fd ps, FnOkN P w K mg base k f fd ps sp ∧ mg x = some (.ref f) ∧ PySem.W.keepIn K (.ref f) = true ∧ Binds K fd ps []
abbrev cxN (P : Program) (w : World) (K : PySem.W.Frag) (mg : Str → Option Value) (base : Heap) (N : List Str) (qual : Str) (scope : Scope) (f : Addr) (cd : Value) (A : Around) (outer : List Env) (s : Shared) (H : Hp) (E : XK) : Cx :=
 { cxOf CX0 P w K mg base N qual scope f cd A outer s H E with calm := false, xe := fun _ _ => False }
section
variable {P : Program} {w : World} {K : PySem.W.Frag} {mg : Str → Option Value} {base : Heap}
theorem inv_startN {N ps : List Str} {qual : Str} {scope : Scope} {f : Addr} {cd : Value} {A : Around} {outer : List Env} {s s1 : Shared} {H : Hp} {E : XK} {us : List Value} {vs : List V} (S : FnScope N ps scope) (e0 : Env0 P w K mg base A outer s H) (hl : vs.length = ps.length) (r : Vals vs us)
 (x : InCallC s s.heap.objs.size (bindL (envOfC qual scope s.heap.objs.size f cd).kindOf (ps.zip us) fun _ => none) (cellsFrom (s.heap.objs.size + 1) scope.names []) (bindC (envOfC qual scope s.heap.objs.size f cd).kindOf (ps.zip us) fun _ => none) s1) :
 Inv (cxN P w K mg base N qual scope f cd A outer s H E) [] (start N vs) H s1 := by
 have I := inv_start (CX := CX0) (E := E) (A := { A with handled := none }) (qual := qual) (f := f) (cd := cd) S rfl ⟨e0.frames, e0.mod, e0.bs, e0.bsz, e0.funs, e0.frf, e0.hok, e0.bare⟩ hl r x
 exact ⟨⟨I.ok.mod, I.ok.kind, I.ok.glob, I.ok.blt, I.ok.above, I.ok.inj, I.ok.has, I.ok.cab, fun h => (by cases h), Around.frames_deeper e0.frames, I.ok.stk, I.ok.exf, I.ok.bs, I.ok.bsz, I.ok.noex, I.ok.exfs, I.ok.funs, I.ok.frf⟩,
  I.os, I.bare, I.base, I.loc, I.cell, I.free, I.freeC, I.pin, I.hok, I.len⟩
theorem Def.okN {x : Str} {st : Stmt} {N ps : List Str} {k : Nat} {sp : Sp} (D : Def K mg x st) (S : FnScope N ps (defScope st))
 (bd : ∀ (kV doc pm : Value) (an : Option Addr) (cdv ct : Value) (us : List Value), us.length = ps.length → bindArgs (PySem.W.fnOf x x (defArgs st) (defBody st) (defScope st) .none kV doc pm an cdv ct) ⟨us, []⟩ = pure (ps.zip us))
 (len : ∀ vs H Q E, sp vs H Q E → vs.length = ps.length)
 (hbody : ∀ (f : Addr) (cdv : Value) (A : Around) (outer : List Env) (s : Shared) (H : Hp) (vs : List V) (Q : VK) (E : XK), RoomN k (A.deeper (envOfC x (defScope st) s.heap.objs.size f cdv)) → sp vs H Q E →
  ∃ t, PSs (cxN P w K mg base N x (defScope st) f cdv A outer s H E) (defBody st) t ∧ t { nx := fun _ H' => Q .non H', rt := Q } (start N vs) H) : CalleeN P w K mg base x (k + 1) sp := by
 obtain ⟨f, fd, F, hm⟩ := D
 have Fk := F.kp
 have Fb := F.binds bd
 obtain ⟨oc, od, kV, doc, pm, an, cdv, ct, osl, rfl, lk, hcd⟩ := F.ex
 refine ⟨f, _, ps, ⟨len, fun A outer s H args us vs Q E hr e0 hb r hsp => ?_⟩, hm, Fk, Fb⟩
 have KX : K.In s.heap := e0.mod.kin.keeps fun b o e => (e0.bs b o e).1
 have lim : s.heap.NoLimit := e0.mod.nolimit.keeps fun b o e => (e0.bs b o e).1
 have hkind : ∀ y ∈ ps.zip us, (defScope st).names.lookup y.1 = some .local ∨ ((defScope st).names.lookup y.1 = some .cell ∧ ((cellsFrom (s.heap.objs.size + 1) (defScope st).names []).lookup y.1).isSome = true) := fun ⟨n, v⟩ hy => by
  rcases S.par n (List.of_mem_zip hy).1 with q | q
  ·exact .inl q
  ·exact .inr ⟨q, PySem.W.cellsFrom_some _ _ _ (.inl q)⟩
 refine codeAny_call_function (by have := hr.dp; lia) (KX _ _ lk) rfl S.co S.gen rfl (PySem.W.codeRec_of KX hcd) (hb _ _ _ _ ?_)
 refine wpAny_newFunctionEnv_cells S.kind hkind fun env he s1 x1 => ?_
 subst he
 refine ⟨lim.keeps x1.toInCall.keep, codeAny_func ?_⟩
 obtain ⟨t, ht, hq⟩ := hbody f cdv A outer s H vs Q E (hr.deeper _) hsp
 have I := inv_startN (E := E) S e0 (len _ _ _ _ hsp) r x1
 refine wpAny_mono (ht [] s1 (start N vs) H _ I hq) (fun fl s' hs => ?_) fun e s' hs => False.elim hs
 have fin : ∀ {σ' : St} {H' : Hp} {v : V} {u : Value}, Inv (cxN P w K mg base N x (defScope st) f cdv A outer s H E) [] σ' H' s' → RelV v u → Q v H' → CE outer P w H s Q u s' :=
  fun {σ' H' v u} J rv q => ⟨v, H', J.os, J.bare, J.base, J.hok, rv, q⟩
 cases fl with
 | ret u =>
   obtain ⟨v, σ', H', J, rv, q⟩ := hs
   exact fin J rv q
 | next =>
   obtain ⟨σ', H', J, q⟩ := hs
   exact fin (v := V.non) (u := Value.none) J rfl q
 | brk =>
   obtain ⟨_, _, _, q⟩ := hs
   exact False.elim q
 | cont =>
   obtain ⟨_, _, _, q⟩ := hs
   exact False.elim q
end
section
variable {X : Cx}
theorem pe_callC {x : Str} {k : Nat} {sp : Sp} {e : Expr} {es : List Expr} {t : TA} {p pos : Pos} (C : CalleeN X.prog X.w X.K X.mg X.base x k sp) (hr : RoomN k X.A) (hg : Gl X x) (ha : PA X (e :: es) t)
 (he : starEach (e :: es) X.env = (false, eval e X.env) :: starEach es X.env := by rfl) (hpl : (backTo pos (starEach es X.env)).any (·.1) = false := by rfl) (hdb : (x == ("__debug__" : Str)) = false := by decide) :
 PE X (.Call (.Name x p) (e :: es) [] pos) (tCall sp [] E0 t) := by
 obtain ⟨f, fd, ps, F, hm, hk, hb⟩ := C
 walk_at "z9"
 refine wpAny_Call_Name_kw (ld_glob I hg hm ?_ hdb)
 walk_at "z22"
 have r2 : Vals (vs ++ []) (us ++ []) := r.append .nil
 have hl : (us ++ []).length = ps.length := by rw [← r2.length]; exact F.len _ _ _ _ q
 refine wpAny_call (codeAny_mono (F.run X.A X.stack s1 H1 ⟨us, []⟩ (us ++ []) (vs ++ []) Q E0 hr I1.env0 (hb s1 us I1.kIn hl) r2 q) fun r3 s' hq => ?_)
 cases r3 with
 | error v => exact False.elim hq
 | ok fl =>
   cases fl with
   | ret u => exact I1.after hq
   | next => exact False.elim hq
   | brk => exact False.elim hq
   | cont => exact False.elim hq
theorem pe_globR {x : Str} {a : Addr} {pos : Pos} (hm : X.mg x = some (.ref a)) (hg : Gl X x) (hd : (x == ("__debug__" : Str)) = false := by decide) : PE X (.Name x pos) (tC (.ref a)) := fun pins s σ H Q I q =>
 ld_glob I hg hm ⟨.ref a, H, I, rfl, q⟩ hd
end
end L2
namespace L2
open PySem PySem.Spec PyProof.Rows
structure IsiCls (K : PySem.W.Frag) (D : Addr) : Prop where
 ga : PySem.W.findIn K (.ref D) "__getattribute__" = some (some (.builtin "BaseException.__getattribute__"))
 gt : PySem.W.findIn K (.ref D) "__getattr__" = some none
 mb : PySem.W.mroIn K D (.type "BaseException") = some true
 hd : PySem.W.hasDictIn K D = true
 ca : PySem.W.findIn K (.ref D) "__class__" = some (some (.builtin "object.__class__"))
 sp : PySem.W.specialIn K (.builtin "object.__class__") "__get__" = some (some (.builtin "getset_descriptor.__get__"))
 tk : PySem.W.takesIn K (.builtin "object.__class__") = some true
 mr : PySem.W.mroIn K D (.type "object") = some true
theorem excAt_inst {h : Heap} {x D : Addr} (e : ExcAt x (.ref D) h) : ∃ ox, PySem.W.InstAt h x ox D none := by
 obtain ⟨o, vs, z, c, d, f⟩ := e
 refine ⟨o, z, c, ?_, ?_⟩
 ·rcases o with ⟨c', d', dt, sl⟩
  dsimp only at f
  subst f
  rfl
 ·rw [d]
  trivial
theorem exc_class_attr {K : PySem.W.Frag} {x D : Addr} {ox : Obj} {prog : Program} {w : World} {A : Around} {E : Value → Shared → Prop} {s : Shared} {Q : Option Value → Shared → Prop}
 (X : K.In s.heap) (I : PySem.W.InstAt s.heap x ox D none) (C : IsiCls K D) (h : Q (some (.ref D)) { s with toks := s.toks + 1 }) : wpAny (model prog w) A (getAttr? (.ref x) "__class__") Q E s := by
 have hf : PySem.W.findObj K D none "__class__" = some (.bind (.builtin "getset_descriptor.__get__") (.builtin "object.__class__")) := by
  obtain ⟨cd, hc, _⟩ := PySem.W.any_some C.hd
  unfold PySem.W.findObj
  rw [hc]
  simp only [Option.bind_some, C.ca, C.sp, C.tk]
 obtain ⟨hh, g, d, t, os⟩ := s
 have L0 := I.type (M := model prog w)
 have L1 := PySem.W.looks_findIn (M := model prog w) X C.ga
 have L2 := PySem.W.looks_findIn (M := model prog w) X C.gt
 have L3 := PySem.W.looks_mroIn (M := model prog w) X C.mb
 have L4 := PySem.W.looks_find (M := model prog w) X I hf
 have hk : builtinKind "BaseException.__getattribute__" = some .slot := by decide +kernel
 have hsplit : splitId "BaseException.__getattribute__" = some ("BaseException", "__getattribute__") := by decide +kernel
 unfold getAttr? getAttrBy? getAttrBy
 refine wpAny_bind (wpAny_mkText (wpAny_bind (wpAny_attempt (wpAny_holding (wpAny_bind (L0.at (wpAny_bind (L1.at ?_))))))))
 show wpAny _ _ (getAttrByItsOwn _ _ _ _ _ _) _ _ _
 unfold getAttrByItsOwn
 refine wpAny_bind (L2.at (wpAny_bind (wpAny_attempt (wpAny_holding ?_))))
 show wpAny _ _ (boundAndCalled _ _ _) _ _ _
 unfold boundAndCalled
 rw [PySem.F.attr_ValueError.ga.bind]
 refine wpAny_bind (wpAny_pure (wpAny_call (codeAny_call_builtin PySem.F.attr_ValueError.ga.plain PySem.F.entry_bexc_ga ?_)))
 have ha := PySem.F.args_bexc_ga (.ref x) (.str "__class__" t)
 simp only [checkBuiltinCall, hk, hsplit]
 refine wpAny_bind ?_
 unfold isInstance
 refine wpAny_bind (L0.at (L3.at ?_))
 repeat (first | with_reducible refine L4.at ?_ | with_reducible refine L0.at ?_ | wp_step)
 refine PySem.W.class_get (s := ⟨hh, g, d, t + 1, os⟩) (ox := ox) (od := none) X I C.mr ?_
 refine wpAny_pure ?_
 exact PySem.W.handed_on rfl (wpAny_pure h)
theorem kitx_exc {K : PySem.W.Frag} {x D : Addr} (C : IsiCls K D) : PySem.W.KitX K (.ref x) (.ref D) (ExcAt x (.ref D)) where
 ty := fun _ _ _ e => by
  obtain ⟨ox, I⟩ := excAt_inst e
  exact I.type
 it := fun _ _ kin _ => by
  obtain ⟨cd, hc, _⟩ := PySem.W.any_some C.hd
  unfold PySem.W.clsIn at hc
  split at hc
  case h_2 => cases hc
  case h_1 look =>
   intro A' Q' E' s' k q
   unfold isType loadHead
   exact wpAny_bind (wpAny_loadPart (k _ _ (kin _ _ look)) (wpAny_pure q))
 ne := fun h tp dd its n sl kin htp => by
  obtain ⟨cd, hc, _⟩ := PySem.W.any_some C.hd
  cases q : ((Value.ref D) == .ref tp) with
  | false => rfl
  | true =>
    have e : D = tp := Value.ref.inj (beq_iff_eq.mp q)
    unfold PySem.W.clsIn at hc
    split at hc
    case h_2 => cases hc
    case h_1 look =>
     rw [e] at look
     have z := kin _ _ look
     rw [htp] at z
     cases z
 ca := fun {prog w A E Q s} kin e k => by
  obtain ⟨ox, I⟩ := excAt_inst e
  exact exc_class_attr kin I C k
def rIsiX (K : PySem.W.Frag) : List V → Hp → VK → Prop := fun xs H Q => ∃ (e D : Addr) (x : V) (c : Value) (b : Bool), xs = [.ref e, x] ∧ (∀ u, RelV x u → u = c) ∧ H e = some (.ext (ExcAt e (.ref D))) ∧ IsiCls K D ∧ PySem.W.kitOne K (.ref D) c = some b ∧ Q (.bl b) H
theorem call_isinstanceX {X : Cx} (K : PySem.W.Frag) (hK : X.K = K := by rfl) : CallR X (.builtin "isinstance") (rIsiX K) := by
 subst hK
 walk_at "z25"
 obtain ⟨e, D, x, c, b, rfl, hc, he, C, hk, q⟩ := h
 obtain ⟨u, c', rfl, rx, rc⟩ := vals2 r
 cases (show u = Value.ref e from rx)
 cases hc c' rc
 have he' : ObjOk X.prog X.w H s.heap e (.ext (ExcAt e (.ref D))) := I.hok e _ he
 exact PySem.W.kia_one (kitx_exc C) I.kIn he'.1 hk (fun z => nomatch z) fun tk => ⟨.bl b, H, I.tok tk, rfl, q⟩
end L2
namespace L2
open PySem PySem.Spec PyProof.Rows
section
variable {K : PySem.W.Frag} {g : TG} {ti : TT} {te : TE} {σc : St} {H : Hp} {Q : VK}
theorem cp_tup {a : Addr} {xs : List V} (Pv : Nat → List V → Hp → Prop) (h0 : Pv 0 [] H) (hl : ∀ i ys H, Pv i ys H → SqT K H a xs ∧ ys.length ≤ i) (hx : xs.length < sizeLine)
 (hs : ∀ i x ys H, xs[i]? = some x → Pv i ys H → g x σc H fun σ2 H2 => ti σ2 H2 fun b H3 => if b = true then te σ2 H3 fun y H4 => Pv (i + 1) (ys ++ [y]) H4 else Pv (i + 1) ys H3)
 (hd : ∀ l ys H, Pv xs.length ys H → H l = none → Q (.ref l) (upd H l (.lst ys))) : CompI (Itt K a) g ti te σc H Q := by
 refine ⟨fun i m ys H => m = xs.length - i ∧ i ≤ xs.length ∧ Pv i ys H, ⟨_, rfl, Nat.zero_le _, h0⟩, ?_⟩
 rintro i m ys H ⟨rfl, hi, p⟩
 obtain ⟨q, hy⟩ := hl i ys H p
 refine ⟨by lia, ?_⟩
 by_cases hlt : i < xs.length
 ·walk_at "z29"
  obtain ⟨e, y⟩ := y
  subst e
  exact hs i x ys _ (y xs q) p
 ·have e : i = xs.length := by lia
  subst e
  exact .inl ⟨⟨xs, q, Nat.le_refl _⟩, fun l hl => hd l ys H p hl⟩
end
def rTupOf (K : PySem.W.Frag) : List V → Hp → VK → Prop := fun xs H Q => ∃ p ys, xs = [.ref p] ∧ ((SqL K H p ys ∧ ∀ l, H l = none → Q (.ref l) (upd H l (.tup ys))) ∨ (SqT K H p ys ∧ Q (.ref p) H))
theorem call_tupleK {X : Cx} (K : PySem.W.Frag) (hK : X.K = K := by rfl) : CallR X (.type "tuple") (rTupOf K) := by subst hK; exact call_tuple_of
section
variable {K : PySem.W.Frag} {H : Hp} {Q : VK}
theorem i_tupL {p : Addr} {ys : List V} (h : SqL K H p ys) (q : ∀ l, H l = none → Q (.ref l) (upd H l (.tup ys))) : rTupOf K [.ref p] H Q := ⟨p, ys, rfl, .inl ⟨h, q⟩⟩
end
end L2
namespace L2
open PySem PySem.Spec PyProof.Rows
end L2
namespace L2
open PySem PySem.Spec PyProof.Rows
def celC (X : Cx) (scope : Scope) (C : Addr) : List (Str × Addr) := cellsFrom (C + 1) scope.names (clOf X.env scope.names [])
def cxD (X : Cx) (scope : Scope) (C : Addr) (N : List Str) (s₂ : Shared) (H₂ : Hp) (ex : List Addr) (xb : Value → Shared → Prop) : Cx :=
 { X with N := N, s₀ := s₂, H₀ := H₂, env := compEnvC scope (celC X scope C) C X.env, outer := X.stack, stack := X.stack, ex := ex, fn := fun x => scope.names.lookup x == some .cell, pn := [], xe := xb }
structure CompOkD (X : Cx) (scope : Scope) (N : List Str) (fr : List (Option Nat)) : Prop where
 kind : scope.kind = .function
 own : ∀ y ∈ scope.names, y.2 = .cell → scope.names.lookup y.1 = some .cell
 names : ∀ y ∈ scope.names, y.2 = .local → scope.names.lookup y.1 = some .local
 frees : ∀ y ∈ scope.names, y.2 = .free → X.env.kindOf y.1 = some .cell ∨ X.env.kindOf y.1 = some .free
 fr : FrOk X scope N fr
section
variable {X : Cx} {scope : Scope} {N : List Str} {fr : List (Option Nat)} {xb : Value → Shared → Prop}
structure Cel (X : Cx) (scope : Scope) (C : Addr) (h : Heap) : Prop where
 get : ∀ x a, (celC X scope C).lookup x = some a → X.env.cells.lookup x = some a ∨ (C < a ∧ (x, NameKind.cell) ∈ scope.names ∧ h.IsCell a none)
end
section
variable {prog : Program} {w : World} {A : Around} {EE : Value → Shared → Prop} {R : Result → Shared → Prop} {s : Shared}
end
structure DOk (X : Cx) (D : Addr) : Prop where
 ne : D ≠ X.env.locals
 ab : X.s₀.heap.objs.size ≤ D
 cl : ∀ x a, X.env.cells.lookup x = some a → a ≠ D
 fs : D ∉ X.fs
def LastI (J : It) (g : TG) (ti : TT) (te : TE) (σc : St) (ys0 : List V) (H1 : Hp) (Z : List V → Hp → Prop) : Prop := ∃ W : Nat → Nat → List V → Hp → Prop, (∃ m, W 0 m ys0 H1) ∧ ∀ i m ys H, W i m ys H → ys.length < sizeLine ∧
 ((J.stop i H ∧ Z ys H) ∨ (J.go i H ∧ ∃ M : List V → Hp → Prop, (∀ ys' H', M ys' H' → ∃ m', m' < m ∧ W (i + 1) m' ys' H') ∧
   ∀ x H', J.yld i H x H' → g x σc H' fun σ2 H2 => ti σ2 H2 fun b H3 => if b = true then te σ2 H3 fun y H4 => M (ys ++ [y]) H4 else M ys H3))
section
variable {X : Cx} {scope : Scope} {fr1 : List (Option Nat)} {tg iter elt : Expr} {ifs : List Expr} {gens : List Comprehension} {d : Nat} {pos : Pos} {J : It} {g : TG} {ti : TT} {te : TE} {R : Result → Shared → Prop}
end
section
variable {X : Cx} {scope : Scope} {N : List Str} {fr : List (Option Nat)} {tg iter elt : Expr} {ifs : List Expr} {rest : List Comprehension} {pos : Pos} {J : It} {xb : Addr → Value → Shared → Prop}
structure Beg (X : Cx) (scope : Scope) (N : List Str) (fr : List (Option Nat)) (xb : Addr → Value → Shared → Prop) (pins : List (Addr × Obj)) (σ : St) (H : Hp) (s₂ : Shared) (fp : List Addr) (D C : Addr) (h₁ : Heap) : Prop where
 ix : Inv X pins σ H s₂
 ds : s₂.heap.objs.size = D
 dc : D < C
 cel : Cel X scope C h₁
 inv : Inv (cxD X scope C N s₂ H fp (xb C)) [] (stC fr σ) H { s₂ with heap := h₁ }
 fpk : ∀ b ∈ fp, FpOk X pins H b ∧ b < s₂.heap.objs.size
 acc : h₁.get? D = some (lob [] 0)
 free : H D = none
section
variable {pins : List (Addr × Obj)} {σ : St} {H : Hp} {s₂ : Shared} {fp : List Addr} {D C : Addr} {h₁ : Heap}
end
end
section
variable {prog : Program} {w : World} {A : Around} {R : Result → Shared → Prop} {s : Shared}
end
section
variable {X : Cx} {scope : Scope} {N : List Str} {fr : List (Option Nat)} {tg iter elt : Expr} {ifs : List Expr} {pos : Pos} {g : TG} {ti : TT} {te : TE}
end
def msk (fr1 : List (Option Nat)) (σ : St) : St := List.zipWith (fun f v => f.bind fun _ => v) fr1 σ
def CompI2 (J : It) (fr1 : List (Option Nat)) (g : TG) (ti : TT) (wi1 : TI) (g1 : TG) (ti1 : TT) (te : TE) (σc : St) (H1 : Hp) (Q : VK) : Prop := ∃ W : Nat → Nat → List V → Hp → Prop, (∃ m, W 0 m [] H1) ∧ ∀ i m ys H, W i m ys H → ys.length < sizeLine ∧
 ((J.stop i H ∧ ∀ l, H l = none → Q (.ref l) (upd H l (.lst ys))) ∨ (J.go i H ∧ ∃ M : List V → Hp → Prop, (∀ ys' H', M ys' H' → ∃ m', m' < m ∧ W (i + 1) m' ys' H') ∧
   ∀ x H', J.yld i H x H' → g x σc H' fun σ2 H2 => ti σ2 H2 fun b H3 => if b = true then wi1 σ2 H3 fun J1 H4 => LastI J1 g1 ti1 te (msk fr1 σ2) ys H4 M else M ys H3))
def tComp2 (fr fr1 : List (Option Nat)) (wi : TI) (g : TG) (ti : TT) (wi1 : TI) (g1 : TG) (ti1 : TT) (te : TE) : TE := fun σ H Q => wi σ H fun J H1 => CompI2 J fr1 g ti wi1 g1 ti1 te (stC fr σ) H1 Q
section
variable {X : Cx} {scope : Scope} {N : List Str} {fr fr1 : List (Option Nat)} {tg iter tg1 iter1 elt : Expr} {ifs ifs1 : List Expr} {pos : Pos} {g g1 : TG} {ti ti1 : TT} {te : TE} {wi1 : TI}
end
section
variable {g g1 : TG} {ti ti1 : TT} {te : TE} {wi1 : TI} {fr1 : List (Option Nat)} {σc : St} {H : Hp} {Q : VK}
end
end L2
namespace L2
open PySem PySem.Spec PyProof.Rows
section
variable {P : Program} {w : World} {K : PySem.W.Frag} {mg : Str → Option Value} {base : Heap} {C : Addr} {m qual : Str} {st : Stmt} {N ps : List Str} {k : Nat} {sp : Sp}
end
section
variable {X : Cx} (K : PySem.W.Frag) {C : Addr} {m x : Str} {k : Nat} {sp : Sp} {e o : Expr} {es : List Expr} {ta : TE} {t : TA} {p pos apos : Pos} {f : Str} {tv : TE} {value : Expr} {pos' : Pos}
end
end L2
namespace L2
open PySem PySem.Spec PyProof.Rows
section
variable {M : Model} {A : Around} {E : Value → Shared → Prop} {s : Shared} {B : Heap} {env : Env} {outer : List Env} {L e : Addr}
end
section
variable {P : Program} {w : World} {K : PySem.W.Frag} {mg : Str → Option Value} {base : Heap} {N : List Str} {qual : Str} {scope : Scope} {f : Addr} {cd : Value} {A : Around} {outer : List Env} {s : Shared} {H : Hp} {E : XK}
end
structure XIn (X : Cx) (C : Addr) (s₂ : Shared) (H : Hp) (fp : List Addr) : Prop where
 ex : ∃ pins σ, Inv X pins σ H s₂ ∧ ∀ b ∈ fp, FpOk X pins H b ∧ b < s₂.heap.objs.size
 le : s₂.heap.objs.size ≤ C
section
variable {P : Program} {w : World} {K : PySem.W.Frag} {mg : Str → Option Value} {base : Heap} {N : List Str} {qual : Str} {scope : Scope} {f : Addr} {cd : Value} {A : Around} {outer : List Env} {s : Shared} {H : Hp} {E : XK} {scope' : Scope} {N' : List Str} {C : Addr} {s₂ : Shared} {H₂ : Hp} {fp : List Addr}
end
section
variable {P : Program} {w : World} {K : PySem.W.Frag} {mg : Str → Option Value} {base : Heap} {N : List Str} {qual : Str} {scope : Scope} {f : Addr} {cd : Value} {A : Around} {outer : List Env} {s : Shared} {H : Hp} {E : XK} {scope' : Scope} {N' : List Str} {C : Addr} {s₂ : Shared} {H₂ : Hp} {fp : List Addr} {Y : Cx}
end
section
variable {X : Cx} {scope : Scope} {N : List Str} {fr : List (Option Nat)} {tg iter elt : Expr} {ifs : List Expr} {pos : Pos} {g : TG} {ti : TT} {te : TE}
end
end L2
namespace L2
open PySem PySem.Spec PyProof.Rows
section
variable {X : Cx} {e k : Expr} {te : TE} {tk : TO} {pos p2 : Pos}
def rRev (K : PySem.W.Frag) : V → Hp → VK → Prop := fun x H Q => ∃ a xs, x = .ref a ∧ SqL K H a xs ∧ ∀ p, H p = none → Q (.ref p) (upd H p (.lst xs.reverse))
def tRev (K : PySem.W.Frag) (te : TE) (tk : TO) : TE := fun σ H Q => te σ H fun x H1 => tk σ H1 fun j H2 => j = some (-1) ∧ rRev K x H2 Q
end
section
variable {X : Cx}
end
section
variable {K : PySem.W.Frag} {H : Hp} {Q : VK}
end
end L2
namespace M
def drag (p a x : Int) : Int := if x < a - p then a - p else if a + p < x then a + p else x
theorem drag_mid {p a x : Int} (h0 : 0 ≤ p) : drag p a x - a ≤ p ∧ a - drag p a x ≤ p ∧ (p < x - a → drag p a x = a + p) ∧ (p < a - x → drag p a x = a - p) ∧ (¬ p < x - a → ¬ p < a - x → drag p a x = x) := by
 unfold drag
 split
 ·lia
 ·split <;> lia
def isTr (ps : List Int) : Prop := 1 ≤ ps.length ∧ ps.length ≤ 12 ∧ ∀ p ∈ ps, 0 ≤ p
def keeps : List Int → Int → List Int → Prop
 | p :: ps, a, x :: xs => (x - a ≤ p ∧ a - x ≤ p) ∧ keeps ps x xs
 | _, _, _ => True
def stand (ps : List Int) (a : Int) (xs : List Int) : Prop := xs.length = ps.length ∧ keeps ps a xs
def dragAll : List Int → List Int → Int → List Int
 | p :: ps, x :: xs, a => drag p a x :: dragAll ps xs (drag p a x)
 | _, _, _ => []
def lastOf : Int → List Int → Int
 | a, [] => a
 | _, x :: xs => lastOf x xs
theorem dropc {α : Type} {xs : List α} {i : Nat} {x : α} (h : xs[i]? = some x) : xs.drop i = x :: xs.drop (i + 1) := by
 obtain ⟨hl, e⟩ := List.getElem?_eq_some_iff.mp h
 rw [List.drop_eq_getElem_cons hl, e]
theorem lastOf_snoc (a x : Int) : ∀ xs : List Int, lastOf a (xs ++ [x]) = x := by
 intro xs
 induction xs generalizing a with
 | nil => rfl
 | cons y ys ih => exact ih y
theorem keeps_snoc {p x : Int} : ∀ (ps xs : List Int) (a : Int), ps.length = xs.length → keeps ps a xs → x - lastOf a xs ≤ p → lastOf a xs - x ≤ p → keeps (ps ++ [p]) a (xs ++ [x])
 | [], [], a, _, _, h1, h2 => ⟨⟨h1, h2⟩, trivial⟩
 | q :: ps, y :: ys, a, hl, h, h1, h2 => ⟨h.1, keeps_snoc ps ys y (by simpa using hl) h.2 h1 h2⟩
 | [], _ :: _, _, hl, _, _, _ => by simp at hl
 | _ :: _, [], _, hl, _, _, _ => by simp at hl
theorem dragAll_length : ∀ (ps xs : List Int) (a : Int), (dragAll ps xs a).length = min ps.length xs.length
 | [], xs, a => by simp [dragAll]
 | p :: ps, [], a => by simp [dragAll]
 | p :: ps, x :: xs, a => by simp [dragAll, dragAll_length ps xs]
theorem dragAll_keeps : ∀ (ps xs : List Int) (a : Int), (∀ p ∈ ps, 0 ≤ p) → keeps ps a (dragAll ps xs a)
 | [], xs, a, _ => trivial
 | p :: ps, [], a, _ => trivial
 | p :: ps, x :: xs, a, h => by
   have q := drag_mid (p := p) (a := a) (x := x) (h p (List.mem_cons_self))
   exact ⟨⟨q.1, q.2.1⟩, dragAll_keeps ps xs _ fun z hz => h z (List.mem_cons_of_mem _ hz)⟩
theorem dragAll_stand {ps xs : List Int} {a b : Int} (ht : isTr ps) (h : stand ps b xs) : stand ps a (dragAll ps xs a) := by
 refine ⟨?_, dragAll_keeps ps xs a ht.2.2⟩
 rw [dragAll_length, h.1]; lia
theorem dragAll_nil (xs : List Int) (a : Int) : dragAll [] xs a = [] := by simp [dragAll]
theorem dragAll_nil2 (ps : List Int) (a : Int) : dragAll ps [] a = [] := by cases ps <;> simp [dragAll]
theorem sum_nonneg : ∀ {ps : List Int}, (∀ p ∈ ps, 0 ≤ p) → 0 ≤ ps.sum
 | [], _ => by simp
 | p :: ps, h => by
   have h1 := h p List.mem_cons_self
   have h2 := sum_nonneg (ps := ps) fun q hq => h q (List.mem_cons_of_mem _ hq)
   simp only [List.sum_cons]; lia
def alone : Int → List Int → List Int → Int → List Int
 | d, p :: ps, x :: xs, a => drag (d + p) a x :: alone (d + p) ps xs a
 | _, _, _, _ => []
def depths : Int → List Int → List Int
 | _, [] => []
 | d, p :: ps => (d + p) :: depths (d + p) ps
theorem depths_length : ∀ (ps : List Int) (d : Int), (depths d ps).length = ps.length
 | [], _ => rfl
 | p :: ps, d => by simp [depths, depths_length ps]
theorem drag_drag {d p a x0 x : Int} (h0 : 0 ≤ d) (h1 : 0 ≤ p) (k1 : x - x0 ≤ p) (k2 : x0 - x ≤ p) : drag p (drag d a x0) x = drag (d + p) a x := by
 unfold drag
 repeat' split
 all_goals lia
theorem drag_zero (a x : Int) : drag 0 a x = a := by
 unfold drag
 repeat' split
 all_goals lia
theorem dragAll_alone : ∀ (ps xs : List Int) (d a x0 : Int), 0 ≤ d → (∀ p ∈ ps, 0 ≤ p) → keeps ps x0 xs → dragAll ps xs (drag d a x0) = alone d ps xs a
 | [], xs, d, a, x0, _, _, _ => by simp [dragAll, alone]
 | p :: ps, [], d, a, x0, _, _, _ => by simp [dragAll, alone]
 | p :: ps, x :: xs, d, a, x0, h0, hp, hk => by
   have hp0 := hp p List.mem_cons_self
   rw [dragAll, alone, drag_drag h0 hp0 hk.1.1 hk.1.2]
   rw [dragAll_alone ps xs (d + p) a x (by lia) (fun q hq => hp q (List.mem_cons_of_mem _ hq)) hk.2]
theorem dragAll_eq {ps xs : List Int} {a hd : Int} (hp : ∀ p ∈ ps, 0 ≤ p) (hk : keeps ps hd xs) : dragAll ps xs a = alone 0 ps xs a := by
 have := dragAll_alone ps xs 0 a hd (Int.le_refl 0) hp hk
 rwa [drag_zero] at this
theorem alone_get : ∀ (ps xs : List Int) (d a : Int) (k : Nat) (dk xk : Int), (depths d ps)[k]? = some dk → xs[k]? = some xk → (alone d ps xs a)[k]? = some (drag dk a xk)
 | [], xs, d, a, k, dk, xk, h, _ => by simp [depths] at h
 | p :: ps, [], d, a, k, dk, xk, _, h => by simp at h
 | p :: ps, x :: xs, d, a, 0, dk, xk, h1, h2 => by simp [depths] at h1; simp at h2; subst h1 h2; simp [alone]
 | p :: ps, x :: xs, d, a, k + 1, dk, xk, h1, h2 => by
   simp only [depths, List.getElem?_cons_succ] at h1 h2
   simp only [alone, List.getElem?_cons_succ]
   exact alone_get ps xs (d + p) a k dk xk h1 h2
theorem drag_via {p a s c x : Int} (h0 : 0 ≤ p) (k1 : x - a ≤ p) (k2 : a - x ≤ p) (h : (a ≤ s ∧ s ≤ c) ∨ (c ≤ s ∧ s ≤ a)) : drag p c (drag p s x) = drag p c x ∧ ((x ≤ drag p s x ∧ drag p s x ≤ drag p c x) ∨ (drag p c x ≤ drag p s x ∧ drag p s x ≤ x)) := by
 unfold drag
 repeat' split
 all_goals lia
theorem dragAll_via : ∀ (ps ws : List Int) (a s c : Int), (∀ p ∈ ps, 0 ≤ p) → keeps ps a ws → ((a ≤ s ∧ s ≤ c) ∨ (c ≤ s ∧ s ≤ a)) → dragAll ps (dragAll ps ws s) c = dragAll ps ws c
 | [], ws, a, s, c, _, _, _ => by simp [dragAll]
 | p :: ps, [], a, s, c, _, _, _ => by simp [dragAll]
 | p :: ps, x :: xs, a, s, c, hp, hk, h => by
   have q := drag_via (hp p List.mem_cons_self) hk.1.1 hk.1.2 h
   simp only [dragAll]
   rw [q.1, dragAll_via ps xs x _ _ (fun z hz => hp z (List.mem_cons_of_mem _ hz)) hk.2 q.2]
theorem take_snoc_get {α : Type} {xs : List α} {j : Nat} {x : α} (h : xs[j]? = some x) : xs.take (j + 1) = xs.take j ++ [x] := by
 rw [List.take_add_one, h]; rfl
end M
namespace M
abbrev Fn := Int → Int
abbrev Must := Int × Int
def mp (D G : Fn) (m : Must) : Int := G m.1 + m.2 * D m.1
def bey (D G : Fn) (a : Must) (w : Int) : Prop := (mp D G a - G w) * a.2 > D w
instance (D G : Fn) (a : Must) (w : Int) : Decidable (bey D G a w) := inferInstanceAs (Decidable (_ > _))
def rst (D G : Fn) : Nat → Must → List Must
 | 0, a => if bey D G a (-1) then [(-1, -a.2)] else []
 | k + 1, a => if bey D G a k then ((k : Int), -a.2) :: rst D G k ((k : Int), -a.2) else rst D G k a
def ab (i : Int) : Int := if i < 0 then -i else i
def rr (D G : Fn) : Nat → Must → List Must
 | 0, _ => []
 | k + 1, a => rst D G k a
end M
namespace L2
open PySem PySem.Spec PyProof.Rows
section
variable {prog : Program} {w : World} {A : Around} {E : Value → Shared → Prop} {s : Shared}
local macro_rules | `(tactic| walk_at "ne") => `(tactic| (show @Ne Nat _ _; lia))
end
end L2
namespace L2
open PySem PySem.Spec PyProof.Rows
local macro_rules | `(tactic| walk_at "ne") => `(tactic| (show @Ne Nat _ _; lia))
section
variable {prog : Program} {w : World} {A : Around} {E : Value → Shared → Prop} {s : Shared}
end
section
variable {prog : Program} {w : World} {A : Around} {E : Value → Shared → Prop} {s : Shared}
end
def It3 (K : PySem.W.Frag) (a b c : Addr) : It :=
 ⟨fun i H => ∃ xs ys zs x y q, SqL K H a xs ∧ SqL K H b ys ∧ SqL K H c zs ∧ xs[i]? = some x ∧ ys[i]? = some y ∧ zs[i]? = some q,
  fun i H v H' => ∃ T x y q, v = .ref T ∧ H T = none ∧ H' = upd H T (.tup [x, y, q]) ∧ (∀ xs, SqL K H a xs → xs[i]? = some x) ∧ (∀ ys, SqL K H b ys → ys[i]? = some y) ∧ ∀ zs, SqL K H c zs → zs[i]? = some q,
  fun i H => ∃ xs ys zs, SqL K H a xs ∧ SqL K H b ys ∧ SqL K H c zs ∧ (xs.length ≤ i ∨ ys.length ≤ i ∨ zs.length ≤ i)⟩
def iZip3 (K : PySem.W.Frag) (ta : TA) : TI := fun σ H R => ta σ H fun vs H1 => ∃ a b c, vs = [.ref a, .ref b, .ref c] ∧ (∃ xs, SqL K H1 a xs) ∧ (∃ ys, SqL K H1 b ys) ∧ (∃ zs, SqL K H1 c zs) ∧ R (It3 K a b c) H1
section
variable {X : Cx} {elts : List Expr} {kk : Nat} {tp : Pos}
end
section
variable {K : PySem.W.Frag} {g : TG} {ti : TT} {te : TE} {σc : St} {H : Hp} {Q : VK}
end
end L2
set_option maxHeartbeats 4000000
namespace HT
open PySem PySem.Spec PyProof.Rows
section
open PySem.SeqAt
open PySem.AutoSeq1 (wpAny_loadPart')
open PySem.MeetsSeq PySem.MeetsSeq2 PySem.MeetsSeq3
end
section
variable {prog : Program} {w : World} {A : Around} {E : Value → Shared → Prop} {s : Shared}
end
end HT
namespace L2
open PySem PySem.Spec PyProof.Rows
end L2
namespace HT
open PySem PySem.Spec PyProof.Rows L2
section
open PySem.SeqAt
open PySem.AutoSeq1 (wpAny_loadPart')
open PySem.MeetsSeq PySem.MeetsSeq2 PySem.MeetsSeq3
def pairLt (p q : Int × List Int) : Bool := if p.1 = q.1 then lexLt p.2 q.2 else decide (p.1 < q.1)
theorem lexLt_self : ∀ ns : List Int, lexLt ns ns = false
 | [] => rfl
 | x :: ns => by rw [lexLt_cons, if_pos rfl]; exact lexLt_self ns
end
end HT
namespace HT
open PySem PySem.Spec PyProof.Rows L2
section
open PySem.SeqAt
open PySem.MeetsSeq PySem.MeetsSeq2 PySem.MeetsSeq3
local macro_rules | `(tactic| walk_at "minloop") => do
 let n := Lean.mkIdent ((Lean.Name.num `_private.PySem.Builtin.Builtins.W1All 0) ++ `PySem.Builtin.minMaxLoop)
 `(tactic| (delta Builtin.«min.loop»; delta $n:ident; dsimp only))
local macro_rules | `(tactic| walk_at "minmax") => do
 let n := Lean.mkIdent ((Lean.Name.num `_private.PySem.Builtin.Builtins.W1All 0) ++ `PySem.Builtin.minMax)
 `(tactic| (delta Builtin.min; delta $n:ident; dsimp only))
end
end HT
namespace HT
theorem lexLt_trans : ∀ {a b c : List Int}, lexLt a b = true → lexLt b c = true → lexLt a c = true
 | [], _ :: _, _ :: _, _, _ => rfl
 | x :: a, y :: b, z :: c, h1, h2 => by
   rw [lexLt_cons] at h1 h2 ⊢
   by_cases e1 : x = y
   ·rw [if_pos e1] at h1
    subst e1
    by_cases e2 : x = z
    ·rw [if_pos e2] at h2 ⊢
     exact lexLt_trans h1 h2
    ·rw [if_neg e2] at h2 ⊢
     exact h2
   ·rw [if_neg e1] at h1
    have h1' := of_decide_eq_true h1
    by_cases e2 : y = z
    ·subst e2
     rw [if_neg e1]
     exact h1
    ·rw [if_neg e2] at h2
     have h2' := of_decide_eq_true h2
     rw [if_neg (by lia)]
     exact decide_eq_true (by lia)
 | [], [], _, h1, _ => by simp [lexLt] at h1
 | _ :: _, [], _, h1, _ => by simp [lexLt] at h1
 | [], _ :: _, [], _, h2 => by simp [lexLt] at h2
 | _ :: _, _ :: _, [], _, h2 => by simp [lexLt] at h2
theorem lexLt_tot : ∀ {a b : List Int}, lexLt a b = false → lexLt b a = false → a = b
 | [], [], _, _ => rfl
 | [], _ :: _, h, _ => by simp [lexLt] at h
 | _ :: _, [], _, h => by simp [lexLt] at h
 | x :: a, y :: b, h1, h2 => by
   rw [lexLt_cons] at h1 h2
   by_cases e : x = y
   ·rw [if_pos e] at h1
    rw [if_pos e.symm] at h2
    rw [e, lexLt_tot h1 h2]
   ·rw [if_neg e] at h1
    rw [if_neg (Ne.symm e)] at h2
    have a1 := of_decide_eq_false h1
    have a2 := of_decide_eq_false h2
    lia
theorem pairLt_trans {p q r : Int × List Int} (h1 : pairLt p q = true) (h2 : pairLt q r = true) : pairLt p r = true := by
 unfold pairLt at *
 by_cases e1 : p.1 = q.1
 ·rw [if_pos e1] at h1
  by_cases e2 : q.1 = r.1
  ·rw [if_pos e2] at h2
   rw [if_pos (e1.trans e2)]
   exact lexLt_trans h1 h2
  ·rw [if_neg e2] at h2
   rw [if_neg (by lia)]
   rw [e1]; exact h2
 ·rw [if_neg e1] at h1
  have h1' := of_decide_eq_true h1
  by_cases e2 : q.1 = r.1
  ·rw [if_neg (by lia)]
   rw [← e2]; exact h1
  ·rw [if_neg e2] at h2
   have h2' := of_decide_eq_true h2
   rw [if_neg (by lia)]
   exact decide_eq_true (by lia)
theorem pairLt_self (p : Int × List Int) : pairLt p p = false := by unfold pairLt; rw [if_pos rfl]; exact lexLt_self _
end HT
namespace L2
open PySem PySem.Spec PyProof.Rows
section
variable {X : Cx}
end
end L2
namespace HT
theorem pairLt_tot {p q : Int × List Int} (h1 : pairLt p q = false) (h2 : pairLt q p = false) : p = q := by
 unfold pairLt at *
 by_cases e : p.1 = q.1
 ·rw [if_pos e] at h1
  rw [if_pos e.symm] at h2
  exact Prod.ext e (lexLt_tot h1 h2)
 ·rw [if_neg e] at h1
  rw [if_neg (Ne.symm e)] at h2
  have a1 := of_decide_eq_false h1
  have a2 := of_decide_eq_false h2
  lia
theorem pairLe_trans {p q r : Int × List Int} (h1 : pairLt p q = false) (h2 : pairLt q r = false) : pairLt p r = false := by
 cases z : pairLt p r with
 | false => rfl
 | true =>
   cases y : pairLt q p with
   | true => rw [pairLt_trans y z] at h2; cases h2
   | false => rw [pairLt_tot h1 y, h2] at z; cases z
end HT
namespace M
open HT
def upto (n : Nat) : List Int := (List.range n).map fun i : Nat => (i : Int)
end M
namespace L2
open PySem PySem.Spec PyProof.Rows
section
variable {prog : Program} {w : World} {A : Around} {E : Value → Shared → Prop} {s : Shared}
end
section
variable {X : Cx} {pos : Pos}
def gLst (K : PySem.W.Frag) (n : Nat) (t : TGs) : TG := fun v σ H Q => ∃ a xs, v = .ref a ∧ SqL K H a xs ∧ xs.length = n ∧ t xs σ H Q
end
end L2
namespace HT
open PySem PySem.Spec PyProof.Rows
section
variable {prog : Program} {w : World}
def IsStandKey (prog : Program) (w : World) (h : Heap) (p : Int × List Int) (a : Addr) : Prop :=
 ∃ o b t n, h.get? a = some o ∧ o.cls = .type "tuple" ∧ o.data = .seq #[.int p.1 t, .ref b] n ∧ IsTupleKey (intKind prog w) h p.2 b
theorem IsStandKey.typeIs {s : Shared} {p : Int × List Int} {a : Addr} (x : IsStandKey prog w s.heap p a) : s.TypeIs (.ref a) "tuple" := let ⟨o, _, _, _, ho, hc, _⟩ := x; ⟨o, ho, hc⟩
theorem IsStandKey.inj {h : Heap} {a : Addr} {x y : Int × List Int} (hx : IsStandKey prog w h x a) (hy : IsStandKey prog w h y a) : x = y := by
 obtain ⟨o, b, t, n, ho, _, hd, hi⟩ := hx
 obtain ⟨o', b', t', n', ho', _, hd', hi'⟩ := hy
 obtain rfl : o = o' := Option.some.inj (ho.symm.trans ho')
 rw [hd] at hd'
 injection hd' with h1 _
 have h2 : x.1 = y.1 ∧ b = b' := by
  have := congrArg Array.toList h1
  simp at this
  exact ⟨this.1.1, this.2⟩
 obtain ⟨h3, rfl⟩ := h2
 exact Prod.ext h3 (hi.inj hi')
theorem IsStandKey.keeps {h h' : Heap} {k : Int × List Int} {a d : Addr} {o : Obj} {es ep} (x : IsStandKey prog w h k a) (ho : h.get? d = some o) (hd : o.data = .dict es ep) (hs : Heap.SameBut d h h') :
 IsStandKey prog w h' k a := by
 obtain ⟨o', b, t, n, ho', hc, hd', hi⟩ := x
 have hne : a ≠ d := by
  rintro rfl
  obtain rfl : o' = o := Option.some.inj (ho'.symm.trans ho)
  rw [hd] at hd'; exact nomatch hd'
 exact ⟨o', b, t, n, (hs.2 a hne).trans ho', hc, hd', hi.keeps ho hd hs⟩
variable {A : Around} {E : Value → Shared → Prop} {s : Shared}
def standHash (prog : Program) (w : World) (p : Int × List Int) : Int := reduceHash (Builtin.Tuple.tupleHashOf [(intKind prog w).hash p.1, tupleKeyHash (intKind prog w) p.2])
theorem wpAny_pyHash_stand {p : Int × List Int} {a : Addr} {Q : Int → Shared → Prop} (hu : A.units + 1 < cLine) (hk : IsStandKey prog w s.heap p a) (h : Q (standHash prog w p) { s with toks := s.toks + (p.2.length + 3) }) :
 wpAny (model prog w) A (PySem.pyHash (.ref a)) Q E s := by
 have hT := hk.typeIs
 obtain ⟨o, b, t, n, ho, _, hd, hi⟩ := hk
 unfold PySem.pyHash
 first | unfold pyHashByItsType | skip
 first | refine wpAny_bind (wpAny_cRoomFor_or (.inr (by lia)) ?_) | skip
 refine wpAny_bind (wpAny_specialOf hT F.slot_tuple_hash.lookup ?_)
 show wpAny _ _ (if (some (Value.builtin "tuple.__hash__") == some Value.none) = true then _ else _) Q E s
 rw [if_neg (by rw [beq_builtin_none]; exact Bool.false_ne_true)]
 refine wpAny_bind (wpAny_specialOf hT F.slot_tuple_hash.lookup ?_)
 show wpAny _ _ (callSpecialIfBoundUnlessNone? (.ref a) "__hash__" _ >>= _) Q E s
 refine wpAny_bind (wpAny_callSpecialIfBoundUnlessNone?_slot hT F.slot_tuple_hash (wpAny_call_entry F.slot_tuple_hash hT F.entry_tuple_hash ?_ (F.args_tuple_hash_1 _)))
 show wpAny _ _ (Builtin.Tuple.tupleItemsOf (.ref a) >>= _) _ _ s
 refine wpAny_bind (wpAny_tupleItemsOf ho hd ?_)
 refine wpAny_bind ?_
 rw [← Array.forIn_toList]
 refine wpAny_forIn_list _
  (fun rest (bb : Array Int) s' => (rest = [Value.int p.1 t, Value.ref b] ∧ bb.toList = [] ∧ s' = s) ∨ (rest = [Value.ref b] ∧ bb.toList = [(intKind prog w).hash p.1] ∧ s' = { s with toks := s.toks + 1 }) ∨
   (rest = [] ∧ bb.toList = [(intKind prog w).hash p.1, tupleKeyHash (intKind prog w) p.2] ∧ s' = { s with toks := s.toks + 1 + (p.2.length + 1) }))
  _ ?_ ?_ _ _ (.inl ⟨rfl, rfl, rfl⟩)
 ·rintro x rest bb s' (⟨hr, hb, rfl⟩ | ⟨hr, hb, rfl⟩ | ⟨hr, _⟩)
  ·simp only [List.cons.injEq] at hr
   obtain ⟨rfl, rfl⟩ := hr
   refine wpAny_bind ((intKind prog w).pyHash (intKind_is prog w p.1 t) ?_)
   first
    | exact wpAny_pure (.inr (.inl ⟨rfl, by simp [hb], rfl⟩))
    | exact wpAny_bind (wpAny_pure (wpAny_pure (.inr (.inl ⟨rfl, by simp [hb], rfl⟩))))
  ·simp only [List.cons.injEq] at hr
   obtain ⟨rfl, rfl⟩ := hr
   refine wpAny_bind (wpAny_pyHash_tuple (knd := intKind prog w) (ks := p.2) (s := { s with toks := s.toks + 1 }) (by show A.units + 1 < cLine; lia) hi ?_)
   first
    | exact wpAny_pure (.inr (.inr ⟨rfl, by simp [hb], rfl⟩))
    | exact wpAny_bind (wpAny_pure (wpAny_pure (.inr (.inr ⟨rfl, by simp [hb], rfl⟩))))
  ·cases hr
 ·rintro bb s' (⟨hr, _⟩ | ⟨hr, _⟩ | ⟨_, hb, rfl⟩)
  ·cases hr
  ·cases hr
  show wpAny _ _ (retInt (Builtin.Tuple.tupleHashOf bb.toList)) _ _ _
  rw [hb]
  refine wpAny_ret_mkInt ?_
  unfold standHash reduceHash at h
  generalize Builtin.Tuple.tupleHashOf [(intKind prog w).hash p.1, tupleKeyHash (intKind prog w) p.2] = hv at h ⊢
  have e : s.toks + 1 + (p.2.length + 1) + 1 = s.toks + (p.2.length + 3) := by lia
  rw [← e] at h
  show wpAny _ _ (if (decide (-(2 : Int) ^ 63 ≤ hv) && decide (hv < 2 ^ 63)) = true then _ else _) Q E _
  by_cases hr : (decide (-(2 : Int) ^ 63 ≤ hv) && decide (hv < 2 ^ 63)) = true
  ·rw [if_pos hr]
   rw [if_pos hr] at h
   exact wpAny_pure h
  ·rw [if_neg hr]
   rw [if_neg hr] at h
   exact wpAny_bind (wpAny_rule (wpAny_pure h))
theorem stand_eq_tree {x y : Int × List Int} {a b : Addr} {P : Fin → Shared → Prop} (hu : A.units < cLine) (hx : IsStandKey prog w s.heap x a) (hy : IsStandKey prog w s.heap y b) (h : P (.done (.ret (.bool (decide (x = y))))) s) :
 wpAny (model prog w) A (Builtin.«tuple.__eq__» ⟨[.ref a, .ref b], []⟩) P E s := by
 have hTb := hy.typeIs
 obtain ⟨oa, b1, t1, n1, hoa, _, hda, hia⟩ := hx
 obtain ⟨ob, b2, t2, n2, hob, _, hdb, hib⟩ := hy
 show wpAny _ _ (isInstance (.ref b) (.type "tuple") >>= _) _ _ s
 refine wpAny_bind (wpAny_isInstance hTb isSubtype_tuple_tuple ?_)
 walk_at "z4"
 refine wpAny_bind (wpAny_tupleItemsOf hoa hda ?_)
 refine wpAny_bind (wpAny_tupleItemsOf hob hdb ?_)
 refine wpAny_bind ?_
 refine wpAny_forIn_list _
  (fun rest r s' => r.1 = none ∧ s' = s ∧ (rest = [(Value.int x.1 t1, Value.int y.1 t2), (Value.ref b1, Value.ref b2)] ∨ (rest = [(Value.ref b1, Value.ref b2)] ∧ x.1 = y.1) ∨ (rest = [] ∧ x = y)))
  _ ?_ ?_ _ _ ⟨rfl, rfl, .inl rfl⟩
 ·rintro ⟨u, v⟩ rest r s' ⟨hr, rfl, hz | ⟨hz, h1⟩ | ⟨hz, _⟩⟩
  ·simp only [List.cons.injEq, Prod.mk.injEq] at hz
   obtain ⟨⟨rfl, rfl⟩, rfl⟩ := hz
   refine wpAny_bind ((intKind prog w).eqBool (a := x.1) (b := y.1) (intKind_is prog w x.1 t1) (intKind_is prog w y.1 t2) ?_)
   by_cases hk : x.1 = y.1
   ·rw [decide_eq_true hk]
    walk_at "z4"
    exact wpAny_pure ⟨by first | rfl | trivial, by first | rfl | trivial, .inr (.inl ⟨by first | rfl | trivial, hk⟩)⟩
   ·rw [decide_eq_false hk]
    simp only [Bool.not_false, if_true]
    have hf : decide (x = y) = false := decide_eq_false fun e => hk (by rw [e])
    rw [hf] at h
    exact wpAny_bind (wpAny_pure (wpAny_pure (wpAny_pure h)))
  ·simp only [List.cons.injEq, Prod.mk.injEq] at hz
   obtain ⟨⟨rfl, rfl⟩, rfl⟩ := hz
   refine wpAny_bind (wpAny_eqBool_tuple (knd := intKind prog w) (x := x.2) (y := y.2) hu hia hib ?_)
   by_cases hk : x.2 = y.2
   ·rw [decide_eq_true hk]
    walk_at "z4"
    exact wpAny_pure ⟨by first | rfl | trivial, by first | rfl | trivial, .inr (.inr ⟨by first | rfl | trivial, Prod.ext h1 hk⟩)⟩
   ·rw [decide_eq_false hk]
    simp only [Bool.not_false, if_true]
    have hf : decide (x = y) = false := decide_eq_false fun e => hk (by rw [e])
    rw [hf] at h
    exact wpAny_bind (wpAny_pure (wpAny_pure (wpAny_pure h)))
  ·cases hz
 ·rintro ⟨r1, r2⟩ s' ⟨hr, rfl, hz | ⟨hz, _⟩ | ⟨_, hxy⟩⟩
  ·cases hz
  ·cases hz
  simp only at hr
  subst hr
  refine wpAny_pure ?_
  rw [decide_eq_true hxy] at h
  exact h
theorem wpAny_eqBool_stand {x y : Int × List Int} {a b : Addr} {Q : Bool → Shared → Prop} (hu : A.units + 1 < cLine) (hx : IsStandKey prog w s.heap x a) (hy : IsStandKey prog w s.heap y b) (h : Q (decide (x = y)) s) :
 wpAny (model prog w) A (PySem.eqBool (.ref a) (.ref b)) Q E s := by
 unfold PySem.eqBool
 try with_reducible refine wpAny_holding ?_
 show wpAny _ _ (if (Value.ref a == Value.ref b) = true then _ else _) Q E s
 by_cases hab : (Value.ref a == Value.ref b) = true
 ·rw [if_pos hab]
  have e : a = b := by have := eq_of_beq hab; injection this
  subst e
  obtain rfl := hx.inj hy
  exact wpAny_bind (wpAny_rule (wpAny_pure (by simpa using h)))
 ·rw [if_neg hab]
  exact wpAny_bind (wpAny_richCompare_same_room (op := .Eq) hx.typeIs hy.typeIs F.slot_tuple_eq
   (wpAny_call_entry F.slot_tuple_eq hx.typeIs F.entry_tuple_eq (stand_eq_tree (by show A.units + 1 < cLine; lia) hx hy ⟨_, rfl, (fun e => nomatch e), wpAny_truthy_bool h⟩) (F.args_tuple_eq_2 _ _)) (by lia))
theorem wpAny_quiet_tuple {n : Nat} {ks : List Int} {a : Addr} {Q : Bool → Shared → Prop} (hk : IsTupleKey (intKind prog w) s.heap ks a) (h : Q true s) : wpAny (model prog w) A (eqIsQuiet (n + 1) (.ref a)) Q E s := by
 have hT := hk.typeIs
 obtain ⟨o, items, n, ho, _, hd, hi⟩ := hk
 unfold eqIsQuiet
 refine wpAny_bind (wpAny_specialOf hT F.slot_tuple_eq.lookup ?_)
 show wpAny _ _ (isInstance (.ref a) (.type "tuple") >>= _) _ _ s
 refine wpAny_bind (wpAny_isInstance hT isSubtype_tuple_tuple ?_)
 walk_at "z4"
 refine wpAny_bind (wpAny_seqItems ho hd ?_)
 refine wpAny_bind ?_
 show wpAny _ _ (forIn items _ _) _ _ s
 rw [← Array.forIn_toList]
 refine wpAny_forIn_list _ (fun rest r s' => r.1 = none ∧ s' = s ∧ ∀ v ∈ rest, carriedByValue v = true) _ ?_ ?_ _ _ ⟨rfl, rfl, hi.byValue⟩
 ·rintro v rest r s' ⟨hr, rfl, hall⟩
  rw [eqIsQuiet_byValue _ (hall v List.mem_cons_self)]
  refine wpAny_bind (wpAny_pure ?_)
  walk_at "z4"
  exact wpAny_pure ⟨rfl, rfl, fun u hu' => hall u (List.mem_cons_of_mem _ hu')⟩
 ·rintro ⟨r1, r2⟩ s' ⟨hr, rfl, _⟩
  simp only at hr
  subst hr
  exact wpAny_pure h
theorem wpAny_quiet_stand {p : Int × List Int} {a : Addr} {Q : Bool → Shared → Prop} (hk : IsStandKey prog w s.heap p a) (h : Q true s) : wpAny (model prog w) A (eqIsQuiet 8 (.ref a)) Q E s := by
 have hT := hk.typeIs
 obtain ⟨o, b, t, n, ho, _, hd, hi⟩ := hk
 unfold eqIsQuiet
 refine wpAny_bind (wpAny_specialOf hT F.slot_tuple_eq.lookup ?_)
 show wpAny _ _ (isInstance (.ref a) (.type "tuple") >>= _) _ _ s
 refine wpAny_bind (wpAny_isInstance hT isSubtype_tuple_tuple ?_)
 walk_at "z4"
 refine wpAny_bind (wpAny_seqItems ho hd ?_)
 refine wpAny_bind ?_
 show wpAny _ _ (forIn _ _ _) _ _ s
 rw [← Array.forIn_toList]
 refine wpAny_forIn_list _ (fun rest r s' => r.1 = none ∧ s' = s ∧ ∀ v ∈ rest, v = Value.int p.1 t ∨ v = Value.ref b) _ ?_ ?_ _ _ ⟨rfl, rfl, by simp⟩
 ·rintro v rest r s' ⟨hr, rfl, hall⟩
  have hrest : ∀ v ∈ rest, v = Value.int p.1 t ∨ v = Value.ref b := fun u hu => hall u (List.mem_cons_of_mem _ hu)
  rcases hall v List.mem_cons_self with rfl | rfl
  ·rw [eqIsQuiet_byValue _ rfl]
   refine wpAny_bind (wpAny_pure ?_)
   walk_at "z4"
   exact wpAny_pure ⟨rfl, rfl, hrest⟩
  ·refine wpAny_bind (wpAny_quiet_tuple hi ?_)
   walk_at "z4"
   exact wpAny_pure ⟨rfl, rfl, hrest⟩
 ·rintro ⟨r1, r2⟩ s' ⟨hr, rfl, _⟩
  simp only at hr
  subst hr
  exact wpAny_pure h
end
def standKind (prog : Program) (w : World) : HeapKind prog w (Int × List Int) where
 is := IsStandKey prog w
 hash := standHash prog w
 draws := fun p => p.2.length + 3
 room := fun A => A.units + 1 < cLine
 inj := fun hx hy => hx.inj hy
 keeps := fun x ho hd hs => x.keeps ho hd hs
 pyHash := fun hu hk h => wpAny_pyHash_stand hu hk h
 eqBool := fun hu hx hy h => wpAny_eqBool_stand hu hx hy h
 quiet := fun hk h => wpAny_quiet_stand hk h
end HT
namespace L2
open PySem PySem.Spec PyProof.Rows
section
variable {prog : Program} {w : World} {A : Around} {E : Value → Shared → Prop} {s : Shared}
def RunsTo (prog : Program) (w : World) (A : Around) (vs : List Value) (s : Shared) (R : List Value → Prop) : Prop :=
 ∀ {E : Value → Shared → Prop} {P : SortSt → Shared → Prop}, (∀ (st : SortSt) (out : List Value), failedOf st = none → (arrOf st).map (·.2) = out.toArray → out.length = vs.length → R out → P st s) →
  wpAny (model prog w) A (do let kind ← keyKind' vs.toArray; let ((), st) ← (sortRuns').run (SortSt.mk' kind (vs.toArray.zip vs.toArray) #[] 7 none); pure st) P E s
theorem list_sort_raw {a : Addr} {vs : List Value} {n : Nat} {P : Fin → Shared → Prop} {R : List Value → Prop} (ho : s.heap.get? a = some (seqObj "list" vs.toArray n)) (h2 : 2 ≤ vs.length) (hz : vs.length ≤ sizeLine)
 (hr : ∀ h' : Heap, (∀ b o, b ≠ a → s.heap.get? b = some o → h'.get? b = some o) → RunsTo prog w A vs { s with heap := h' } R)
 (h : ∀ out : List Value, out.length = vs.length → R out → P (.done (.ret .none)) { s with heap := sortedHeap s.heap a vs out.toArray }) :
 wpAny (model prog w) A (Builtin.«list.sort» ⟨[.ref a], []⟩) P E s := by
 rw [list_sort_plain]
 have ha : a < s.heap.objs.size := Heap.lt_size ho
 refine wpAny_bind (listItems_at ho rfl ?_)
 refine wpAny_bind (listUpdate_at ho rfl ?_ (by rw [List.size_toArray]; exact hz) (Nat.zero_le _))
 obtain ⟨e1, ho1⟩ : ∃ e1, (s.heap.update a (Obj.mapSeq fun _ => #[])).get? a = some (seqObj "list" #[] e1) := ⟨_, get?_update_seq ho (fun _ => #[])⟩
 refine wpAny_bind (seqEpoch_at ho1 rfl ?_)
 refine wpAny_bind (wpAny_newTuple ?_ (by show vs.length ≤ _; exact hz))
 refine wpAny_bind (wpAny_newList ?_ (Nat.zero_le _))
 refine wpAny_holding ?_
 have ho6 : (((s.heap.update a (Obj.mapSeq fun _ => #[])).push (seqObj "tuple" vs.toArray 0)).push (seqObj "list" #[] 0)).get? a = some (seqObj "list" #[] e1) := by
  rw [Heap.get?_push_ne _ _ _ (by rw [size_push', Heap.size_update]; exact Nat.ne_of_lt (Nat.lt_succ_of_lt ha)), Heap.get?_push_ne _ _ _ (by rw [Heap.size_update]; exact Nat.ne_of_lt ha)]
  exact ho1
 have keep : ∀ b o, b ≠ a → s.heap.get? b = some o → (((s.heap.update a (Obj.mapSeq fun _ => #[])).push (seqObj "tuple" vs.toArray 0)).push (seqObj "list" #[] 0)).get? b = some o := fun b o hb q => by
  have hlt := Heap.lt_size q
  rw [Heap.get?_push_ne _ _ _ (by rw [size_push', Heap.size_update]; exact Nat.ne_of_lt (Nat.lt_succ_of_lt hlt)), Heap.get?_push_ne _ _ _ (by rw [Heap.size_update]; exact Nat.ne_of_lt hlt), Heap.get?_update_ne _ _ _ _ hb]
  exact q
 show wpAny (model prog w) A _ P E { s with heap := ((s.heap.update a (Obj.mapSeq fun _ => #[])).push (seqObj "tuple" vs.toArray 0)).push (seqObj "list" #[] 0) }
 dsimp only
 have hn2 : ¬ vs.toArray.size < 2 := by rw [List.size_toArray]; lia
 rw [if_neg hn2, if_neg hn2]
 have run := hr _ keep (E := E) (P := fun st s' => wpAny (model prog w) A (do
  let sorted := (arrOf st).map (·.2)
  let touched := (← seqEpoch a) != e1
  Builtin.List.listUpdate (.ref a) fun _ => sorted
  if let some e := failedOf st then rule "list.sort.comparison-raised"; throw e
  if touched then rule "list.sort.modified"; raiseError "ValueError" "list modified during sort"
  ret .none) P E s') (fun st out hf har hl hR => ?_)
 ·have := wpAny_bind run
  simp only [bind_assoc, pure_bind] at this
  exact this
 ·rw [har]
  refine wpAny_bind (seqEpoch_at ho6 rfl ?_)
  refine wpAny_bind (listUpdate_at ho6 rfl ?_ (Nat.zero_le _) (by show out.toArray.size ≤ _; rw [List.size_toArray]; lia))
  rw [hf]
  simp only [bne_self_eq_false, Bool.false_eq_true, if_false]
  exact wpAny_pure (h out hl hR)
theorem sorted_raw {l : Addr} {vs : List Value} {Q : Value → Shared → Prop} {R : List Value → Prop} (hl : s.heap.IsList l vs.toArray) (h2 : 2 ≤ vs.length) (hz : vs.length ≤ sizeLine)
 (hr : ∀ h' : Heap, (∀ b o, s.heap.get? b = some o → h'.get? b = some o) → RunsTo prog w A.in1.in1 vs { s with heap := h' } R)
 (h : ∀ out : List Value, out.length = vs.length → R out → Q (.ref (s.heap.objs.size + 1)) { s with heap := sortedAll s.heap vs out.toArray }) :
 wpAny (model prog w) A (call (.builtin "sorted") [.ref l]) Q E s := by
 refine Calls.call_function_entry kind_sorted plain_sorted entry_sorted (args_sorted1 _) ?_
 unfold Builtin.«sorted»
 refine wpAny_bind (m := checkCount "sorted" 1 1 _) (wpAny_pure ?_)
 refine wpAny_bind (collect_list hl ?_ hz)
 refine wpAny_bind (wpAny_newList ?_ hz)
 have hsz : ((s.heap.push (seqObj "list" #[] 0)).update s.heap.objs.size (Obj.mapSeq (· ++ vs.toArray))).objs.size = s.heap.objs.size + 1 := by
  rw [Heap.size_update, size_push']
 have hoL : (((s.heap.push (seqObj "list" #[] 0)).update s.heap.objs.size (Obj.mapSeq (· ++ vs.toArray))).push (seqObj "list" vs.toArray 0)).get? (s.heap.objs.size + 1) = some (seqObj "list" vs.toArray 0) := by
  rw [← hsz]; exact Heap.get?_push_size _ rfl
 have keep : ∀ b o, s.heap.get? b = some o → (((s.heap.push (seqObj "list" #[] 0)).update s.heap.objs.size (Obj.mapSeq (· ++ vs.toArray))).push (seqObj "list" vs.toArray 0)).get? b = some o := fun b o q => by
  have hlt : b < s.heap.objs.size := Heap.lt_size q
  rw [Heap.get?_push_ne _ _ _ (by rw [hsz]; exact Nat.ne_of_lt (Nat.lt_succ_of_lt hlt)), Heap.get?_update_ne _ _ _ _ (Nat.ne_of_lt hlt), Heap.get?_push_ne _ _ _ (Nat.ne_of_lt hlt)]
  exact q
 show wpAny _ _ _ _ _ { s with heap := ((s.heap.push (seqObj "list" #[] 0)).update s.heap.objs.size (Obj.mapSeq (· ++ vs.toArray))).push (seqObj "list" vs.toArray 0) }
 rw [hsz]
 refine wpAny_bind (wpAny_holding (wpAny_call_entry slot_list_sort ⟨_, hoL, rfl⟩ entry_list_sort (list_sort_raw (R := R) hoL h2 hz (fun h' k => ?_) fun out a1 a2 => ⟨_, rfl, ?_⟩) (args_list_sort _)))
 ·exact hr h' fun b o q => k b o (Nat.ne_of_lt (Nat.lt_succ_of_lt (Heap.lt_size q))) (keep b o q)
 ·exact wpAny_pure ⟨_, rfl, h out a1 a2⟩
end
section
variable {X : Cx}
end
end L2
namespace L2
open PySem PySem.Spec PyProof.Rows
def gallop' : Bool → Keyed → Array Keyed → Nat → Nat → Nat → StateT SortSt Sem (Option Nat) := sortPriv% PySem.Builtin.gallop
local macro_rules | `(tactic| walk_at "gallop") => do
 let n := Lean.mkIdent ((Lean.Name.num `_private.PySem.Builtin.List.W1All 0) ++ `PySem.Builtin.gallop)
 `(tactic| (delta gallop'; delta $n:ident; dsimp only))
def R (ρ : Keyed → Int) (xs : Array Keyed) (i : Nat) : Int := (xs[i]?).elim 0 ρ
def SortedIn (ρ : Keyed → Int) (xs : Array Keyed) (lo hi : Nat) : Prop := ∀ i j, lo ≤ i → i ≤ j → j < hi → R ρ xs i ≤ R ρ xs j
section
variable {prog : Program} {w : World} {A : Around} {E : Value → Shared → Prop} {s : Shared} {a₀ : Array Keyed} {ρ : Keyed → Int} {k0 : SortKind}
def LtBy (prog : Program) (w : World) (A : Around) (s : Shared) (k0 : SortKind) (ρ : Keyed → Int) (a₀ : Array Keyed) : Prop :=
 ∀ {E : Value → Shared → Prop} {st : SortSt} {x y : Keyed} {Q : Option Bool → SortSt → Prop}, kindOf st = k0 → x ∈ a₀.toList → y ∈ a₀.toList → Q (some (decide (ρ x < ρ y))) st → wpS (model prog w) A E s (lt' x y) Q st
theorem wpS_elem {xs : Array Keyed} {i : Nat} {x : Keyed} {st : SortSt} {Q : Keyed → SortSt → Prop} (hx : xs[i]? = some x) (h : Q x st) : wpS (model prog w) A E s (elem' xs i) Q st := by
 rw [elem'_eq, hx]; exact wpS_pure h
def bey (ρ : Keyed → Int) (left : Bool) (key : Keyed) (v : Int) : Bool := if left then decide (v < ρ key) else !decide (ρ key < v)
theorem wpS_bey (hL : LtBy prog w A s k0 ρ a₀) {st : SortSt} (hk : kindOf st = k0) {left : Bool} {key x : Keyed} {arr : Array Keyed} {i : Nat} {Q : Option Bool → SortSt → Prop} (hkey : key ∈ a₀.toList) (hx : arr[i]? = some x) (hm : x ∈ a₀.toList) (h : Q (some (bey ρ left key (R ρ arr i))) st) :
 wpS (model prog w) A E s (elem' arr i >>= fun x => if left = true then lt' x key else lt' key x >>= fun r => pure (Option.map (fun x => !x) r)) Q st := by
 refine wpS_bind (wpS_elem hx ?_)
 have e : R ρ arr i = ρ x := by unfold R; rw [hx]; rfl
 rw [e] at h
 cases left with
 | true =>
   rw [if_pos rfl]
   exact hL hk hm hkey h
 | false =>
   rw [if_neg (by decide)]
   exact wpS_bind (hL hk hkey hm (wpS_pure h))
theorem wpS_gallop (hL : LtBy prog w A s k0 ρ a₀) {st : SortSt} (hk : kindOf st = k0) {left : Bool} {key : Keyed} {arr : Array Keyed} {base n hint : Nat} {Q : Option Nat → SortSt → Prop} (hkey : key ∈ a₀.toList) (harr : ∀ i, i < n → ∃ x, arr[base + i]? = some x ∧ x ∈ a₀.toList)
 (hs : SortedIn ρ arr base (base + n)) (hh : hint < n) (h : ∀ k, k ≤ n → (∀ i, i < k → bey ρ left key (R ρ arr (base + i)) = true) → (∀ i, k ≤ i → i < n → bey ρ left key (R ρ arr (base + i)) = false) → Q (some k) st) :
 wpS (model prog w) A E s (gallop' left key arr base n hint) Q st := by
 have hb : ∀ {i : Nat} {Q' : Option Bool → SortSt → Prop}, i < n → Q' (some (bey ρ left key (R ρ arr (base + i)))) st → wpS (model prog w) A E s (elem' arr (base + i) >>= fun x => if left = true then lt' x key else lt' key x >>= fun r => pure (Option.map (fun x => !x) r)) Q' st := fun hi q => by
  obtain ⟨x, hx, hm⟩ := harr _ hi
  exact wpS_bey hL hk hkey hx hm q
 have anti : ∀ i j, i ≤ j → j < n → bey ρ left key (R ρ arr (base + j)) = true → bey ρ left key (R ρ arr (base + i)) = true := fun i j hij hj e => by
  have := hs (base + i) (base + j) (by lia) (by lia) (by lia)
  unfold bey at e ⊢
  cases left with
  | true => simp only [if_true, decide_eq_true_eq] at e ⊢; lia
  | false => simp only [Bool.false_eq_true, if_false, Bool.not_eq_true', decide_eq_false_iff_not] at e ⊢; lia
 have antiF : ∀ i j, i ≤ j → j < n → bey ρ left key (R ρ arr (base + i)) = false → bey ρ left key (R ρ arr (base + j)) = false := fun i j hij hj e => by
  cases q : bey ρ left key (R ρ arr (base + j)) with
  | false => rfl
  | true => rw [anti i j hij hj q] at e; cases e
 generalize hP : (fun i => bey ρ left key (R ρ arr (base + i))) = P at *
 have hPi : ∀ i, bey ρ left key (R ρ arr (base + i)) = P i := fun i => by rw [← hP]
 simp only [hPi] at hb anti antiF h
 clear hP hPi
 walk_at "gallop"
 refine wpS_bind (hb hh ?_)
 cases hr : P hint with
 | true =>
   simp only [if_true]
   refine wpS_bind (wpS_mono (wpS_forRange (I := fun x c st' => st' = st ∧ ∃ l o, c = (none, l, o) ∧ l < o ∧ x + 1 ≤ o ∧ hint + l < n ∧ P (hint + l) = true)
    (Q := fun c st' => st' = st ∧ ∃ l o, c = (none, l, o) ∧ l < o ∧ hint + l < n ∧ P (hint + l) = true ∧ (n - hint ≤ o ∨ (hint + o < n ∧ P (hint + o) = false))) ?_ ?_ ⟨rfl, 0, 1, rfl, by lia, by lia, by lia, hr⟩) ?_)
   ·rintro x c st' _ hx ⟨rfl, l, o, rfl, h1, h2, h3, h4⟩
    dsimp only
    split
    ·rename_i g
     exact wpS_pure ⟨rfl, l, o, rfl, h1, h3, h4, .inl g⟩
    ·rename_i g
     refine wpS_bind (hb (i := hint + o) (by lia) ?_)
     cases q : P (hint + o) with
     | true =>
       walk_at "z4"
       exact wpS_pure ⟨rfl, o, 2 * o + 1, rfl, by lia, by lia, by lia, q⟩
     | false =>
       simp only [Bool.not_false, if_true]
       exact wpS_pure ⟨rfl, l, o, rfl, h1, h3, h4, .inr ⟨by lia, q⟩⟩
   ·rintro c st' ⟨rfl, l, o, rfl, h1, h2, h3, h4⟩
    exact ⟨rfl, l, o, rfl, h1, h3, h4, .inl (by lia)⟩
   ·rintro c st' ⟨rfl, l, o, rfl, h1, h3, h4, h5⟩
    dsimp only
    refine wpS_bind (wpS_mono (wpS_forRange (I := fun x c st'' => st'' = st' ∧ ∃ lo hi, c = (none, lo, hi) ∧ lo ≤ hi ∧ hi ≤ n ∧ hi - lo ≤ n - x ∧ (∀ i, i < lo → P i = true) ∧ (∀ i, hi ≤ i → i < n → P i = false))
     (Q := fun c st'' => st'' = st' ∧ ∃ lo hi, c = (none, lo, hi) ∧ lo ≤ hi ∧ hi ≤ lo ∧ hi ≤ n ∧ (∀ i, i < lo → P i = true) ∧ (∀ i, hi ≤ i → i < n → P i = false)) ?_ ?_ ⟨rfl, _, _, rfl, by lia, by lia, by lia, fun i hi => anti i _ (by lia) h3 h4, fun i hi hn => ?_⟩) ?_)
    ·rintro x c st'' _ hx ⟨rfl, lo, hi, rfl, q1, q2, q3, q4, q5⟩
     dsimp only
     split
     ·exact wpS_pure ⟨rfl, lo, hi, rfl, q1, by lia, q2, q4, q5⟩
     ·refine wpS_bind (hb (i := lo + (hi - lo) / 2) (by lia) ?_)
      cases q : P (lo + (hi - lo) / 2) with
      | true =>
        simp only [if_true]
        exact wpS_pure ⟨rfl, _, hi, rfl, by lia, q2, by lia, fun i hi' => anti i _ (by lia) (by lia) q, q5⟩
      | false =>
        simp only [Bool.false_eq_true, if_false]
        exact wpS_pure ⟨rfl, lo, _, rfl, by lia, by lia, by lia, q4, fun i h1 h2 => antiF _ i h1 h2 q⟩
    ·rintro c st'' ⟨rfl, lo, hi, rfl, q1, q2, q3, q4, q5⟩
     exact ⟨rfl, lo, hi, rfl, q1, by lia, q2, q4, q5⟩
    ·rcases h5 with g | ⟨g1, g2⟩
     ·lia
     ·exact antiF _ i (by lia) hn g2
    ·rintro c st'' ⟨rfl, lo, hi, rfl, q1, q2, q3, q4, q5⟩
     exact wpS_pure (h hi q3 (fun i hi' => q4 i (by lia)) q5)
 | false =>
   simp only [Bool.false_eq_true, if_false]
   refine wpS_bind (wpS_mono (wpS_forRange (I := fun x c st' => st' = st ∧ ∃ l o, c = (none, l, o) ∧ l < o ∧ x + 1 ≤ o ∧ l ≤ hint ∧ P (hint - l) = false)
    (Q := fun c st' => st' = st ∧ ∃ l o, c = (none, l, o) ∧ l < o ∧ l ≤ hint ∧ P (hint - l) = false ∧ (hint + 1 ≤ o ∨ (o ≤ hint ∧ P (hint - o) = true))) ?_ ?_ ⟨rfl, 0, 1, rfl, by lia, by lia, by lia, hr⟩) ?_)
   ·rintro x c st' _ hx ⟨rfl, l, o, rfl, h1, h2, h3, h4⟩
    dsimp only
    split
    ·rename_i g
     exact wpS_pure ⟨rfl, l, o, rfl, h1, h3, h4, .inl g⟩
    ·rename_i g
     refine wpS_bind (hb (i := hint - o) (by lia) ?_)
     cases q : P (hint - o) with
     | true =>
       simp only [if_true]
       exact wpS_pure ⟨rfl, l, o, rfl, h1, h3, h4, .inr ⟨by lia, q⟩⟩
     | false =>
       simp only [Bool.false_eq_true, if_false]
       exact wpS_pure ⟨rfl, o, 2 * o + 1, rfl, by lia, by lia, by lia, q⟩
   ·rintro c st' ⟨rfl, l, o, rfl, h1, h2, h3, h4⟩
    exact ⟨rfl, l, o, rfl, h1, h3, h4, .inl (by lia)⟩
   ·rintro c st' ⟨rfl, l, o, rfl, h1, h3, h4, h5⟩
    dsimp only
    refine wpS_bind (wpS_mono (wpS_forRange (I := fun x c st'' => st'' = st' ∧ ∃ lo hi, c = (none, lo, hi) ∧ lo ≤ hi ∧ hi ≤ n ∧ hi - lo ≤ n - x ∧ (∀ i, i < lo → P i = true) ∧ (∀ i, hi ≤ i → i < n → P i = false))
     (Q := fun c st'' => st'' = st' ∧ ∃ lo hi, c = (none, lo, hi) ∧ lo ≤ hi ∧ hi ≤ lo ∧ hi ≤ n ∧ (∀ i, i < lo → P i = true) ∧ (∀ i, hi ≤ i → i < n → P i = false)) ?_ ?_ ⟨rfl, _, _, rfl, by lia, by lia, by lia, fun i hi => ?_, fun i hi hn => antiF _ i hi hn h4⟩) ?_)
    ·rintro x c st'' _ hx ⟨rfl, lo, hi, rfl, q1, q2, q3, q4, q5⟩
     dsimp only
     split
     ·exact wpS_pure ⟨rfl, lo, hi, rfl, q1, by lia, q2, q4, q5⟩
     ·refine wpS_bind (hb (i := lo + (hi - lo) / 2) (by lia) ?_)
      cases q : P (lo + (hi - lo) / 2) with
      | true =>
        simp only [if_true]
        exact wpS_pure ⟨rfl, _, hi, rfl, by lia, q2, by lia, fun i hi' => anti i _ (by lia) (by lia) q, q5⟩
      | false =>
        simp only [Bool.false_eq_true, if_false]
        exact wpS_pure ⟨rfl, lo, _, rfl, by lia, by lia, by lia, q4, fun i h1 h2 => antiF _ i h1 h2 q⟩
    ·rintro c st'' ⟨rfl, lo, hi, rfl, q1, q2, q3, q4, q5⟩
     exact ⟨rfl, lo, hi, rfl, q1, by lia, q2, q4, q5⟩
    ·rcases h5 with g | ⟨g1, g2⟩
     ·lia
     ·exact anti i _ (by lia) (by lia) g2
    ·rintro c st'' ⟨rfl, lo, hi, rfl, q1, q2, q3, q4, q5⟩
     exact wpS_pure (h hi q3 (fun i hi' => q4 i (by lia)) q5)
end
end L2
namespace L2
open PySem PySem.Spec PyProof.Rows
section
variable {ρ : Keyed → Int} {a b out : Array Keyed} {ia ib k : Nat}
def Ls (ρ : Keyed → Int) (l : List Keyed) : Prop := l.Pairwise fun x y => ρ x ≤ ρ y
structure MI (ρ : Keyed → Int) (a b out : Array Keyed) (ia ib : Nat) : Prop where
 la : ia ≤ a.size
 lb : ib ≤ b.size
 pm : out.toList.Perm (a.toList.take ia ++ b.toList.take ib)
 so : Ls ρ out.toList
 le : ∀ x ∈ out.toList, ∀ y ∈ a.toList.drop ia ++ b.toList.drop ib, ρ x ≤ ρ y
def RS (ρ : Keyed → Int) (a b r : Array Keyed) : Prop := r.toList.Perm (a.toList ++ b.toList) ∧ Ls ρ r.toList
theorem ext_l (xs : Array Keyed) (i j : Nat) : (xs.extract i j).toList = (xs.toList.drop i).take (j - i) := by
 simp [List.extract_eq_take_drop]
theorem Ls.app {l m : List Keyed} (hl : Ls ρ l) (hm : Ls ρ m) (h : ∀ x ∈ l, ∀ y ∈ m, ρ x ≤ ρ y) : Ls ρ (l ++ m) := List.pairwise_append.mpr ⟨hl, hm, h⟩
theorem Ls.sub {l m : List Keyed} (hl : Ls ρ l) (h : m.Sublist l) : Ls ρ m := List.Pairwise.sublist h hl
theorem Ls.split {l : List Keyed} (hl : Ls ρ l) (i : Nat) : ∀ x ∈ l.take i, ∀ y ∈ l.drop i, ρ x ≤ ρ y := by
 have := hl
 rw [← List.take_append_drop i l] at this
 exact (List.pairwise_append.mp this).2.2
theorem perm_mid {α : Type} (A B X : List α) : (A ++ B ++ X).Perm (A ++ X ++ B) := by
 rw [List.append_assoc, List.append_assoc]
 exact List.Perm.append_left A List.perm_append_comm
theorem MI.tA (h : MI ρ a b out ia ib) (hk : ia + k ≤ a.size) (sa : Ls ρ a.toList) (hc : ∀ x ∈ (a.toList.drop ia).take k, ∀ y ∈ b.toList.drop ib, ρ x ≤ ρ y) : MI ρ a b (out ++ a.extract ia (ia + k)) (ia + k) ib := by
 have e : (out ++ a.extract ia (ia + k)).toList = out.toList ++ (a.toList.drop ia).take k := by rw [Array.toList_append, ext_l, Nat.add_sub_cancel_left]
 have e1 : a.toList.take (ia + k) = a.toList.take ia ++ (a.toList.drop ia).take k := List.take_add
 have e2 : a.toList.drop ia = (a.toList.drop ia).take k ++ a.toList.drop (ia + k) := by rw [← List.drop_drop]; exact (List.take_append_drop _ _).symm
 refine ⟨hk, h.lb, ?_, ?_, ?_⟩
 ·rw [e, e1]
  exact (h.pm.append_right _).trans (perm_mid _ _ _)
 ·rw [e]
  exact h.so.app (sa.sub ((List.take_sublist _ _).trans (List.drop_sublist _ _))) fun x hx y hy => h.le x hx y (List.mem_append_left _ (List.mem_of_mem_take hy))
 ·rw [e]
  intro x hx y hy
  rcases List.mem_append.mp hx with q | q
  ·refine h.le x q y ?_
   rw [e2]
   rcases List.mem_append.mp hy with z | z
   ·exact List.mem_append_left _ (List.mem_append_right _ z)
   ·exact List.mem_append_right _ z
  ·rcases List.mem_append.mp hy with z | z
   ·have := (sa.sub (List.drop_sublist ia _)).split k x q y
    rw [List.drop_drop] at this
    exact this z
   ·exact hc x q y z
theorem MI.tB (h : MI ρ a b out ia ib) (hk : ib + k ≤ b.size) (sb : Ls ρ b.toList) (hc : ∀ x ∈ (b.toList.drop ib).take k, ∀ y ∈ a.toList.drop ia, ρ x ≤ ρ y) : MI ρ a b (out ++ b.extract ib (ib + k)) ia (ib + k) := by
 have e : (out ++ b.extract ib (ib + k)).toList = out.toList ++ (b.toList.drop ib).take k := by rw [Array.toList_append, ext_l, Nat.add_sub_cancel_left]
 have e1 : b.toList.take (ib + k) = b.toList.take ib ++ (b.toList.drop ib).take k := List.take_add
 have e2 : b.toList.drop ib = (b.toList.drop ib).take k ++ b.toList.drop (ib + k) := by rw [← List.drop_drop]; exact (List.take_append_drop _ _).symm
 refine ⟨h.la, hk, ?_, ?_, ?_⟩
 ·rw [e, e1, ← List.append_assoc]
  exact h.pm.append_right _
 ·rw [e]
  exact h.so.app (sb.sub ((List.take_sublist _ _).trans (List.drop_sublist _ _))) fun x hx y hy => h.le x hx y (List.mem_append_right _ (List.mem_of_mem_take hy))
 ·rw [e]
  intro x hx y hy
  rcases List.mem_append.mp hx with q | q
  ·refine h.le x q y ?_
   rw [e2]
   rcases List.mem_append.mp hy with z | z
   ·exact List.mem_append_left _ z
   ·exact List.mem_append_right _ (List.mem_append_right _ z)
  ·rcases List.mem_append.mp hy with z | z
   ·exact hc x q y z
   ·have := (sb.sub (List.drop_sublist ib _)).split k x q y
    rw [List.drop_drop] at this
    exact this z
theorem push_ext {xs : Array Keyed} {i : Nat} {x : Keyed} (hx : xs[i]? = some x) : out.push x = out ++ xs.extract i (i + 1) := by
 apply Array.ext'
 obtain ⟨hi, e⟩ := Array.getElem?_eq_some_iff.mp hx
 rw [Array.toList_push, Array.toList_append, ext_l, Nat.add_sub_cancel_left, List.drop_eq_getElem_cons (by simpa using hi), List.take_succ_cons, List.take_zero]
 simp [e]
theorem one_take {xs : Array Keyed} {i : Nat} {x z : Keyed} (hx : xs[i]? = some x) (hz : z ∈ (xs.toList.drop i).take 1) : z = x := by
 obtain ⟨hi, e⟩ := Array.getElem?_eq_some_iff.mp hx
 rw [List.drop_eq_getElem_cons (by simpa using hi), List.take_succ_cons, List.take_zero] at hz
 simpa [e] using hz
theorem R_at {xs : Array Keyed} {i : Nat} {x : Keyed} (hx : xs[i]? = some x) : R ρ xs i = ρ x := by unfold R; rw [hx]; rfl
theorem Ls.rest {xs : Array Keyed} (h : Ls ρ xs.toList) {i : Nat} {x : Keyed} (hx : xs[i]? = some x) {y : Keyed} (hy : y ∈ xs.toList.drop i) : ρ x ≤ ρ y := by
 obtain ⟨hi, e⟩ := Array.getElem?_eq_some_iff.mp hx
 have hd := h.sub (List.drop_sublist i _)
 rw [List.drop_eq_getElem_cons (by simpa using hi)] at hd hy
 rcases List.mem_cons.mp hy with q | q
 ·rw [q]; simp [e]
 ·have := (List.pairwise_cons.mp hd).1 y q
  simpa [e] using this
theorem MI.pA (h : MI ρ a b out ia ib) (sa : Ls ρ a.toList) (sb : Ls ρ b.toList) {x : Keyed} (hx : a[ia]? = some x) (hc : ∀ y, b[ib]? = some y → ρ x ≤ ρ y) : MI ρ a b (out.push x) (ia + 1) ib := by
 rw [push_ext hx]
 refine h.tA (Array.getElem?_eq_some_iff.mp hx).1 sa fun z hz y hy => ?_
 rw [one_take hx hz]
 cases hb : b[ib]? with
 | none =>
   have : b.size ≤ ib := by simpa using hb
   rw [List.drop_eq_nil_of_le (by simpa using this)] at hy
   simp at hy
 | some v => exact Int.le_trans (hc v hb) (sb.rest hb hy)
theorem MI.pB (h : MI ρ a b out ia ib) (sa : Ls ρ a.toList) (sb : Ls ρ b.toList) {x : Keyed} (hx : b[ib]? = some x) (hc : ∀ y, a[ia]? = some y → ρ x ≤ ρ y) : MI ρ a b (out.push x) ia (ib + 1) := by
 rw [push_ext hx]
 refine h.tB (Array.getElem?_eq_some_iff.mp hx).1 sb fun z hz y hy => ?_
 rw [one_take hx hz]
 cases hb : a[ia]? with
 | none =>
   have : a.size ≤ ia := by simpa using hb
   rw [List.drop_eq_nil_of_le (by simpa using this)] at hy
   simp at hy
 | some v => exact Int.le_trans (hc v hb) (sa.rest hb hy)
theorem perm_four {α : Type} (A A' B B' : List α) : ((A ++ B) ++ A' ++ B').Perm ((A ++ A') ++ (B ++ B')) := by
 refine ((perm_mid A B A').append_right B').trans ?_
 rw [List.append_assoc]
theorem MI.done (h : MI ρ a b out ia ib) (sa : Ls ρ a.toList) (sb : Ls ρ b.toList) (hd : ia = a.size ∨ ib = b.size) : RS ρ a b (out ++ a.extract ia a.size ++ b.extract ib b.size) := by
 have e : (out ++ a.extract ia a.size ++ b.extract ib b.size).toList = out.toList ++ a.toList.drop ia ++ b.toList.drop ib := by
  rw [Array.toList_append, Array.toList_append, ext_l, ext_l, List.take_of_length_le (by simp), List.take_of_length_le (by simp)]
 refine ⟨?_, ?_⟩
 ·rw [e]
  refine ((h.pm.append_right _).append_right _).trans ((perm_four _ _ _ _).trans ?_)
  rw [List.take_append_drop, List.take_append_drop]
 ·rw [e, List.append_assoc]
  refine h.so.app ?_ h.le
  refine (sa.sub (List.drop_sublist _ _)).app (sb.sub (List.drop_sublist _ _)) fun x hx y hy => ?_
  rcases hd with q | q
  ·rw [q, List.drop_eq_nil_of_le (by simp)] at hx; simp at hx
  ·rw [q, List.drop_eq_nil_of_le (by simp)] at hy; simp at hy
theorem MI.lastA (h : MI ρ a b out ia ib) (sa : Ls ρ a.toList) (sb : Ls ρ b.toList) (hg : ∀ x ∈ a.toList.drop ia, ∀ y ∈ b.toList, ρ y ≤ ρ x) : RS ρ a b (out ++ b.extract ib b.size ++ a.extract ia a.size) := by
 have e : (out ++ b.extract ib b.size ++ a.extract ia a.size).toList = out.toList ++ b.toList.drop ib ++ a.toList.drop ia := by
  rw [Array.toList_append, Array.toList_append, ext_l, ext_l, List.take_of_length_le (by simp), List.take_of_length_le (by simp)]
 refine ⟨?_, ?_⟩
 ·rw [e]
  refine (perm_mid _ _ _).trans (((h.pm.append_right _).append_right _).trans ((perm_four _ _ _ _).trans ?_))
  rw [List.take_append_drop, List.take_append_drop]
 ·rw [e, List.append_assoc]
  refine h.so.app ?_ fun x hx y hy => h.le x hx y ?_
  ·exact (sb.sub (List.drop_sublist _ _)).app (sa.sub (List.drop_sublist _ _)) fun x hx y hy => hg y hy x (List.mem_of_mem_drop hx)
  ·rcases List.mem_append.mp hy with z | z
   ·exact List.mem_append_right _ z
   ·exact List.mem_append_left _ z
end
end L2
namespace L2
open PySem PySem.Spec PyProof.Rows
def mergeLo' : Array Keyed → Array Keyed → StateT SortSt Sem (Array Keyed) := sortPriv% PySem.Builtin.mergeLo
def setMinGallop' : Nat → StateT SortSt Sem Unit := sortPriv% PySem.Builtin.setMinGallop
local macro_rules | `(tactic| walk_at "mergeLo") => do
 let n := Lean.mkIdent ((Lean.Name.num `_private.PySem.Builtin.List.W1All 0) ++ `PySem.Builtin.mergeLo)
 `(tactic| (delta mergeLo'; delta $n:ident; dsimp only))
local macro_rules | `(tactic| walk_at "setMin") => do
 let n := Lean.mkIdent ((Lean.Name.num `_private.PySem.Builtin.List.W1All 0) ++ `PySem.Builtin.setMinGallop)
 `(tactic| (delta setMinGallop'; delta $n:ident))
structure GS (st st' : SortSt) : Prop where
 kd : kindOf st' = kindOf st
 ar : arrOf st' = arrOf st
 pe : pendingOf st' = pendingOf st
 fl : failedOf st' = failedOf st
theorem GS.refl (st : SortSt) : GS st st := ⟨rfl, rfl, rfl, rfl⟩
theorem GS.trans {a b c : SortSt} (h : GS a b) (h' : GS b c) : GS a c := ⟨h'.kd.trans h.kd, h'.ar.trans h.ar, h'.pe.trans h.pe, h'.fl.trans h.fl⟩
section
variable {prog : Program} {w : World} {A : Around} {E : Value → Shared → Prop} {s : Shared} {a₀ : Array Keyed} {ρ : Keyed → Int} {k0 : SortKind} {a b : Array Keyed}
theorem wpS_setMin {st : SortSt} {g : Nat} {Q : Unit → SortSt → Prop} (h : ∀ st', GS st st' → Q () st') : wpS (model prog w) A E s (setMinGallop' g) Q st := by
 walk_at "setMin"
 exact wpS_modify (h _ ⟨rfl, rfl, rfl, rfl⟩)
theorem wpS_ite {α : Type} {c : Prop} [Decidable c] {m1 m2 : StateT SortSt Sem α} {Q : α → SortSt → Prop} {st : SortSt} {M : Model} (h1 : c → wpS M A E s m1 Q st) (h2 : ¬ c → wpS M A E s m2 Q st) : wpS M A E s (if c then m1 else m2) Q st := by
 by_cases g : c
 ·rw [if_pos g]; exact h1 g
 ·rw [if_neg g]; exact h2 g
theorem mem_at {xs : Array Keyed} (h : ∀ x ∈ xs.toList, x ∈ a₀.toList) {i : Nat} (hi : i < xs.size) : ∃ x, xs[i]? = some x ∧ x ∈ a₀.toList := ⟨xs[i], Array.getElem?_eq_getElem hi, h _ (by simp)⟩
theorem at_mem {xs : Array Keyed} {i : Nat} {x : Keyed} (h : xs[i]? = some x) : x ∈ xs.toList := by
 obtain ⟨hi, rfl⟩ := Array.getElem?_eq_some_iff.mp h
 simp
theorem mem_win {xs : Array Keyed} {i k : Nat} {x : Keyed} (h : x ∈ (xs.toList.drop i).take k) : ∃ j, j < k ∧ xs[i + j]? = some x := by
 obtain ⟨j, hj, e⟩ := List.mem_iff_getElem.mp h
 rw [List.length_take, List.length_drop] at hj
 refine ⟨j, by lia, ?_⟩
 rw [List.getElem_take, List.getElem_drop] at e
 rw [Array.getElem?_eq_getElem (by simp at hj; lia)]
 simpa using e
theorem Ls.inn {xs : Array Keyed} (h : Ls ρ xs.toList) {lo hi : Nat} (hh : hi ≤ xs.size) : SortedIn ρ xs lo hi := fun i j _ hij hj => by
 have hi' : i < xs.size := by lia
 have hj' : j < xs.size := by lia
 rw [R_at (Array.getElem?_eq_getElem hi')]
 rw [R_at (Array.getElem?_eq_getElem hj')]
 refine h.rest (i := i) (Array.getElem?_eq_getElem hi') ?_
 rw [List.mem_iff_getElem]
 exact ⟨j - i, by simp; lia, by rw [List.getElem_drop]; simp; congr 1; lia⟩
theorem bey_f {key : Keyed} {v : Int} : bey ρ false key v = true ↔ v ≤ ρ key := by unfold bey; simp
theorem bey_t {key : Keyed} {v : Int} : bey ρ true key v = true ↔ v < ρ key := by unfold bey; simp
theorem bey_ff {key : Keyed} {v : Int} : bey ρ false key v = false ↔ ρ key < v := by unfold bey; simp
theorem bey_tf {key : Keyed} {v : Int} : bey ρ true key v = false ↔ ρ key ≤ v := by unfold bey; simp
theorem wpS_mergeLo (hL : LtBy prog w A s k0 ρ a₀) {st : SortSt} (hk : kindOf st = k0) {Q : Array Keyed → SortSt → Prop} (sa : Ls ρ a.toList) (sb : Ls ρ b.toList) (ma : ∀ x ∈ a.toList, x ∈ a₀.toList) (mb : ∀ x ∈ b.toList, x ∈ a₀.toList) (na : 1 ≤ a.size) (nb : 1 ≤ b.size)
 (hfirst : ∀ x y, a[0]? = some x → b[0]? = some y → ρ y ≤ ρ x) (hlast : ∀ x ∈ a.toList.drop (a.size - 1), ∀ y ∈ b.toList, ρ y ≤ ρ x) (h : ∀ r st', GS st st' → RS ρ a b r → Q r st') : wpS (model prog w) A E s (mergeLo' a b) Q st := by
 walk_at "mergeLo"
 walk_at "z31"
 obtain ⟨y0, hy0, my0⟩ := mem_at mb (i := 0) (by lia)
 refine wpS_bind (wpS_elem hy0 ?_)
 have mI : MI ρ a b #[] 0 0 := ⟨by lia, by lia, by simp, by simp [Ls], by simp⟩
 have m1 : MI ρ a b #[y0] 0 1 := mI.pB sa sb hy0 (fun x hx => hfirst x y0 hx hy0)
 refine wpS_ite (fun g => ?_) (fun _ => ?_)
 ·exact wpS_pure (h _ _ (GS.refl _) (m1.done sa sb (.inr (by simpa using g))))
 rename_i g1
 have g1' : ¬ 1 = b.size := by simpa using g1
 refine wpS_ite (fun g => ?_) (fun _ => ?_)
 ·have g' : 0 + 1 = a.size := by simpa using g
  exact wpS_pure (h _ _ (GS.refl _) (m1.lastA sa sb (fun x hx => hlast x (by rw [show a.size - 1 = 0 by lia]; exact hx))))
 rename_i g2
 have g2' : ¬ 0 + 1 = a.size := by simpa using g2
 refine wpS_bind (wpS_get ?_)
 refine wpS_bind (wpS_mono (wpS_forRange (I := fun x c st' => GS st st' ∧ ∃ out ia ib g, c = (none, out, ia, ib, g) ∧ MI ρ a b out ia ib ∧ ia + 1 < a.size ∧ ib < b.size ∧ x + 1 ≤ ia + ib)
  (Q := fun c st' => GS st st' ∧ ∃ r rest, c = (some r, rest) ∧ RS ρ a b r) ?step ?fin ⟨GS.refl _, _, _, _, _, rfl, m1, by lia, by lia, by lia⟩) ?post)
 case fin =>
  rintro c st' ⟨gs, out, ia, ib, g, rfl, m, q1, q2, q3⟩
  lia
 case post =>
  rintro c st' ⟨gs, r, rest, rfl, hr⟩
  exact wpS_pure (h _ _ gs hr)
 case step =>
  rintro x c st' _ hx ⟨gs, out, ia, ib, g, rfl, m, lA, lB, hp⟩
  dsimp only
  refine wpS_bind (wpS_mono (wpS_forRange (I := fun y c st'' => st'' = st' ∧ ∃ out' ia' ib' ac bc, c = (none, out', ia', ib', ac, bc) ∧ MI ρ a b out' ia' ib' ∧ ia' + 1 < a.size ∧ ib' < b.size ∧ y + (ia + ib) ≤ ia' + ib')
   (Q := fun c st'' => st'' = st' ∧ ((∃ r rest, c = (some r, rest) ∧ RS ρ a b r) ∨ ∃ out' ia' ib' ac bc, c = (none, out', ia', ib', ac, bc) ∧ MI ρ a b out' ia' ib' ∧ ia' + 1 < a.size ∧ ib' < b.size ∧ ia + ib + 1 ≤ ia' + ib')) ?step1 ?fin1 ⟨rfl, _, _, _, _, _, rfl, m, lA, lB, by lia⟩) ?post1)
  case fin1 =>
   rintro c st'' ⟨rfl, out', ia', ib', ac, bc, rfl, m', q1, q2, q3⟩
   lia
  case step1 =>
   rintro y c st'' _ hy ⟨rfl, out', ia', ib', ac, bc, rfl, m', lA', lB', hp'⟩
   dsimp only
   have hk' : kindOf st'' = k0 := gs.kd.trans hk
   obtain ⟨yb, hyb, myb⟩ := mem_at mb (i := ib') (by lia)
   obtain ⟨xa, hxa, mxa⟩ := mem_at ma (i := ia') (by lia)
   refine wpS_bind (wpS_elem hyb ?_)
   refine wpS_bind (wpS_elem hxa ?_)
   refine wpS_bind (hL hk' myb mxa ?_)
   by_cases hlt : ρ yb < ρ xa
   ·simp only [hlt, decide_true, if_true]
    refine wpS_bind (wpS_elem hyb ?_)
    have mB := m'.pB sa sb hyb (fun x hx => by rw [hxa] at hx; cases hx; lia)
    refine wpS_ite (fun c0 => ?_) (fun _ => ?_)
    ·exact wpS_pure ⟨rfl, .inl ⟨_, _, rfl, mB.done sa sb (.inr (by simpa using c0))⟩⟩
    rename_i c0
    have c0' : ¬ ib' + 1 = b.size := by simpa using c0
    walk_at "z2"
    ·exact wpS_pure ⟨rfl, .inr ⟨_, _, _, _, _, rfl, mB, lA', by lia, by lia⟩⟩
    ·exact wpS_pure ⟨rfl, _, _, _, _, _, rfl, mB, lA', by lia, by lia⟩
   ·simp only [hlt, decide_false, Bool.false_eq_true, if_false]
    refine wpS_bind (wpS_elem hxa ?_)
    have mA := m'.pA sa sb hxa (fun x hx => by rw [hyb] at hx; cases hx; lia)
    refine wpS_ite (fun c0 => ?_) (fun _ => ?_)
    ·have c0' : ia' + 1 + 1 = a.size := by simpa using c0
     exact wpS_pure ⟨rfl, .inl ⟨_, _, rfl, mA.lastA sa sb (fun x hx => hlast x (by rw [show a.size - 1 = ia' + 1 by lia]; exact hx))⟩⟩
    rename_i c0
    have c0' : ¬ ia' + 1 + 1 = a.size := by simpa using c0
    walk_at "z2"
    ·exact wpS_pure ⟨rfl, .inr ⟨_, _, _, _, _, rfl, mA, by lia, lB', by lia⟩⟩
    ·exact wpS_pure ⟨rfl, _, _, _, _, _, rfl, mA, by lia, lB', by lia⟩
  case post1 =>
   rintro c st'' ⟨rfl, ⟨r, rest, rfl, hr⟩ | ⟨out', ia', ib', ac, bc, rfl, m', lA', lB', hp'⟩⟩
   ·dsimp only
    exact wpS_pure ⟨gs, r, _, rfl, hr⟩
   dsimp only
   walk_at "z31"
   refine wpS_bind (wpS_mono (wpS_forRange (I := fun z c st3 => GS st st3 ∧ ∃ out ia ib g ac bc, c = (none, out, ia, ib, g, ac, bc) ∧ MI ρ a b out ia ib ∧ ia + 1 < a.size ∧ ib < b.size ∧ z + (ia' + ib') ≤ ia + ib)
    (Q := fun c st3 => GS st st3 ∧ ((∃ r rest, c = (some r, rest) ∧ RS ρ a b r) ∨ ∃ out ia ib g ac bc, c = (none, out, ia, ib, g, ac, bc) ∧ MI ρ a b out ia ib ∧ ia + 1 < a.size ∧ ib < b.size ∧ ia' + ib' ≤ ia + ib)) ?step2 ?fin2 ⟨gs, _, _, _, _, _, _, rfl, m', lA', lB', by lia⟩) ?post2)
   case fin2 =>
    rintro c st3 ⟨gs, out, ia, ib, g, ac, bc, rfl, m, q1, q2, q3⟩
    lia
   case post2 =>
    rintro c st3 ⟨gs, ⟨r, rest, rfl, hr⟩ | ⟨out, ia, ib, g, ac, bc, rfl, m, lA, lB, hp⟩⟩
    ·dsimp only
     exact wpS_pure ⟨gs, r, _, rfl, hr⟩
    ·dsimp only
     refine wpS_bind (wpS_setMin fun st4 gs4 => ?_)
     exact wpS_pure ⟨gs.trans gs4, _, _, _, _, rfl, m, lA, lB, by lia⟩
   case step2 =>
    clear m lA lB hp m' lA' lB'
    rintro z c st' _ hz ⟨gs, out, ia, ib, g, ac, bc, rfl, m, lA, lB, hp⟩
    dsimp only
    walk_at "z2"
    ·refine wpS_bind (wpS_setMin fun st3 gs3 => ?_)
     have gs2 := gs.trans gs3
     have hk2 : kindOf st3 = k0 := gs2.kd.trans hk
     obtain ⟨y, hy, my⟩ := mem_at mb (i := ib) (by lia)
     refine wpS_bind (wpS_elem hy ?_)
     refine wpS_bind (wpS_gallop hL hk2 my (fun i hi => mem_at ma (by lia)) (sa.inn (by lia)) (by lia) fun k i1 i2 i3 => ?_)
     dsimp only
     have mA := m.tA (k := k) (by lia) sa (fun z hz y' hy' => by
      walk_at "z27"
      have := bey_f.mp (i2 j hj)
      rw [R_at e] at this
      have := sb.rest hy hy'
      lia)
     have hgt : ∀ x, a[ia + k]? = some x → ρ y ≤ ρ x := fun x hx => by
      have hl := (Array.getElem?_eq_some_iff.mp hx).1
      have := bey_ff.mp (i3 k (Nat.le_refl _) (by lia))
      rw [R_at hx] at this
      lia
     refine wpS_ite (fun kp => ?_) (fun _ => ?_)
     ·refine wpS_ite (fun c3 => ?_) (fun _ => ?_)
      ·have c3' : ia + k + 1 = a.size := by simpa using c3
       exact wpS_pure ⟨gs2, .inl ⟨_, _, rfl, mA.lastA sa sb (fun x hx => hlast x (by rw [show a.size - 1 = ia + k by lia]; exact hx))⟩⟩
      rename_i c3
      have c3' : ¬ ia + k + 1 = a.size := by simpa using c3
      refine wpS_ite (fun c4 => ?_) (fun _ => ?_)
      ·exact wpS_pure ⟨gs2, .inl ⟨_, _, rfl, mA.done sa sb (.inl (by simpa using c4))⟩⟩
      rename_i c4
      have c4' : ¬ ia + k = a.size := by simpa using c4
      have hia : ia + k + 1 < a.size := by have := mA.la; lia
      obtain ⟨y1, hy1, my1⟩ := mem_at mb (i := ib) (by lia)
      refine wpS_bind (wpS_elem hy1 ?_)
      rw [hy] at hy1
      cases hy1
      have mB := mA.pB sa sb hy hgt
      refine wpS_ite (fun c0 => ?_) (fun _ => ?_)
      ·walk_at "z37"
      rename_i c0
      have c0' : ¬ ib + 1 = b.size := by simpa using c0
      obtain ⟨x1, hx1, mx1⟩ := mem_at ma (i := (ia + k)) (by lia)
      refine wpS_bind (wpS_elem hx1 ?_)
      walk_at "z14"
      dsimp only
      have mB2 := mB.tB (k := k') (by lia) sb (fun z hz y' hy' => by
       walk_at "z27"
       have := bey_t.mp (j2 j hj)
       rw [R_at e] at this
       have := sa.rest hx1 hy'
       lia)
      refine wpS_ite (fun k0' => ?_) (fun _ => ?_)
      ·refine wpS_ite (fun c2 => ?_) (fun _ => ?_)
       ·walk_at "z35"
       rename_i c2
       have c2' : ¬ ib + 1 + k' = b.size := by simpa using c2
       have lib2 : ib + 1 + k' < b.size := by have := mB2.lb; lia
       obtain ⟨x2, hx2, mx2⟩ := mem_at ma (i := (ia + k)) (by lia)
       walk_at "z10"
       rw [hx1] at hx2
       cases hx2
       walk_at "z15"
       walk_at "z30"
       ·have c1' : (ia + k) + 1 + 1 = a.size := by simpa using c1
        walk_at "z8"
       rename_i c1
       have c1' : ¬ (ia + k) + 1 + 1 = a.size := by simpa using c1
       have lia := mC.la
       walk_at "z2"
       ·walk_at "z0"
       ·walk_at "z1"
      ·rename_i k0'
       have k0'' : k' = 0 := by lia
       subst k0''
       have lib2 : ib + 1 < b.size := by lia
       obtain ⟨x2, hx2, mx2⟩ := mem_at ma (i := (ia + k)) (by lia)
       walk_at "z10"
       rw [hx1] at hx2
       cases hx2
       walk_at "z16"
       walk_at "z30"
       ·have c1' : (ia + k) + 1 + 1 = a.size := by simpa using c1
        walk_at "z8"
       rename_i c1
       have c1' : ¬ (ia + k) + 1 + 1 = a.size := by simpa using c1
       have lia := mC.la
       walk_at "z2"
       ·walk_at "z0"
       ·walk_at "z1"
     ·rename_i kp
      have kp' : k = 0 := by lia
      subst kp'
      have hia : ia + 1 < a.size := lA
      obtain ⟨y1, hy1, my1⟩ := mem_at mb (i := ib) (by lia)
      refine wpS_bind (wpS_elem hy1 ?_)
      rw [hy] at hy1
      cases hy1
      have mB := m.pB sa sb hy hgt
      refine wpS_ite (fun c0 => ?_) (fun _ => ?_)
      ·walk_at "z37"
      rename_i c0
      have c0' : ¬ ib + 1 = b.size := by simpa using c0
      obtain ⟨x1, hx1, mx1⟩ := mem_at ma (i := ia) (by lia)
      refine wpS_bind (wpS_elem hx1 ?_)
      walk_at "z14"
      dsimp only
      have mB2 := mB.tB (k := k') (by lia) sb (fun z hz y' hy' => by
       walk_at "z27"
       have := bey_t.mp (j2 j hj)
       rw [R_at e] at this
       have := sa.rest hx1 hy'
       lia)
      refine wpS_ite (fun k0' => ?_) (fun _ => ?_)
      ·refine wpS_ite (fun c2 => ?_) (fun _ => ?_)
       ·walk_at "z35"
       rename_i c2
       have c2' : ¬ ib + 1 + k' = b.size := by simpa using c2
       have lib2 : ib + 1 + k' < b.size := by have := mB2.lb; lia
       obtain ⟨x2, hx2, mx2⟩ := mem_at ma (i := ia) (by lia)
       walk_at "z10"
       rw [hx1] at hx2
       cases hx2
       walk_at "z15"
       walk_at "z30"
       ·have c1' : ia + 1 + 1 = a.size := by simpa using c1
        walk_at "z11"
       rename_i c1
       have c1' : ¬ ia + 1 + 1 = a.size := by simpa using c1
       have lia := mC.la
       walk_at "z2"
       ·walk_at "z0"
       ·walk_at "z1"
      ·rename_i k0'
       have k0'' : k' = 0 := by lia
       subst k0''
       have lib2 : ib + 1 < b.size := by lia
       obtain ⟨x2, hx2, mx2⟩ := mem_at ma (i := ia) (by lia)
       walk_at "z10"
       rw [hx1] at hx2
       cases hx2
       walk_at "z16"
       walk_at "z30"
       ·have c1' : ia + 1 + 1 = a.size := by simpa using c1
        walk_at "z11"
       rename_i c1
       have c1' : ¬ ia + 1 + 1 = a.size := by simpa using c1
       have lia := mC.la
       walk_at "z2"
       ·walk_at "z0"
       ·walk_at "z1"
    ·refine wpS_bind (wpS_setMin fun st3 gs3 => ?_)
     have gs2 := gs.trans gs3
     have hk2 : kindOf st3 = k0 := gs2.kd.trans hk
     obtain ⟨y, hy, my⟩ := mem_at mb (i := ib) (by lia)
     refine wpS_bind (wpS_elem hy ?_)
     refine wpS_bind (wpS_gallop hL hk2 my (fun i hi => mem_at ma (by lia)) (sa.inn (by lia)) (by lia) fun k i1 i2 i3 => ?_)
     dsimp only
     have mA := m.tA (k := k) (by lia) sa (fun z hz y' hy' => by
      walk_at "z27"
      have := bey_f.mp (i2 j hj)
      rw [R_at e] at this
      have := sb.rest hy hy'
      lia)
     have hgt : ∀ x, a[ia + k]? = some x → ρ y ≤ ρ x := fun x hx => by
      have hl := (Array.getElem?_eq_some_iff.mp hx).1
      have := bey_ff.mp (i3 k (Nat.le_refl _) (by lia))
      rw [R_at hx] at this
      lia
     refine wpS_ite (fun kp => ?_) (fun _ => ?_)
     ·refine wpS_ite (fun c3 => ?_) (fun _ => ?_)
      ·have c3' : ia + k + 1 = a.size := by simpa using c3
       exact wpS_pure ⟨gs2, .inl ⟨_, _, rfl, mA.lastA sa sb (fun x hx => hlast x (by rw [show a.size - 1 = ia + k by lia]; exact hx))⟩⟩
      rename_i c3
      have c3' : ¬ ia + k + 1 = a.size := by simpa using c3
      refine wpS_ite (fun c4 => ?_) (fun _ => ?_)
      ·exact wpS_pure ⟨gs2, .inl ⟨_, _, rfl, mA.done sa sb (.inl (by simpa using c4))⟩⟩
      rename_i c4
      have c4' : ¬ ia + k = a.size := by simpa using c4
      have hia : ia + k + 1 < a.size := by have := mA.la; lia
      obtain ⟨y1, hy1, my1⟩ := mem_at mb (i := ib) (by lia)
      refine wpS_bind (wpS_elem hy1 ?_)
      rw [hy] at hy1
      cases hy1
      have mB := mA.pB sa sb hy hgt
      refine wpS_ite (fun c0 => ?_) (fun _ => ?_)
      ·walk_at "z37"
      rename_i c0
      have c0' : ¬ ib + 1 = b.size := by simpa using c0
      obtain ⟨x1, hx1, mx1⟩ := mem_at ma (i := (ia + k)) (by lia)
      refine wpS_bind (wpS_elem hx1 ?_)
      walk_at "z14"
      dsimp only
      have mB2 := mB.tB (k := k') (by lia) sb (fun z hz y' hy' => by
       walk_at "z27"
       have := bey_t.mp (j2 j hj)
       rw [R_at e] at this
       have := sa.rest hx1 hy'
       lia)
      refine wpS_ite (fun k0' => ?_) (fun _ => ?_)
      ·refine wpS_ite (fun c2 => ?_) (fun _ => ?_)
       ·walk_at "z35"
       rename_i c2
       have c2' : ¬ ib + 1 + k' = b.size := by simpa using c2
       have lib2 : ib + 1 + k' < b.size := by have := mB2.lb; lia
       obtain ⟨x2, hx2, mx2⟩ := mem_at ma (i := (ia + k)) (by lia)
       walk_at "z10"
       rw [hx1] at hx2
       cases hx2
       walk_at "z15"
       walk_at "z30"
       ·have c1' : (ia + k) + 1 + 1 = a.size := by simpa using c1
        walk_at "z8"
       rename_i c1
       have c1' : ¬ (ia + k) + 1 + 1 = a.size := by simpa using c1
       have lia := mC.la
       walk_at "z2"
       ·walk_at "z0"
       ·walk_at "z1"
      ·rename_i k0'
       have k0'' : k' = 0 := by lia
       subst k0''
       have lib2 : ib + 1 < b.size := by lia
       obtain ⟨x2, hx2, mx2⟩ := mem_at ma (i := (ia + k)) (by lia)
       walk_at "z10"
       rw [hx1] at hx2
       cases hx2
       walk_at "z16"
       walk_at "z30"
       ·have c1' : (ia + k) + 1 + 1 = a.size := by simpa using c1
        walk_at "z8"
       rename_i c1
       have c1' : ¬ (ia + k) + 1 + 1 = a.size := by simpa using c1
       have lia := mC.la
       walk_at "z2"
       ·walk_at "z0"
       ·walk_at "z1"
     ·rename_i kp
      have kp' : k = 0 := by lia
      subst kp'
      have hia : ia + 1 < a.size := lA
      obtain ⟨y1, hy1, my1⟩ := mem_at mb (i := ib) (by lia)
      refine wpS_bind (wpS_elem hy1 ?_)
      rw [hy] at hy1
      cases hy1
      have mB := m.pB sa sb hy hgt
      refine wpS_ite (fun c0 => ?_) (fun _ => ?_)
      ·walk_at "z37"
      rename_i c0
      have c0' : ¬ ib + 1 = b.size := by simpa using c0
      obtain ⟨x1, hx1, mx1⟩ := mem_at ma (i := ia) (by lia)
      refine wpS_bind (wpS_elem hx1 ?_)
      walk_at "z14"
      dsimp only
      have mB2 := mB.tB (k := k') (by lia) sb (fun z hz y' hy' => by
       walk_at "z27"
       have := bey_t.mp (j2 j hj)
       rw [R_at e] at this
       have := sa.rest hx1 hy'
       lia)
      refine wpS_ite (fun k0' => ?_) (fun _ => ?_)
      ·refine wpS_ite (fun c2 => ?_) (fun _ => ?_)
       ·walk_at "z35"
       rename_i c2
       have c2' : ¬ ib + 1 + k' = b.size := by simpa using c2
       have lib2 : ib + 1 + k' < b.size := by have := mB2.lb; lia
       obtain ⟨x2, hx2, mx2⟩ := mem_at ma (i := ia) (by lia)
       walk_at "z10"
       rw [hx1] at hx2
       cases hx2
       walk_at "z15"
       walk_at "z30"
       ·have c1' : ia + 1 + 1 = a.size := by simpa using c1
        walk_at "z11"
       rename_i c1
       have c1' : ¬ ia + 1 + 1 = a.size := by simpa using c1
       have lia := mC.la
       walk_at "z2"
       ·walk_at "z0"
       ·walk_at "z1"
      ·rename_i k0'
       have k0'' : k' = 0 := by lia
       subst k0''
       have lib2 : ib + 1 < b.size := by lia
       obtain ⟨x2, hx2, mx2⟩ := mem_at ma (i := ia) (by lia)
       walk_at "z10"
       rw [hx1] at hx2
       cases hx2
       walk_at "z16"
       walk_at "z30"
       ·have c1' : ia + 1 + 1 = a.size := by simpa using c1
        walk_at "z11"
       rename_i c1
       have c1' : ¬ ia + 1 + 1 = a.size := by simpa using c1
       have lia := mC.la
       walk_at "z2"
       ·walk_at "z0"
       ·walk_at "z1"
end
end L2
namespace L2
open PySem PySem.Spec PyProof.Rows
section
variable {ρ : Keyed → Int} {a b out : Array Keyed} {na nb k : Nat}
structure MH (ρ : Keyed → Int) (a b out : Array Keyed) (na nb : Nat) : Prop where
 la : na ≤ a.size
 lb : nb ≤ b.size
 pm : out.toList.Perm (a.toList.drop na ++ b.toList.drop nb)
 so : Ls ρ out.toList.reverse
 le : ∀ y ∈ out.toList, ∀ x ∈ a.toList.take na ++ b.toList.take nb, ρ x ≤ ρ y
theorem win_drop (l : List Keyed) {i j : Nat} (h : i ≤ j) : l.drop i = (l.drop i).take (j - i) ++ l.drop j := by
 have := (List.take_append_drop (j - i) (l.drop i)).symm
 rw [List.drop_drop, show i + (j - i) = j by lia] at this
 exact this
theorem win_take (l : List Keyed) {i j : Nat} (h : i ≤ j) : l.take j = l.take i ++ (l.drop i).take (j - i) := by
 rw [← List.take_add, show i + (j - i) = j by lia]
theorem MH.tA (h : MH ρ a b out na nb) (hk : k ≤ na) (sa : Ls ρ a.toList) (hc : ∀ x ∈ (a.toList.drop k).take (na - k), ∀ y ∈ b.toList.take nb, ρ y ≤ ρ x) : MH ρ a b (out ++ (a.extract k na).reverse) k nb := by
 have e : (out ++ (a.extract k na).reverse).toList = out.toList ++ ((a.toList.drop k).take (na - k)).reverse := by rw [Array.toList_append, Array.toList_reverse, ext_l]
 have e1 := win_take a.toList hk
 have e2 := win_drop a.toList hk
 refine ⟨Nat.le_trans hk h.la, h.lb, ?_, ?_, ?_⟩
 ·rw [e]
  refine (h.pm.append (List.reverse_perm _)).trans ?_
  conv => rhs; rw [e2]
  rw [List.append_assoc (List.take (na - k) (List.drop k a.toList))]
  exact List.perm_append_comm
 ·rw [e, List.reverse_append, List.reverse_reverse]
  refine (sa.sub ((List.take_sublist _ _).trans (List.drop_sublist _ _))).app h.so fun x hx y hy => h.le y (by simpa using hy) x (List.mem_append_left _ ?_)
  rw [e1]; exact List.mem_append_right _ hx
 ·rw [e]
  intro y hy x hx
  rcases List.mem_append.mp hy with q | q
  ·refine h.le y q x ?_
   rw [e1]
   rcases List.mem_append.mp hx with z | z
   ·exact List.mem_append_left _ (List.mem_append_left _ z)
   ·exact List.mem_append_right _ z
  ·rw [List.mem_reverse] at q
   rcases List.mem_append.mp hx with z | z
   ·exact sa.split k x z y (List.mem_of_mem_take q)
   ·exact hc y q x z
theorem MH.tB (h : MH ρ a b out na nb) (hk : k ≤ nb) (sb : Ls ρ b.toList) (hc : ∀ x ∈ (b.toList.drop k).take (nb - k), ∀ y ∈ a.toList.take na, ρ y ≤ ρ x) : MH ρ a b (out ++ (b.extract k nb).reverse) na k := by
 have e : (out ++ (b.extract k nb).reverse).toList = out.toList ++ ((b.toList.drop k).take (nb - k)).reverse := by rw [Array.toList_append, Array.toList_reverse, ext_l]
 have e1 := win_take b.toList hk
 have e2 := win_drop b.toList hk
 refine ⟨h.la, Nat.le_trans hk h.lb, ?_, ?_, ?_⟩
 ·rw [e]
  refine (h.pm.append (List.reverse_perm _)).trans ?_
  conv => rhs; rw [e2]
  rw [List.append_assoc]
  exact List.Perm.append_left _ List.perm_append_comm
 ·rw [e, List.reverse_append, List.reverse_reverse]
  refine (sb.sub ((List.take_sublist _ _).trans (List.drop_sublist _ _))).app h.so fun x hx y hy => h.le y (by simpa using hy) x (List.mem_append_right _ ?_)
  rw [e1]; exact List.mem_append_right _ hx
 ·rw [e]
  intro y hy x hx
  rcases List.mem_append.mp hy with q | q
  ·refine h.le y q x ?_
   rw [e1]
   rcases List.mem_append.mp hx with z | z
   ·exact List.mem_append_left _ z
   ·exact List.mem_append_right _ (List.mem_append_left _ z)
  ·rw [List.mem_reverse] at q
   rcases List.mem_append.mp hx with z | z
   ·exact hc y q x z
   ·exact sb.split k x z y (List.mem_of_mem_take q)
theorem push_rev {xs : Array Keyed} {i : Nat} {x : Keyed} (hx : xs[i]? = some x) : out.push x = out ++ (xs.extract i (i + 1)).reverse := by
 apply Array.ext'
 obtain ⟨hi, e⟩ := Array.getElem?_eq_some_iff.mp hx
 rw [Array.toList_push, Array.toList_append, Array.toList_reverse, ext_l, Nat.add_sub_cancel_left, List.drop_eq_getElem_cons (by simpa using hi), List.take_succ_cons, List.take_zero]
 simp [e]
theorem Ls.upto {xs : Array Keyed} (h : Ls ρ xs.toList) {i : Nat} {x : Keyed} (hx : xs[i]? = some x) {y : Keyed} (hy : y ∈ xs.toList.take (i + 1)) : ρ y ≤ ρ x := by
 obtain ⟨hi, e⟩ := Array.getElem?_eq_some_iff.mp hx
 rw [List.take_add_one, List.getElem?_eq_getElem (by simpa using hi)] at hy
 rcases List.mem_append.mp hy with q | q
 ·refine h.split i y q x ?_
  rw [List.drop_eq_getElem_cons (by simpa using hi)]
  simp [e]
 ·have : y = x := by simpa [e] using q
  rw [this]; exact Int.le_refl _
theorem MH.pA (h : MH ρ a b out (na + 1) nb) (sa : Ls ρ a.toList) (sb : Ls ρ b.toList) {x : Keyed} (hx : a[na]? = some x) (hc : ∀ j y, nb = j + 1 → b[j]? = some y → ρ y ≤ ρ x) : MH ρ a b (out.push x) na nb := by
 rw [push_rev hx]
 refine h.tA (Nat.le_succ _) sa fun z hz y hy => ?_
 rw [Nat.add_sub_cancel_left] at hz
 rw [one_take hx hz]
 cases nb with
 | zero => simp at hy
 | succ j =>
   have hj : j < b.size := by have := h.lb; lia
   exact Int.le_trans (sb.upto (Array.getElem?_eq_getElem hj) hy) (hc j _ rfl (Array.getElem?_eq_getElem hj))
theorem MH.pB (h : MH ρ a b out na (nb + 1)) (sa : Ls ρ a.toList) (sb : Ls ρ b.toList) {x : Keyed} (hx : b[nb]? = some x) (hc : ∀ j y, na = j + 1 → a[j]? = some y → ρ y ≤ ρ x) : MH ρ a b (out.push x) na nb := by
 rw [push_rev hx]
 refine h.tB (Nat.le_succ _) sb fun z hz y hy => ?_
 rw [Nat.add_sub_cancel_left] at hz
 rw [one_take hx hz]
 cases na with
 | zero => simp at hy
 | succ j =>
   have hj : j < a.size := by have := h.la; lia
   exact Int.le_trans (sa.upto (Array.getElem?_eq_getElem hj) hy) (hc j _ rfl (Array.getElem?_eq_getElem hj))
theorem MH.done (h : MH ρ a b out na nb) (sa : Ls ρ a.toList) (sb : Ls ρ b.toList) (hd : na = 0 ∨ nb = 0) : RS ρ a b (a.extract 0 na ++ b.extract 0 nb ++ out.reverse) := by
 have e : (a.extract 0 na ++ b.extract 0 nb ++ out.reverse).toList = a.toList.take na ++ b.toList.take nb ++ out.toList.reverse := by
  rw [Array.toList_append, Array.toList_append, ext_l, ext_l, Array.toList_reverse, List.drop_zero, List.drop_zero, Nat.sub_zero, Nat.sub_zero]
 refine ⟨?_, ?_⟩
 ·rw [e]
  refine (List.Perm.append_left _ ((List.reverse_perm _).trans h.pm)).trans ?_
  rw [← List.append_assoc]
  refine (perm_four _ _ _ _).trans ?_
  rw [List.take_append_drop, List.take_append_drop]
 ·rw [e]
  refine Ls.app ?_ h.so fun x hx y hy => h.le y (by simpa using hy) x hx
  refine (sa.sub (List.take_sublist _ _)).app (sb.sub (List.take_sublist _ _)) fun x hx y hy => ?_
  rcases hd with q | q
  ·subst q; simp at hx
  ·subst q; simp at hy
theorem MH.firstB (h : MH ρ a b out na nb) (sa : Ls ρ a.toList) (sb : Ls ρ b.toList) (hg : ∀ x ∈ b.toList.take nb, ∀ y ∈ a.toList, ρ x ≤ ρ y) : RS ρ a b (b.extract 0 nb ++ a.extract 0 na ++ out.reverse) := by
 have e : (b.extract 0 nb ++ a.extract 0 na ++ out.reverse).toList = b.toList.take nb ++ a.toList.take na ++ out.toList.reverse := by
  rw [Array.toList_append, Array.toList_append, ext_l, ext_l, Array.toList_reverse, List.drop_zero, List.drop_zero, Nat.sub_zero, Nat.sub_zero]
 refine ⟨?_, ?_⟩
 ·rw [e]
  refine (List.Perm.append List.perm_append_comm ((List.reverse_perm _).trans h.pm)).trans ?_
  rw [← List.append_assoc]
  refine (perm_four _ _ _ _).trans ?_
  rw [List.take_append_drop, List.take_append_drop]
 ·rw [e]
  refine Ls.app ?_ h.so fun x hx y hy => h.le y (by simpa using hy) x ?_
  ·exact (sb.sub (List.take_sublist _ _)).app (sa.sub (List.take_sublist _ _)) fun x hx y hy => hg x hx y (List.mem_of_mem_take hy)
  ·rcases List.mem_append.mp hx with z | z
   ·exact List.mem_append_right _ z
   ·exact List.mem_append_left _ z
end
end L2
namespace L2
open PySem PySem.Spec PyProof.Rows
def mergeHi' : Array Keyed → Array Keyed → StateT SortSt Sem (Array Keyed) := sortPriv% PySem.Builtin.mergeHi
local macro_rules | `(tactic| walk_at "mergeHi") => do
 let n := Lean.mkIdent ((Lean.Name.num `_private.PySem.Builtin.List.W1All 0) ++ `PySem.Builtin.mergeHi)
 `(tactic| (delta mergeHi'; delta $n:ident; dsimp only))
section
variable {prog : Program} {w : World} {A : Around} {E : Value → Shared → Prop} {s : Shared} {a₀ : Array Keyed} {ρ : Keyed → Int} {k0 : SortKind} {a b : Array Keyed}
theorem MH.pA' {out : Array Keyed} {na nb : Nat} (h : MH ρ a b out na nb) (h1 : 1 ≤ na) (sa : Ls ρ a.toList) (sb : Ls ρ b.toList) {x : Keyed} (hx : a[na - 1]? = some x) (hc : ∀ y, 1 ≤ nb → b[nb - 1]? = some y → ρ y ≤ ρ x) : MH ρ a b (out.push x) (na - 1) nb := by
 obtain ⟨m, rfl⟩ : ∃ m, na = m + 1 := ⟨na - 1, by lia⟩
 exact MH.pA h sa sb hx fun j y e hy => hc y (by lia) (by rw [e]; exact hy)
theorem MH.pB' {out : Array Keyed} {na nb : Nat} (h : MH ρ a b out na nb) (h1 : 1 ≤ nb) (sa : Ls ρ a.toList) (sb : Ls ρ b.toList) {x : Keyed} (hx : b[nb - 1]? = some x) (hc : ∀ y, 1 ≤ na → a[na - 1]? = some y → ρ y ≤ ρ x) : MH ρ a b (out.push x) na (nb - 1) := by
 obtain ⟨m, rfl⟩ : ∃ m, nb = m + 1 := ⟨nb - 1, by lia⟩
 exact MH.pB h sa sb hx fun j y e hy => hc y (by lia) (by rw [e]; exact hy)
theorem Ls.upto' {xs : Array Keyed} (h : Ls ρ xs.toList) {n : Nat} (h1 : 1 ≤ n) {x : Keyed} (hx : xs[n - 1]? = some x) {y : Keyed} (hy : y ∈ xs.toList.take n) : ρ y ≤ ρ x := by
 obtain ⟨m, rfl⟩ : ∃ m, n = m + 1 := ⟨n - 1, by lia⟩
 exact h.upto hx hy
theorem wpS_mergeHi (hL : LtBy prog w A s k0 ρ a₀) {st : SortSt} (hk : kindOf st = k0) {Q : Array Keyed → SortSt → Prop} (sa : Ls ρ a.toList) (sb : Ls ρ b.toList) (ma : ∀ x ∈ a.toList, x ∈ a₀.toList) (mb : ∀ x ∈ b.toList, x ∈ a₀.toList) (na : 1 ≤ a.size) (nb : 1 ≤ b.size)
 (hfirst : ∀ x ∈ b.toList.take 1, ∀ y ∈ a.toList, ρ x ≤ ρ y) (hlast : ∀ x, a[a.size - 1]? = some x → ∀ y ∈ b.toList, ρ y ≤ ρ x) (h : ∀ r st', GS st st' → RS ρ a b r → Q r st') : wpS (model prog w) A E s (mergeHi' a b) Q st := by
 walk_at "mergeHi"
 walk_at "z31"
 obtain ⟨x0, hx0, mx0⟩ := mem_at ma (i := a.size - 1) (by lia)
 refine wpS_bind (wpS_elem hx0 ?_)
 have mI : MH ρ a b #[] a.size b.size := ⟨by lia, by lia, by simp, by simp [Ls], by simp⟩
 have m1 : MH ρ a b #[x0] (a.size - 1) b.size := mI.pA' na sa sb hx0 (fun y _ hy => hlast x0 hx0 y (at_mem hy))
 refine wpS_ite (fun g => ?_) (fun g1 => ?_)
 ·exact wpS_pure (h _ _ (GS.refl _) (m1.done sa sb (.inl (by simpa using g))))
 have g1' : ¬ a.size - 1 = 0 := by simpa using g1
 refine wpS_ite (fun g => ?_) (fun g2 => ?_)
 ·have g' : b.size = 1 := by simpa using g
  exact wpS_pure (h _ _ (GS.refl _) (m1.firstB sa sb (by rw [g']; exact hfirst)))
 have g2' : ¬ b.size = 1 := by simpa using g2
 refine wpS_bind (wpS_get ?_)
 refine wpS_bind (wpS_mono (wpS_forRange (I := fun x c st' => GS st st' ∧ ∃ na nb out g, c = (none, na, nb, out, g) ∧ MH ρ a b out na nb ∧ 1 ≤ na ∧ 2 ≤ nb ∧ x + 1 + (na + nb) ≤ a.size + b.size)
  (Q := fun c st' => GS st st' ∧ ∃ r rest, c = (some r, rest) ∧ RS ρ a b r) ?step ?fin ⟨GS.refl _, _, _, _, _, rfl, m1, by lia, by lia, by lia⟩) ?post)
 case fin =>
  rintro c st' ⟨gs, na, nb, out, g, rfl, m, q1, q2, q3⟩
  lia
 case post =>
  rintro c st' ⟨gs, r, rest, rfl, hr⟩
  exact wpS_pure (h _ _ gs hr)
 case step =>
  rintro x c st' _ hx ⟨gs, na, nb, out, g, rfl, m, lA, lB, hp⟩
  dsimp only
  refine wpS_bind (wpS_mono (wpS_forRange (I := fun y c st'' => st'' = st' ∧ ∃ na' nb' out' ac bc, c = (none, na', nb', out', ac, bc) ∧ MH ρ a b out' na' nb' ∧ 1 ≤ na' ∧ 2 ≤ nb' ∧ y + (na' + nb') ≤ na + nb)
   (Q := fun c st'' => st'' = st' ∧ ((∃ r rest, c = (some r, rest) ∧ RS ρ a b r) ∨ ∃ na' nb' out' ac bc, c = (none, na', nb', out', ac, bc) ∧ MH ρ a b out' na' nb' ∧ 1 ≤ na' ∧ 2 ≤ nb' ∧ na' + nb' + 1 ≤ na + nb)) ?step1 ?fin1 ⟨rfl, _, _, _, _, _, rfl, m, lA, lB, by lia⟩) ?post1)
  case fin1 =>
   rintro c st'' ⟨rfl, na', nb', out', ac, bc, rfl, m', q1, q2, q3⟩
   lia
  case step1 =>
   rintro y c st'' _ hy ⟨rfl, na', nb', out', ac, bc, rfl, m', lA', lB', hp'⟩
   dsimp only
   have hk' : kindOf st'' = k0 := gs.kd.trans hk
   have qa := m'.la
   have qb := m'.lb
   obtain ⟨yb, hyb, myb⟩ := mem_at mb (i := nb' - 1) (by lia)
   obtain ⟨xa, hxa, mxa⟩ := mem_at ma (i := na' - 1) (by lia)
   refine wpS_bind (wpS_elem hyb ?_)
   refine wpS_bind (wpS_elem hxa ?_)
   refine wpS_bind (hL hk' myb mxa ?_)
   by_cases hlt : ρ yb < ρ xa
   ·simp only [hlt, decide_true, if_true]
    refine wpS_bind (wpS_elem hxa ?_)
    have mA := m'.pA' lA' sa sb hxa (fun x _ hx => by rw [hyb] at hx; cases hx; lia)
    refine wpS_ite (fun c0 => ?_) (fun c0 => ?_)
    ·exact wpS_pure ⟨rfl, .inl ⟨_, _, rfl, mA.done sa sb (.inl (by simpa using c0))⟩⟩
    have c0' : ¬ na' - 1 = 0 := by simpa using c0
    walk_at "z2"
    ·exact wpS_pure ⟨rfl, .inr ⟨_, _, _, _, _, rfl, mA, by lia, lB', by lia⟩⟩
    ·exact wpS_pure ⟨rfl, _, _, _, _, _, rfl, mA, by lia, lB', by lia⟩
   ·simp only [hlt, decide_false, Bool.false_eq_true, if_false]
    refine wpS_bind (wpS_elem hyb ?_)
    have mB := m'.pB' (by lia) sa sb hyb (fun x _ hx => by rw [hxa] at hx; cases hx; lia)
    refine wpS_ite (fun c0 => ?_) (fun c0 => ?_)
    ·have c0' : nb' - 1 = 1 := by simpa using c0
     exact wpS_pure ⟨rfl, .inl ⟨_, _, rfl, mB.firstB sa sb (by rw [c0']; exact hfirst)⟩⟩
    have c0' : ¬ nb' - 1 = 1 := by simpa using c0
    walk_at "z2"
    ·exact wpS_pure ⟨rfl, .inr ⟨_, _, _, _, _, rfl, mB, lA', by lia, by lia⟩⟩
    ·exact wpS_pure ⟨rfl, _, _, _, _, _, rfl, mB, lA', by lia, by lia⟩
  case post1 =>
   rintro c st'' ⟨rfl, ⟨r, rest, rfl, hr⟩ | ⟨na', nb', out', ac, bc, rfl, m', lA', lB', hp'⟩⟩
   ·dsimp only
    exact wpS_pure ⟨gs, r, _, rfl, hr⟩
   dsimp only
   walk_at "z31"
   refine wpS_bind (wpS_mono (wpS_forRange (I := fun z c st3 => GS st st3 ∧ ∃ na nb out g ac bc, c = (none, na, nb, out, g, ac, bc) ∧ MH ρ a b out na nb ∧ 1 ≤ na ∧ 2 ≤ nb ∧ z + (na + nb) ≤ na' + nb')
    (Q := fun c st3 => GS st st3 ∧ ((∃ r rest, c = (some r, rest) ∧ RS ρ a b r) ∨ ∃ na nb out g ac bc, c = (none, na, nb, out, g, ac, bc) ∧ MH ρ a b out na nb ∧ 1 ≤ na ∧ 2 ≤ nb ∧ na + nb ≤ na' + nb')) ?step2 ?fin2 ⟨gs, _, _, _, _, _, _, rfl, m', lA', lB', by lia⟩) ?post2)
   case fin2 =>
    have qa := m'.la
    have qb := m'.lb
    rintro c st3 ⟨gs, na, nb, out, g, ac, bc, rfl, m, q1, q2, q3⟩
    lia
   case post2 =>
    rintro c st3 ⟨gs, ⟨r, rest, rfl, hr⟩ | ⟨na, nb, out, g, ac, bc, rfl, m, lA, lB, hp⟩⟩
    ·dsimp only
     exact wpS_pure ⟨gs, r, _, rfl, hr⟩
    ·dsimp only
     refine wpS_bind (wpS_setMin fun st4 gs4 => ?_)
     exact wpS_pure ⟨gs.trans gs4, _, _, _, _, rfl, m, lA, lB, by lia⟩
   case step2 =>
    clear m lA lB hp m' lA' lB'
    rintro z c st' _ hz ⟨gs, na, nb, out, g, ac, bc, rfl, m, lA, lB, hp⟩
    dsimp only
    walk_at "z2"
    ·refine wpS_bind (wpS_setMin fun st3 gs3 => ?_)
     have gs2 := gs.trans gs3
     have hk2 : kindOf st3 = k0 := gs2.kd.trans hk
     have qa := m.la
     have qb := m.lb
     obtain ⟨y, hy, my⟩ := mem_at mb (i := nb - 1) (by lia)
     refine wpS_bind (wpS_elem hy ?_)
     refine wpS_bind (wpS_gallop (base := 0) hL hk2 my (fun i hi => by rw [Nat.zero_add]; exact mem_at ma (by lia)) (sa.inn (by lia)) (by lia) fun k i1 i2 i3 => ?_)
     simp only [Nat.zero_add] at i2 i3
     dsimp only
     have mA := m.tA (k := k) i1 sa (fun z hz y' hy' => by
      walk_at "z27"
      have := bey_ff.mp (i3 (k + j) (by lia) (by lia))
      rw [R_at e] at this
      have := sb.upto' (by lia) hy hy'
      lia)
     refine wpS_ite (fun kp => ?_) (fun kp => ?_)
     ·refine wpS_ite (fun c3 => ?_) (fun c3 => ?_)
      ·exact wpS_pure ⟨gs2, .inl ⟨_, _, rfl, mA.done sa sb (.inl (by simpa using c3))⟩⟩
      have c3' : ¬ k = 0 := by simpa using c3
      have hna : 1 ≤ k := by lia
      have hgt : ∀ x, a[k - 1]? = some x → ρ x ≤ ρ y := fun x hx => by
       have := bey_f.mp (i2 (k - 1) (by lia))
       rw [R_at hx] at this
       exact this
      obtain ⟨y1, hy1, my1⟩ := mem_at mb (i := nb - 1) (by lia)
      refine wpS_bind (wpS_elem hy1 ?_)
      rw [hy] at hy1
      cases hy1
      have mB := mA.pB' (by lia) sa sb hy (fun x _ hx => hgt x hx)
      refine wpS_ite (fun c0 => ?_) (fun c0 => ?_)
      ·have c0' : nb - 1 = 1 := by simpa using c0
       walk_at "z33"
      have c0' : ¬ nb - 1 = 1 := by simpa using c0
      obtain ⟨x1, hx1, mx1⟩ := mem_at ma (i := k - 1) (by lia)
      refine wpS_bind (wpS_elem hx1 ?_)
      walk_at "z5"
      simp only [Nat.zero_add] at j2 j3
      dsimp only
      have mB2 := mB.tB (k := k') (by lia) sb (fun z hz y' hy' => by
       walk_at "z27"
       have := bey_tf.mp (j3 (k' + j) (by lia) (by lia))
       rw [R_at e] at this
       have := sa.upto' hna hx1 hy'
       lia)
      refine wpS_ite (fun k0' => ?_) (fun k0' => ?_)
      ·refine wpS_ite (fun c2 => ?_) (fun c2 => ?_)
       ·have c2' : k' = 1 := by simpa using c2
        walk_at "z32"
       have c2' : ¬ k' = 1 := by simpa using c2
       refine wpS_ite (fun c5 => ?_) (fun c5 => ?_)
       ·walk_at "z36"
       have c5' : ¬ k' = 0 := by simpa using c5
       have lib2 : 2 ≤ k' := by lia
       have hlt2 : ∀ y', b[k' - 1]? = some y' → ρ y' ≤ ρ x1 := fun y' hy' => by
        have := bey_t.mp (j2 (k' - 1) (by lia))
        rw [R_at hy'] at this
        lia
       obtain ⟨x2, hx2, mx2⟩ := mem_at ma (i := k - 1) (by lia)
       walk_at "z10"
       rw [hx1] at hx2
       cases hx2
       have mC := mB2.pA' hna sa sb hx1 (fun y' h1' hy' => hlt2 y' hy')
       walk_at "z28"
       ·walk_at "z6"
       have c1' : ¬ k - 1 = 0 := by simpa using c1
       walk_at "z2"
       ·walk_at "z0"
       ·walk_at "z1"
      ·have k0'' : k' = nb - 1 := by lia
       have lib2 : 2 ≤ nb - 1 := by lia
       have hlt2 : ∀ y', b[nb - 1 - 1]? = some y' → ρ y' ≤ ρ x1 := fun y' hy' => by
        have := bey_t.mp (j2 (nb - 1 - 1) (by lia))
        rw [R_at hy'] at this
        lia
       obtain ⟨x2, hx2, mx2⟩ := mem_at ma (i := k - 1) (by lia)
       walk_at "z10"
       rw [hx1] at hx2
       cases hx2
       have mC := mB.pA' hna sa sb hx1 (fun y' h1' hy' => hlt2 y' hy')
       walk_at "z28"
       ·walk_at "z6"
       have c1' : ¬ k - 1 = 0 := by simpa using c1
       walk_at "z2"
       ·walk_at "z0"
       ·walk_at "z1"
     ·have kp' : k = na := by lia
      have hna : 1 ≤ na := lA
      have hgt : ∀ x, a[na - 1]? = some x → ρ x ≤ ρ y := fun x hx => by
       have := bey_f.mp (i2 (na - 1) (by lia))
       rw [R_at hx] at this
       exact this
      obtain ⟨y1, hy1, my1⟩ := mem_at mb (i := nb - 1) (by lia)
      refine wpS_bind (wpS_elem hy1 ?_)
      rw [hy] at hy1
      cases hy1
      have mB := m.pB' (by lia) sa sb hy (fun x _ hx => hgt x hx)
      refine wpS_ite (fun c0 => ?_) (fun c0 => ?_)
      ·have c0' : nb - 1 = 1 := by simpa using c0
       walk_at "z33"
      have c0' : ¬ nb - 1 = 1 := by simpa using c0
      obtain ⟨x1, hx1, mx1⟩ := mem_at ma (i := na - 1) (by lia)
      refine wpS_bind (wpS_elem hx1 ?_)
      walk_at "z5"
      simp only [Nat.zero_add] at j2 j3
      dsimp only
      have mB2 := mB.tB (k := k') (by lia) sb (fun z hz y' hy' => by
       walk_at "z27"
       have := bey_tf.mp (j3 (k' + j) (by lia) (by lia))
       rw [R_at e] at this
       have := sa.upto' hna hx1 hy'
       lia)
      refine wpS_ite (fun k0' => ?_) (fun k0' => ?_)
      ·refine wpS_ite (fun c2 => ?_) (fun c2 => ?_)
       ·have c2' : k' = 1 := by simpa using c2
        walk_at "z32"
       have c2' : ¬ k' = 1 := by simpa using c2
       refine wpS_ite (fun c5 => ?_) (fun c5 => ?_)
       ·walk_at "z36"
       have c5' : ¬ k' = 0 := by simpa using c5
       have lib2 : 2 ≤ k' := by lia
       have hlt2 : ∀ y', b[k' - 1]? = some y' → ρ y' ≤ ρ x1 := fun y' hy' => by
        have := bey_t.mp (j2 (k' - 1) (by lia))
        rw [R_at hy'] at this
        lia
       obtain ⟨x2, hx2, mx2⟩ := mem_at ma (i := na - 1) (by lia)
       walk_at "z10"
       rw [hx1] at hx2
       cases hx2
       have mC := mB2.pA' hna sa sb hx1 (fun y' h1' hy' => hlt2 y' hy')
       walk_at "z28"
       ·walk_at "z6"
       have c1' : ¬ na - 1 = 0 := by simpa using c1
       walk_at "z2"
       ·walk_at "z0"
       ·walk_at "z1"
      ·have k0'' : k' = nb - 1 := by lia
       have lib2 : 2 ≤ nb - 1 := by lia
       have hlt2 : ∀ y', b[nb - 1 - 1]? = some y' → ρ y' ≤ ρ x1 := fun y' hy' => by
        have := bey_t.mp (j2 (nb - 1 - 1) (by lia))
        rw [R_at hy'] at this
        lia
       obtain ⟨x2, hx2, mx2⟩ := mem_at ma (i := na - 1) (by lia)
       walk_at "z10"
       rw [hx1] at hx2
       cases hx2
       have mC := mB.pA' hna sa sb hx1 (fun y' h1' hy' => hlt2 y' hy')
       walk_at "z28"
       ·walk_at "z6"
       have c1' : ¬ na - 1 = 0 := by simpa using c1
       walk_at "z2"
       ·walk_at "z0"
       ·walk_at "z1"
    ·refine wpS_bind (wpS_setMin fun st3 gs3 => ?_)
     have gs2 := gs.trans gs3
     have hk2 : kindOf st3 = k0 := gs2.kd.trans hk
     have qa := m.la
     have qb := m.lb
     obtain ⟨y, hy, my⟩ := mem_at mb (i := nb - 1) (by lia)
     refine wpS_bind (wpS_elem hy ?_)
     refine wpS_bind (wpS_gallop (base := 0) hL hk2 my (fun i hi => by rw [Nat.zero_add]; exact mem_at ma (by lia)) (sa.inn (by lia)) (by lia) fun k i1 i2 i3 => ?_)
     simp only [Nat.zero_add] at i2 i3
     dsimp only
     have mA := m.tA (k := k) i1 sa (fun z hz y' hy' => by
      walk_at "z27"
      have := bey_ff.mp (i3 (k + j) (by lia) (by lia))
      rw [R_at e] at this
      have := sb.upto' (by lia) hy hy'
      lia)
     refine wpS_ite (fun kp => ?_) (fun kp => ?_)
     ·refine wpS_ite (fun c3 => ?_) (fun c3 => ?_)
      ·exact wpS_pure ⟨gs2, .inl ⟨_, _, rfl, mA.done sa sb (.inl (by simpa using c3))⟩⟩
      have c3' : ¬ k = 0 := by simpa using c3
      have hna : 1 ≤ k := by lia
      have hgt : ∀ x, a[k - 1]? = some x → ρ x ≤ ρ y := fun x hx => by
       have := bey_f.mp (i2 (k - 1) (by lia))
       rw [R_at hx] at this
       exact this
      obtain ⟨y1, hy1, my1⟩ := mem_at mb (i := nb - 1) (by lia)
      refine wpS_bind (wpS_elem hy1 ?_)
      rw [hy] at hy1
      cases hy1
      have mB := mA.pB' (by lia) sa sb hy (fun x _ hx => hgt x hx)
      refine wpS_ite (fun c0 => ?_) (fun c0 => ?_)
      ·have c0' : nb - 1 = 1 := by simpa using c0
       walk_at "z33"
      have c0' : ¬ nb - 1 = 1 := by simpa using c0
      obtain ⟨x1, hx1, mx1⟩ := mem_at ma (i := k - 1) (by lia)
      refine wpS_bind (wpS_elem hx1 ?_)
      walk_at "z5"
      simp only [Nat.zero_add] at j2 j3
      dsimp only
      have mB2 := mB.tB (k := k') (by lia) sb (fun z hz y' hy' => by
       walk_at "z27"
       have := bey_tf.mp (j3 (k' + j) (by lia) (by lia))
       rw [R_at e] at this
       have := sa.upto' hna hx1 hy'
       lia)
      refine wpS_ite (fun k0' => ?_) (fun k0' => ?_)
      ·refine wpS_ite (fun c2 => ?_) (fun c2 => ?_)
       ·have c2' : k' = 1 := by simpa using c2
        walk_at "z32"
       have c2' : ¬ k' = 1 := by simpa using c2
       refine wpS_ite (fun c5 => ?_) (fun c5 => ?_)
       ·walk_at "z36"
       have c5' : ¬ k' = 0 := by simpa using c5
       have lib2 : 2 ≤ k' := by lia
       have hlt2 : ∀ y', b[k' - 1]? = some y' → ρ y' ≤ ρ x1 := fun y' hy' => by
        have := bey_t.mp (j2 (k' - 1) (by lia))
        rw [R_at hy'] at this
        lia
       obtain ⟨x2, hx2, mx2⟩ := mem_at ma (i := k - 1) (by lia)
       walk_at "z10"
       rw [hx1] at hx2
       cases hx2
       have mC := mB2.pA' hna sa sb hx1 (fun y' h1' hy' => hlt2 y' hy')
       walk_at "z28"
       ·walk_at "z6"
       have c1' : ¬ k - 1 = 0 := by simpa using c1
       walk_at "z2"
       ·walk_at "z0"
       ·walk_at "z1"
      ·have k0'' : k' = nb - 1 := by lia
       have lib2 : 2 ≤ nb - 1 := by lia
       have hlt2 : ∀ y', b[nb - 1 - 1]? = some y' → ρ y' ≤ ρ x1 := fun y' hy' => by
        have := bey_t.mp (j2 (nb - 1 - 1) (by lia))
        rw [R_at hy'] at this
        lia
       obtain ⟨x2, hx2, mx2⟩ := mem_at ma (i := k - 1) (by lia)
       walk_at "z10"
       rw [hx1] at hx2
       cases hx2
       have mC := mB.pA' hna sa sb hx1 (fun y' h1' hy' => hlt2 y' hy')
       walk_at "z28"
       ·walk_at "z6"
       have c1' : ¬ k - 1 = 0 := by simpa using c1
       walk_at "z2"
       ·walk_at "z0"
       ·walk_at "z1"
     ·have kp' : k = na := by lia
      have hna : 1 ≤ na := lA
      have hgt : ∀ x, a[na - 1]? = some x → ρ x ≤ ρ y := fun x hx => by
       have := bey_f.mp (i2 (na - 1) (by lia))
       rw [R_at hx] at this
       exact this
      obtain ⟨y1, hy1, my1⟩ := mem_at mb (i := nb - 1) (by lia)
      refine wpS_bind (wpS_elem hy1 ?_)
      rw [hy] at hy1
      cases hy1
      have mB := m.pB' (by lia) sa sb hy (fun x _ hx => hgt x hx)
      refine wpS_ite (fun c0 => ?_) (fun c0 => ?_)
      ·have c0' : nb - 1 = 1 := by simpa using c0
       walk_at "z33"
      have c0' : ¬ nb - 1 = 1 := by simpa using c0
      obtain ⟨x1, hx1, mx1⟩ := mem_at ma (i := na - 1) (by lia)
      refine wpS_bind (wpS_elem hx1 ?_)
      walk_at "z5"
      simp only [Nat.zero_add] at j2 j3
      dsimp only
      have mB2 := mB.tB (k := k') (by lia) sb (fun z hz y' hy' => by
       walk_at "z27"
       have := bey_tf.mp (j3 (k' + j) (by lia) (by lia))
       rw [R_at e] at this
       have := sa.upto' hna hx1 hy'
       lia)
      refine wpS_ite (fun k0' => ?_) (fun k0' => ?_)
      ·refine wpS_ite (fun c2 => ?_) (fun c2 => ?_)
       ·have c2' : k' = 1 := by simpa using c2
        walk_at "z32"
       have c2' : ¬ k' = 1 := by simpa using c2
       refine wpS_ite (fun c5 => ?_) (fun c5 => ?_)
       ·walk_at "z36"
       have c5' : ¬ k' = 0 := by simpa using c5
       have lib2 : 2 ≤ k' := by lia
       have hlt2 : ∀ y', b[k' - 1]? = some y' → ρ y' ≤ ρ x1 := fun y' hy' => by
        have := bey_t.mp (j2 (k' - 1) (by lia))
        rw [R_at hy'] at this
        lia
       obtain ⟨x2, hx2, mx2⟩ := mem_at ma (i := na - 1) (by lia)
       walk_at "z10"
       rw [hx1] at hx2
       cases hx2
       have mC := mB2.pA' hna sa sb hx1 (fun y' h1' hy' => hlt2 y' hy')
       walk_at "z28"
       ·walk_at "z6"
       have c1' : ¬ na - 1 = 0 := by simpa using c1
       walk_at "z2"
       ·walk_at "z0"
       ·walk_at "z1"
      ·have k0'' : k' = nb - 1 := by lia
       have lib2 : 2 ≤ nb - 1 := by lia
       have hlt2 : ∀ y', b[nb - 1 - 1]? = some y' → ρ y' ≤ ρ x1 := fun y' hy' => by
        have := bey_t.mp (j2 (nb - 1 - 1) (by lia))
        rw [R_at hy'] at this
        lia
       obtain ⟨x2, hx2, mx2⟩ := mem_at ma (i := na - 1) (by lia)
       walk_at "z10"
       rw [hx1] at hx2
       cases hx2
       have mC := mB.pA' hna sa sb hx1 (fun y' h1' hy' => hlt2 y' hy')
       walk_at "z28"
       ·walk_at "z6"
       have c1' : ¬ na - 1 = 0 := by simpa using c1
       walk_at "z2"
       ·walk_at "z0"
       ·walk_at "z1"
end
end L2
namespace L2
open PySem PySem.Spec PyProof.Rows
section
variable {prog : Program} {w : World} {A : Around} {E : Value → Shared → Prop} {s : Shared} {a₀ : Array Keyed} {ρ : Keyed → Int} {k0 : SortKind}
structure SB (a₀ : Array Keyed) (k0 : SortKind) (st : SortSt) : Prop where
 pm : (arrOf st).Perm a₀
 kd : kindOf st = k0
 fl : failedOf st = none
theorem SB.size {st : SortSt} (h : SB a₀ k0 st) : (arrOf st).size = a₀.size := h.pm.size_eq
structure Ch (lo hi : Nat) (st st' : SortSt) : Prop where
 kd : kindOf st' = kindOf st
 pe : pendingOf st' = pendingOf st
 fl : failedOf st' = failedOf st
 pm : (arrOf st').Perm (arrOf st)
 ke : ∀ j, j < lo ∨ hi ≤ j → (arrOf st')[j]? = (arrOf st)[j]?
theorem Ch.refl (lo hi : Nat) (st : SortSt) : Ch lo hi st st := ⟨rfl, rfl, rfl, Array.Perm.refl _, fun _ _ => rfl⟩
theorem Ch.trans {lo hi : Nat} {a b c : SortSt} (h : Ch lo hi a b) (h' : Ch lo hi b c) : Ch lo hi a c := ⟨h'.kd.trans h.kd, h'.pe.trans h.pe, h'.fl.trans h.fl, h'.pm.trans h.pm, fun j hj => (h'.ke j hj).trans (h.ke j hj)⟩
theorem Ch.sb {lo hi : Nat} {st st' : SortSt} (h : Ch lo hi st st') (b : SB a₀ k0 st) : SB a₀ k0 st' := ⟨h.pm.trans b.pm, h.kd.trans b.kd, h.fl.trans b.fl⟩
theorem SB.at_ {st : SortSt} (h : SB a₀ k0 st) {i : Nat} (hi : i < a₀.size) : ∃ x, (arrOf st)[i]? = some x ∧ x ∈ a₀.toList := by
 have hi' : i < (arrOf st).size := by rw [h.size]; exact hi
 exact ⟨(arrOf st)[i], Array.getElem?_eq_getElem hi', (Array.perm_iff_toList_perm.mp h.pm).mem_iff.mp (by simp)⟩
theorem wpS_ltR (hL : LtBy prog w A s k0 ρ a₀) {st : SortSt} {i j : Nat} {Q : Option Bool → SortSt → Prop} (hB : SB a₀ k0 st) (hi : i < a₀.size) (hj : j < a₀.size) (h : Q (some (decide (R ρ (arrOf st) i < R ρ (arrOf st) j))) st) : wpS (model prog w) A E s (ltAt' i j) Q st := by
 obtain ⟨x, hx, mx⟩ := hB.at_ hi
 obtain ⟨y, hy, my⟩ := hB.at_ hj
 rw [R_at hx, R_at hy] at h
 rw [ltAt'_eq]
 refine wpS_bind (wpS_get ?_)
 exact wpS_bind (wpS_elem hx (wpS_bind (wpS_elem hy (hL hB.kd mx my h))))
theorem R_mirror {xs : Array Keyed} {i j : Nat} (hj : j ≤ xs.size) (k : Nat) : R ρ (mirror xs i j ((j - i) / 2)) k = if i ≤ k ∧ k < j then R ρ xs (i + j - 1 - k) else R ρ xs k := by
 unfold R
 rw [getElem?_mirror_all hj]
 split <;> rfl
theorem ch_mirror {st : SortSt} {lo hi i j : Nat} (h1 : lo ≤ i) (h2 : j ≤ hi) (hj : j ≤ (arrOf st).size) : Ch lo hi st (setArr st (mirror (arrOf st) i j ((j - i) / 2))) :=
 ⟨rfl, rfl, rfl, mirror_perm _ _ _ _, fun k hk => by
  show (mirror (arrOf st) i j ((j - i) / 2))[k]? = _
  rw [getElem?_mirror_all hj, if_neg (by lia)]⟩
def NonIn (ρ : Keyed → Int) (xs : Array Keyed) (lo hi : Nat) : Prop := ∀ i j, lo ≤ i → i ≤ j → j < hi → R ρ xs j ≤ R ρ xs i
theorem wpS_countR (hL : LtBy prog w A s k0 ρ a₀) {st : SortSt} {lo nrem : Nat} {Q : Option Nat → SortSt → Prop} (hn : lo + nrem ≤ a₀.size) (h1 : 1 ≤ nrem) (hB : SB a₀ k0 st)
 (h : ∀ m st', Ch lo (lo + nrem) st st' → 1 ≤ m → m ≤ nrem → SortedIn ρ (arrOf st') lo (lo + m) → Q (some m) st') : wpS (model prog w) A E s (countRun' lo nrem) Q st := by
 have hs1 : SortedIn ρ (arrOf st) lo (lo + 1) := fun i j h1 h2 h3 => by rw [show j = i by lia]; exact Int.le_refl _
 rw [countRun'_eq]
 dsimp only
 refine wpS_bind (wpS_mono (wpS_forRange (I := fun x c st' => st = st' ∧ c = (none, x) ∧ SortedIn ρ (arrOf st) lo (lo + x))
  (Q := fun c st' => st = st' ∧ ∃ mm, c = (none, mm) ∧ 1 ≤ mm ∧ mm ≤ nrem ∧ SortedIn ρ (arrOf st) lo (lo + mm) ∧ (mm = nrem ∨ R ρ (arrOf st) (lo + mm) < R ρ (arrOf st) (lo + mm - 1))) ?_ ?_ ⟨rfl, rfl, hs1⟩) ?_)
 ·rintro x c st' hax hxn ⟨rfl, rfl, hs'⟩
  dsimp only
  walk_at "z34"
  by_cases hless : R ρ (arrOf st) (lo + x) < R ρ (arrOf st) (lo + x - 1)
  ·simp only [hless, decide_true, if_true]
   walk_at "z41"
  ·walk_at "z13"
   refine wpS_pure ⟨rfl, rfl, fun i j h1 h2 h3 => ?_⟩
   by_cases hj : j < lo + x
   ·exact hs' i j h1 h2 hj
   ·have hj' : j = lo + x := by lia
    subst hj'
    by_cases hi : i = lo + x
    ·subst hi; exact Int.le_refl _
    ·walk_at "z24"
 ·rintro c st' ⟨rfl, rfl, hs'⟩
  rw [show max 1 nrem = nrem by lia] at hs' ⊢
  walk_at "z40"
 ·rintro c _ ⟨rfl, n, rfl, hn1, hn2, hs1, hend⟩
  dsimp only
  refine wpS_ite (fun g => ?_) (fun g => ?_)
  ·exact wpS_pure (h n _ (Ch.refl _ _ _) hn1 hn2 hs1)
  have g' : ¬ n = nrem := by simpa using g
  have hlt : R ρ (arrOf st) (lo + n) < R ρ (arrOf st) (lo + n - 1) := hend.resolve_left g'
  refine wpS_ite (fun g2 => ?_) (fun g2 => ?_)
  ·refine wpS_bind (wpS_ltR hL hB (by lia) (by lia) ?_)
   by_cases hrose : R ρ (arrOf st) lo < R ρ (arrOf st) (lo + n - 1)
   ·simp only [hrose, decide_true, if_true]
    exact wpS_pure (h n _ (Ch.refl _ _ _) hn1 hn2 hs1)
   ·simp only [hrose, decide_false, Bool.false_eq_true, if_false]
    have hall : ∀ k, lo ≤ k → k < lo + n → R ρ (arrOf st) k = R ρ (arrOf st) lo := fun k h1 h2 => by
     have := hs1 lo k (Nat.le_refl _) h1 h2
     have := hs1 k (lo + n - 1) h1 (by lia) (by lia)
     lia
    refine wpS_bind (wpS_reverse ?_)
    have hsz : lo + n ≤ (arrOf st).size := by rw [hB.size]; lia
    have hch0 := ch_mirror (st := st) (lo := lo) (hi := lo + nrem) (i := lo) (j := lo + n) (Nat.le_refl _) (by lia) hsz
    have hB0 := hch0.sb hB
    have hR : ∀ k, R ρ (mirror (arrOf st) lo (lo + n) ((lo + n - lo) / 2)) k = R ρ (arrOf st) k := fun k => by
     rw [R_mirror hsz]
     split
     ·rw [hall _ (by lia) (by lia), hall k (by lia) (by lia)]
     ·rfl
    have hN0 : NonIn ρ (arrOf (setArr st (mirror (arrOf st) lo (lo + n) ((lo + n - lo) / 2)))) lo (lo + (n + 1)) := fun i j h1 h2 h3 => by
     show R ρ (mirror (arrOf st) _ _ _) j ≤ R ρ (mirror (arrOf st) _ _ _) i
     rw [hR, hR]
     have e1 := hall (lo + n - 1) (by lia) (by lia)
     by_cases hi : i < lo + n
     ·rw [hall i h1 hi]
      by_cases hj : j < lo + n
      ·rw [hall j (by lia) hj]; exact Int.le_refl _
      ·rw [show j = lo + n by lia]; lia
     ·rw [show j = i by lia]; exact Int.le_refl _
    generalize setArr st (mirror (arrOf st) lo (lo + n) ((lo + n - lo) / 2)) = st0 at hch0 hB0 hN0 ⊢
    walk_at "z31"
    refine wpS_bind (wpS_mono (wpS_forRange (I := fun x c st' => ∃ q, c = (none, x, q) ∧ Ch lo (lo + nrem) st st' ∧ SB a₀ k0 st' ∧ NonIn ρ (arrOf st') lo (lo + x) ∧ q + 1 ≤ x ∧ ∀ i, lo + x - (q + 1) ≤ i → i < lo + x → R ρ (arrOf st') i = R ρ (arrOf st') (lo + x - 1))
     (Q := fun c st' => ∃ m q, c = (none, m, q) ∧ m ≤ nrem ∧ n + 1 ≤ m ∧ Ch lo (lo + nrem) st st' ∧ SB a₀ k0 st' ∧ NonIn ρ (arrOf st') lo (lo + m) ∧ q + 1 ≤ m ∧ ∀ i, lo + m - (q + 1) ≤ i → i < lo + m → R ρ (arrOf st') i = R ρ (arrOf st') (lo + m - 1)) ?_ ?_ ⟨0, rfl, hch0, hB0, hN0, by lia, fun i h1 h2 => by congr 1; lia⟩) ?_)
    ·rintro x c st' hax hxn ⟨q, rfl, hch, hB', hN', hq, heq⟩
     dsimp only
     refine wpS_bind (wpS_ltR hL hB' (by lia) (by lia) ?_)
     by_cases hless : R ρ (arrOf st') (lo + x) < R ρ (arrOf st') (lo + x - 1)
     ·simp only [hless, decide_true, if_true]
      refine wpS_ite (fun hq0 => ?_) (fun hq0 => ?_)
      ·refine wpS_bind (wpS_reverse ?_)
       have hsz : lo + x ≤ (arrOf st').size := by rw [hB'.size]; lia
       have hch' := ch_mirror (st := st') (lo := lo) (hi := lo + nrem) (i := lo + x - (q + 1)) (j := lo + x) (by lia) (by lia) hsz
       have hR : ∀ k, R ρ (mirror (arrOf st') (lo + x - (q + 1)) (lo + x) ((lo + x - (lo + x - (q + 1))) / 2)) k = R ρ (arrOf st') k := fun k => by
        rw [R_mirror hsz]
        split
        ·rw [heq _ (by lia) (by lia), heq k (by lia) (by lia)]
        ·rfl
       refine wpS_pure ⟨0, rfl, hch.trans hch', hch'.sb hB', fun i j h1 h2 h3 => ?_, by lia, fun i h1 h2 => by congr 1; lia⟩
       show R ρ (mirror (arrOf st') _ _ _) j ≤ R ρ (mirror (arrOf st') _ _ _) i
       rw [hR, hR]
       by_cases hj : j < lo + x
       ·exact hN' i j h1 h2 hj
       ·have : j = lo + x := by lia
        subst this
        by_cases hi : i = lo + x
        ·subst hi; exact Int.le_refl _
        ·walk_at "z38"
      ·refine wpS_pure ⟨0, rfl, hch, hB', fun i j h1 h2 h3 => ?_, by lia, fun i h1 h2 => by congr 1; lia⟩
       by_cases hj : j < lo + x
       ·exact hN' i j h1 h2 hj
       ·have : j = lo + x := by lia
        subst this
        by_cases hi : i = lo + x
        ·subst hi; exact Int.le_refl _
        ·walk_at "z38"
     ·walk_at "z13"
      refine wpS_bind (wpS_ltR hL hB' (by lia) (by lia) ?_)
      by_cases hgr : R ρ (arrOf st') (lo + x - 1) < R ρ (arrOf st') (lo + x)
      ·simp only [hgr, decide_true, if_true]
       exact wpS_pure ⟨x, q, rfl, by lia, by lia, hch, hB', hN', hq, heq⟩
      ·simp only [hgr, decide_false, Bool.false_eq_true, if_false]
       have hee : R ρ (arrOf st') (lo + x) = R ρ (arrOf st') (lo + x - 1) := by lia
       refine wpS_pure ⟨q + 1, rfl, hch, hB', fun i j h1 h2 h3 => ?_, by lia, fun i h1 h2 => ?_⟩
       ·by_cases hj : j < lo + x
        ·exact hN' i j h1 h2 hj
        ·have : j = lo + x := by lia
         subst this
         by_cases hi : i = lo + x
         ·subst hi; exact Int.le_refl _
         ·walk_at "z38"
       ·rw [show lo + (x + 1) - 1 = lo + x by lia, hee]
        by_cases hi : i = lo + x
        ·subst hi; exact hee
        ·exact heq i (by lia) (by lia)
    ·rintro c st' ⟨q, rfl, hch, hB', hN', hq, heq⟩
     rw [show max (n + 1) nrem = nrem by lia] at hN' hq heq ⊢
     exact ⟨nrem, q, rfl, Nat.le_refl _, by lia, hch, hB', hN', hq, heq⟩
    ·rintro c st2 ⟨m, q, rfl, hm1, hm2, hch, hB', hN', hq, heq⟩
     dsimp only
     refine wpS_ite (fun hq0 => ?_) (fun hq0 => ?_)
     ·refine wpS_bind (wpS_reverse ?_)
      have hsz : lo + m ≤ (arrOf st2).size := by rw [hB'.size]; lia
      have hch' := ch_mirror (st := st2) (lo := lo) (hi := lo + nrem) (i := lo + m - (q + 1)) (j := lo + m) (by lia) (by lia) hsz
      have hR : ∀ k, R ρ (mirror (arrOf st2) (lo + m - (q + 1)) (lo + m) ((lo + m - (lo + m - (q + 1))) / 2)) k = R ρ (arrOf st2) k := fun k => by
       rw [R_mirror hsz]
       split
       ·rw [heq _ (by lia) (by lia), heq k (by lia) (by lia)]
       ·rfl
      have hch3 := hch.trans hch'
      have hB3 := hch'.sb hB'
      have hN3 : NonIn ρ (arrOf (setArr st2 (mirror (arrOf st2) (lo + m - (q + 1)) (lo + m) ((lo + m - (lo + m - (q + 1))) / 2)))) lo (lo + m) := fun i j h1 h2 h3 => by
       show R ρ (mirror (arrOf st2) _ _ _) j ≤ R ρ (mirror (arrOf st2) _ _ _) i
       rw [hR, hR]
       exact hN' i j h1 h2 h3
      generalize setArr st2 (mirror (arrOf st2) (lo + m - (q + 1)) (lo + m) ((lo + m - (lo + m - (q + 1))) / 2)) = st3 at hch3 hB3 hN3 ⊢
      refine wpS_bind (wpS_reverse ?_)
      have hsz4 : lo + m ≤ (arrOf st3).size := by rw [hB3.size]; lia
      walk_at "z17"
      have hB4 := hch4.sb hB3
      have hs4 : SortedIn ρ (arrOf (setArr st3 (mirror (arrOf st3) lo (lo + m) ((lo + m - lo) / 2)))) lo (lo + m) := fun i j h1 h2 h3 => by
       walk_at "z12"
       rw [R_mirror hsz4, R_mirror hsz4, if_pos (by lia), if_pos (by lia)]
       exact hN3 _ _ (by lia) (by lia) (by lia)
      walk_at "z26"
      refine wpS_bind (wpS_mono (wpS_forRange (I := fun x c st' => Y4 = st' ∧ c = (none, x) ∧ SortedIn ρ (arrOf Y4) lo (lo + x))
       (Q := fun c st' => Y4 = st' ∧ ∃ mm, c = (none, mm) ∧ m ≤ mm ∧ mm ≤ nrem ∧ SortedIn ρ (arrOf Y4) lo (lo + mm) ∧ (mm = nrem ∨ R ρ (arrOf Y4) (lo + mm) < R ρ (arrOf Y4) (lo + mm - 1))) ?_ ?_ ⟨rfl, rfl, hs4⟩) ?_)
      ·rintro x c st' hax hxn ⟨rfl, rfl, hs'⟩
       dsimp only
       walk_at "z34"
       by_cases hless : R ρ (arrOf Y4) (lo + x) < R ρ (arrOf Y4) (lo + x - 1)
       ·simp only [hless, decide_true, if_true]
        walk_at "z41"
       ·walk_at "z13"
        refine wpS_pure ⟨rfl, rfl, fun i j h1 h2 h3 => ?_⟩
        by_cases hj : j < lo + x
        ·exact hs' i j h1 h2 hj
        ·have hj' : j = lo + x := by lia
         subst hj'
         by_cases hi : i = lo + x
         ·subst hi; exact Int.le_refl _
         ·walk_at "z24"
      ·rintro c st' ⟨rfl, rfl, hs'⟩
       rw [show max m nrem = nrem by lia] at hs' ⊢
       walk_at "z40"
      ·rintro c st4 ⟨rfl, mm, rfl, hn1', hn2', hn3', _⟩
       dsimp only
       exact wpS_pure (h mm _ (hch3.trans hch4) (by lia) hn2' hn3')
     ·have hch3 := hch
      have hB3 := hB'
      have hN3 := hN'
      generalize st2 = st3 at hch3 hB3 hN3 ⊢
      refine wpS_bind (wpS_reverse ?_)
      have hsz4 : lo + m ≤ (arrOf st3).size := by rw [hB3.size]; lia
      walk_at "z17"
      have hB4 := hch4.sb hB3
      have hs4 : SortedIn ρ (arrOf (setArr st3 (mirror (arrOf st3) lo (lo + m) ((lo + m - lo) / 2)))) lo (lo + m) := fun i j h1 h2 h3 => by
       walk_at "z12"
       rw [R_mirror hsz4, R_mirror hsz4, if_pos (by lia), if_pos (by lia)]
       exact hN3 _ _ (by lia) (by lia) (by lia)
      walk_at "z26"
      refine wpS_bind (wpS_mono (wpS_forRange (I := fun x c st' => Y4 = st' ∧ c = (none, x) ∧ SortedIn ρ (arrOf Y4) lo (lo + x))
       (Q := fun c st' => Y4 = st' ∧ ∃ mm, c = (none, mm) ∧ m ≤ mm ∧ mm ≤ nrem ∧ SortedIn ρ (arrOf Y4) lo (lo + mm) ∧ (mm = nrem ∨ R ρ (arrOf Y4) (lo + mm) < R ρ (arrOf Y4) (lo + mm - 1))) ?_ ?_ ⟨rfl, rfl, hs4⟩) ?_)
      ·rintro x c st' hax hxn ⟨rfl, rfl, hs'⟩
       dsimp only
       walk_at "z34"
       by_cases hless : R ρ (arrOf Y4) (lo + x) < R ρ (arrOf Y4) (lo + x - 1)
       ·simp only [hless, decide_true, if_true]
        walk_at "z41"
       ·walk_at "z13"
        refine wpS_pure ⟨rfl, rfl, fun i j h1 h2 h3 => ?_⟩
        by_cases hj : j < lo + x
        ·exact hs' i j h1 h2 hj
        ·have hj' : j = lo + x := by lia
         subst hj'
         by_cases hi : i = lo + x
         ·subst hi; exact Int.le_refl _
         ·walk_at "z24"
      ·rintro c st' ⟨rfl, rfl, hs'⟩
       rw [show max m nrem = nrem by lia] at hs' ⊢
       walk_at "z40"
      ·rintro c st4 ⟨rfl, mm, rfl, hn1', hn2', hn3', _⟩
       dsimp only
       exact wpS_pure (h mm _ (hch3.trans hch4) (by lia) hn2' hn3')
  ·have hn : n = 1 := by lia
   subst hn
   have hN0 : NonIn ρ (arrOf st) lo (lo + (1 + 1)) := fun i j h1 h2 h3 => by
    by_cases hi : i = lo
    ·by_cases hj : j = lo
     ·subst hi; subst hj; exact Int.le_refl _
     ·rw [hi, show j = lo + 1 by lia]
      rw [show lo + 1 - 1 = lo by lia] at hlt
      lia
    ·rw [show j = i by lia]; exact Int.le_refl _
   have hch0 := Ch.refl lo (lo + nrem) st
   have hB0 := hB
   walk_at "z31"
   refine wpS_bind (wpS_mono (wpS_forRange (I := fun x c st' => ∃ q, c = (none, x, q) ∧ Ch lo (lo + nrem) st st' ∧ SB a₀ k0 st' ∧ NonIn ρ (arrOf st') lo (lo + x) ∧ q + 1 ≤ x ∧ ∀ i, lo + x - (q + 1) ≤ i → i < lo + x → R ρ (arrOf st') i = R ρ (arrOf st') (lo + x - 1))
    (Q := fun c st' => ∃ m q, c = (none, m, q) ∧ m ≤ nrem ∧ 1 + 1 ≤ m ∧ Ch lo (lo + nrem) st st' ∧ SB a₀ k0 st' ∧ NonIn ρ (arrOf st') lo (lo + m) ∧ q + 1 ≤ m ∧ ∀ i, lo + m - (q + 1) ≤ i → i < lo + m → R ρ (arrOf st') i = R ρ (arrOf st') (lo + m - 1)) ?_ ?_ ⟨0, rfl, hch0, hB0, hN0, by lia, fun i h1 h2 => by congr 1; lia⟩) ?_)
   ·rintro x c st' hax hxn ⟨q, rfl, hch, hB', hN', hq, heq⟩
    dsimp only
    refine wpS_bind (wpS_ltR hL hB' (by lia) (by lia) ?_)
    by_cases hless : R ρ (arrOf st') (lo + x) < R ρ (arrOf st') (lo + x - 1)
    ·simp only [hless, decide_true, if_true]
     refine wpS_ite (fun hq0 => ?_) (fun hq0 => ?_)
     ·refine wpS_bind (wpS_reverse ?_)
      have hsz : lo + x ≤ (arrOf st').size := by rw [hB'.size]; lia
      have hch' := ch_mirror (st := st') (lo := lo) (hi := lo + nrem) (i := lo + x - (q + 1)) (j := lo + x) (by lia) (by lia) hsz
      have hR : ∀ k, R ρ (mirror (arrOf st') (lo + x - (q + 1)) (lo + x) ((lo + x - (lo + x - (q + 1))) / 2)) k = R ρ (arrOf st') k := fun k => by
       rw [R_mirror hsz]
       split
       ·rw [heq _ (by lia) (by lia), heq k (by lia) (by lia)]
       ·rfl
      refine wpS_pure ⟨0, rfl, hch.trans hch', hch'.sb hB', fun i j h1 h2 h3 => ?_, by lia, fun i h1 h2 => by congr 1; lia⟩
      show R ρ (mirror (arrOf st') _ _ _) j ≤ R ρ (mirror (arrOf st') _ _ _) i
      rw [hR, hR]
      by_cases hj : j < lo + x
      ·exact hN' i j h1 h2 hj
      ·have : j = lo + x := by lia
       subst this
       by_cases hi : i = lo + x
       ·subst hi; exact Int.le_refl _
       ·walk_at "z38"
     ·refine wpS_pure ⟨0, rfl, hch, hB', fun i j h1 h2 h3 => ?_, by lia, fun i h1 h2 => by congr 1; lia⟩
      by_cases hj : j < lo + x
      ·exact hN' i j h1 h2 hj
      ·have : j = lo + x := by lia
       subst this
       by_cases hi : i = lo + x
       ·subst hi; exact Int.le_refl _
       ·walk_at "z38"
    ·walk_at "z13"
     refine wpS_bind (wpS_ltR hL hB' (by lia) (by lia) ?_)
     by_cases hgr : R ρ (arrOf st') (lo + x - 1) < R ρ (arrOf st') (lo + x)
     ·simp only [hgr, decide_true, if_true]
      exact wpS_pure ⟨x, q, rfl, by lia, by lia, hch, hB', hN', hq, heq⟩
     ·simp only [hgr, decide_false, Bool.false_eq_true, if_false]
      have hee : R ρ (arrOf st') (lo + x) = R ρ (arrOf st') (lo + x - 1) := by lia
      refine wpS_pure ⟨q + 1, rfl, hch, hB', fun i j h1 h2 h3 => ?_, by lia, fun i h1 h2 => ?_⟩
      ·by_cases hj : j < lo + x
       ·exact hN' i j h1 h2 hj
       ·have : j = lo + x := by lia
        subst this
        by_cases hi : i = lo + x
        ·subst hi; exact Int.le_refl _
        ·walk_at "z38"
      ·rw [show lo + (x + 1) - 1 = lo + x by lia, hee]
       by_cases hi : i = lo + x
       ·subst hi; exact hee
       ·exact heq i (by lia) (by lia)
   ·rintro c st' ⟨q, rfl, hch, hB', hN', hq, heq⟩
    rw [show max (1 + 1) nrem = nrem by lia] at hN' hq heq ⊢
    exact ⟨nrem, q, rfl, Nat.le_refl _, by lia, hch, hB', hN', hq, heq⟩
   ·rintro c st2 ⟨m, q, rfl, hm1, hm2, hch, hB', hN', hq, heq⟩
    dsimp only
    refine wpS_ite (fun hq0 => ?_) (fun hq0 => ?_)
    ·refine wpS_bind (wpS_reverse ?_)
     have hsz : lo + m ≤ (arrOf st2).size := by rw [hB'.size]; lia
     have hch' := ch_mirror (st := st2) (lo := lo) (hi := lo + nrem) (i := lo + m - (q + 1)) (j := lo + m) (by lia) (by lia) hsz
     have hR : ∀ k, R ρ (mirror (arrOf st2) (lo + m - (q + 1)) (lo + m) ((lo + m - (lo + m - (q + 1))) / 2)) k = R ρ (arrOf st2) k := fun k => by
      rw [R_mirror hsz]
      split
      ·rw [heq _ (by lia) (by lia), heq k (by lia) (by lia)]
      ·rfl
     have hch3 := hch.trans hch'
     have hB3 := hch'.sb hB'
     have hN3 : NonIn ρ (arrOf (setArr st2 (mirror (arrOf st2) (lo + m - (q + 1)) (lo + m) ((lo + m - (lo + m - (q + 1))) / 2)))) lo (lo + m) := fun i j h1 h2 h3 => by
      show R ρ (mirror (arrOf st2) _ _ _) j ≤ R ρ (mirror (arrOf st2) _ _ _) i
      rw [hR, hR]
      exact hN' i j h1 h2 h3
     generalize setArr st2 (mirror (arrOf st2) (lo + m - (q + 1)) (lo + m) ((lo + m - (lo + m - (q + 1))) / 2)) = st3 at hch3 hB3 hN3 ⊢
     refine wpS_bind (wpS_reverse ?_)
     have hsz4 : lo + m ≤ (arrOf st3).size := by rw [hB3.size]; lia
     walk_at "z17"
     have hB4 := hch4.sb hB3
     have hs4 : SortedIn ρ (arrOf (setArr st3 (mirror (arrOf st3) lo (lo + m) ((lo + m - lo) / 2)))) lo (lo + m) := fun i j h1 h2 h3 => by
      walk_at "z12"
      rw [R_mirror hsz4, R_mirror hsz4, if_pos (by lia), if_pos (by lia)]
      exact hN3 _ _ (by lia) (by lia) (by lia)
     walk_at "z26"
     refine wpS_bind (wpS_mono (wpS_forRange (I := fun x c st' => Y4 = st' ∧ c = (none, x) ∧ SortedIn ρ (arrOf Y4) lo (lo + x))
      (Q := fun c st' => Y4 = st' ∧ ∃ mm, c = (none, mm) ∧ m ≤ mm ∧ mm ≤ nrem ∧ SortedIn ρ (arrOf Y4) lo (lo + mm) ∧ (mm = nrem ∨ R ρ (arrOf Y4) (lo + mm) < R ρ (arrOf Y4) (lo + mm - 1))) ?_ ?_ ⟨rfl, rfl, hs4⟩) ?_)
     ·rintro x c st' hax hxn ⟨rfl, rfl, hs'⟩
      dsimp only
      walk_at "z34"
      by_cases hless : R ρ (arrOf Y4) (lo + x) < R ρ (arrOf Y4) (lo + x - 1)
      ·simp only [hless, decide_true, if_true]
       walk_at "z41"
      ·walk_at "z13"
       refine wpS_pure ⟨rfl, rfl, fun i j h1 h2 h3 => ?_⟩
       by_cases hj : j < lo + x
       ·exact hs' i j h1 h2 hj
       ·have hj' : j = lo + x := by lia
        subst hj'
        by_cases hi : i = lo + x
        ·subst hi; exact Int.le_refl _
        ·walk_at "z24"
     ·rintro c st' ⟨rfl, rfl, hs'⟩
      rw [show max m nrem = nrem by lia] at hs' ⊢
      walk_at "z40"
     ·rintro c st4 ⟨rfl, mm, rfl, hn1', hn2', hn3', _⟩
      dsimp only
      exact wpS_pure (h mm _ (hch3.trans hch4) (by lia) hn2' hn3')
    ·have hch3 := hch
     have hB3 := hB'
     have hN3 := hN'
     generalize st2 = st3 at hch3 hB3 hN3 ⊢
     refine wpS_bind (wpS_reverse ?_)
     have hsz4 : lo + m ≤ (arrOf st3).size := by rw [hB3.size]; lia
     walk_at "z17"
     have hB4 := hch4.sb hB3
     have hs4 : SortedIn ρ (arrOf (setArr st3 (mirror (arrOf st3) lo (lo + m) ((lo + m - lo) / 2)))) lo (lo + m) := fun i j h1 h2 h3 => by
      walk_at "z12"
      rw [R_mirror hsz4, R_mirror hsz4, if_pos (by lia), if_pos (by lia)]
      exact hN3 _ _ (by lia) (by lia) (by lia)
     walk_at "z26"
     refine wpS_bind (wpS_mono (wpS_forRange (I := fun x c st' => Y4 = st' ∧ c = (none, x) ∧ SortedIn ρ (arrOf Y4) lo (lo + x))
      (Q := fun c st' => Y4 = st' ∧ ∃ mm, c = (none, mm) ∧ m ≤ mm ∧ mm ≤ nrem ∧ SortedIn ρ (arrOf Y4) lo (lo + mm) ∧ (mm = nrem ∨ R ρ (arrOf Y4) (lo + mm) < R ρ (arrOf Y4) (lo + mm - 1))) ?_ ?_ ⟨rfl, rfl, hs4⟩) ?_)
     ·rintro x c st' hax hxn ⟨rfl, rfl, hs'⟩
      dsimp only
      walk_at "z34"
      by_cases hless : R ρ (arrOf Y4) (lo + x) < R ρ (arrOf Y4) (lo + x - 1)
      ·simp only [hless, decide_true, if_true]
       walk_at "z41"
      ·walk_at "z13"
       refine wpS_pure ⟨rfl, rfl, fun i j h1 h2 h3 => ?_⟩
       by_cases hj : j < lo + x
       ·exact hs' i j h1 h2 hj
       ·have hj' : j = lo + x := by lia
        subst hj'
        by_cases hi : i = lo + x
        ·subst hi; exact Int.le_refl _
        ·walk_at "z24"
     ·rintro c st' ⟨rfl, rfl, hs'⟩
      rw [show max m nrem = nrem by lia] at hs' ⊢
      walk_at "z40"
     ·rintro c st4 ⟨rfl, mm, rfl, hn1', hn2', hn3', _⟩
      dsimp only
      exact wpS_pure (h mm _ (hch3.trans hch4) (by lia) hn2' hn3')
end
end L2
namespace L2
open PySem PySem.Spec PyProof.Rows
section
variable {prog : Program} {w : World} {A : Around} {E : Value → Shared → Prop} {s : Shared} {a₀ : Array Keyed} {ρ : Keyed → Int} {k0 : SortKind}
theorem R_bubble {xs : Array Keyed} {src d : Nat} (hs : src < xs.size) (hd : d ≤ src) (k : Nat) : R ρ (bubble xs src d) k = if k = src - d then R ρ xs src else if src - d < k ∧ k ≤ src then R ρ xs (k - 1) else R ρ xs k := by
 unfold R
 rw [getElem?_bubble hs d hd]
 (repeat' split) <;> rfl
theorem wpS_binR (hL : LtBy prog w A s k0 ρ a₀) {st : SortSt} {lo n ok : Nat} {Q : Bool → SortSt → Prop} (hn : lo + n ≤ a₀.size) (hok : ok ≤ n) (hB : SB a₀ k0 st) (hs : SortedIn ρ (arrOf st) lo (lo + ok))
 (h : ∀ st', Ch lo (lo + n) st st' → SortedIn ρ (arrOf st') lo (lo + n) → Q true st') : wpS (model prog w) A E s (binarySort' lo n ok) Q st := by
 rw [binarySort'_eq]
 refine wpS_bind (wpS_mono (wpS_forRange (I := fun k c st' => c = (none, ()) ∧ Ch lo (lo + n) st st' ∧ SortedIn ρ (arrOf st') lo (lo + min k n))
  (Q := fun c st' => c = (none, ()) ∧ Ch lo (lo + n) st st' ∧ SortedIn ρ (arrOf st') lo (lo + n)) ?step ?fin ?init) ?post)
 case post =>
  rintro c st' ⟨rfl, hc, hs'⟩
  exact wpS_pure (h st' hc hs')
 case init =>
  refine ⟨rfl, Ch.refl _ _ _, fun i j h1 h2 h3 => ?_⟩
  by_cases q : ok = 0
  ·rw [show j = i by lia]; exact Int.le_refl _
  ·exact hs i j h1 h2 (by lia)
 case fin =>
  rintro c st' ⟨hc, hch, hs'⟩
  refine ⟨hc, hch, ?_⟩
  rwa [show min (max (max ok 1) n) n = n by lia] at hs'
 case step =>
  rintro k c st' hak hkn ⟨rfl, hch, hs'⟩
  rw [show min k n = k by lia] at hs'
  have hB' := hch.sb hB
  refine wpS_bind (wpS_mono (wpS_forRange (I := fun x c st'' => st' = st'' ∧ ∃ l r, c = (none, l, r) ∧ l ≤ r ∧ r ≤ k ∧ r - l ≤ k - x ∧ (∀ i, i < l → R ρ (arrOf st') (lo + i) ≤ R ρ (arrOf st') (lo + k)) ∧ (∀ i, r ≤ i → i < k → R ρ (arrOf st') (lo + k) < R ρ (arrOf st') (lo + i)))
   (Q := fun c st'' => st' = st'' ∧ ∃ l r, c = (none, l, r) ∧ l ≤ k ∧ (∀ i, i < l → R ρ (arrOf st') (lo + i) ≤ R ρ (arrOf st') (lo + k)) ∧ (∀ i, l ≤ i → i < k → R ρ (arrOf st') (lo + k) < R ρ (arrOf st') (lo + i))) ?istep ?ifin ⟨rfl, 0, k, rfl, by lia, by lia, by lia, fun i hi => by lia, fun i h1 h2 => by lia⟩) ?ipost)
  case ifin =>
   rintro c _ ⟨rfl, l, r, rfl, q1, q2, q3, q4, q5⟩
   exact ⟨rfl, l, r, rfl, by lia, q4, fun i h1 h2 => q5 i (by lia) h2⟩
  case istep =>
   rintro x c _ _ hx ⟨rfl, l, r, rfl, q1, q2, q3, q4, q5⟩
   dsimp only
   refine wpS_ite (fun g => ?_) (fun g => ?_)
   ·exact wpS_pure ⟨rfl, l, r, rfl, by lia, q4, fun i h1 h2 => q5 i (by lia) h2⟩
   ·refine wpS_bind (wpS_ltR hL hB' (by lia) (by lia) ?_)
    by_cases hless : R ρ (arrOf st') (lo + k) < R ρ (arrOf st') (lo + (l + r) / 2)
    ·simp only [hless, decide_true, if_true]
     refine wpS_pure ⟨rfl, l, (l + r) / 2, rfl, by lia, by lia, by lia, q4, fun i h1 h2 => ?_⟩
     have := hs' (lo + (l + r) / 2) (lo + i) (by lia) (by lia) (by lia)
     lia
    ·walk_at "z13"
     refine wpS_pure ⟨rfl, (l + r) / 2 + 1, r, rfl, by lia, by lia, by lia, fun i h1 => ?_, q5⟩
     have := hs' (lo + i) (lo + (l + r) / 2) (by lia) (by lia) (by lia)
     lia
  case ipost =>
   rintro c _ ⟨rfl, l, r, rfl, q1, q4, q5⟩
   dsimp only
   rw [moveDown'_eq]
   have hsz : lo + k < (arrOf st').size := by rw [hB'.size]; lia
   have hd : lo + k - (lo + l) ≤ lo + k := by lia
   refine wpS_bind (wpS_modify (wpS_pure ⟨rfl, hch.trans ⟨rfl, rfl, rfl, bubble_perm _ _ _, fun j hj => ?_⟩, fun i j h1 h2 h3 => ?_⟩))
   ·show (bubble (arrOf st') (lo + k) (lo + k - (lo + l)))[j]? = _
    rw [getElem?_bubble hsz _ hd, if_neg (by lia), if_neg (by lia)]
   ·show R ρ (bubble (arrOf st') (lo + k) (lo + k - (lo + l))) i ≤ R ρ (bubble (arrOf st') (lo + k) (lo + k - (lo + l))) j
    rw [show min (k + 1) n = k + 1 by lia] at h3
    rw [R_bubble hsz hd, R_bubble hsz hd]
    have f4 : ∀ p, lo ≤ p → p < lo + l → R ρ (arrOf st') p ≤ R ρ (arrOf st') (lo + k) := fun p a1 a2 => by
     have := q4 (p - lo) (by lia)
     rwa [show lo + (p - lo) = p by lia] at this
    have f5 : ∀ p, lo + l ≤ p → p < lo + k → R ρ (arrOf st') (lo + k) ≤ R ρ (arrOf st') p := fun p a1 a2 => by
     have := q5 (p - lo) (by lia) (by lia)
     rw [show lo + (p - lo) = p by lia] at this
     lia
    repeat' split
    all_goals first
     | (exfalso; lia)
     | exact Int.le_refl _
     | exact f4 _ (by lia) (by lia)
     | exact f5 _ (by lia) (by lia)
     | exact hs' _ _ (by lia) (by lia) (by lia)
theorem laid_l (s0 : Nat) : ∀ (l : List Keyed) (n : Nat) (arr : Array Keyed), s0 + n + l.length ≤ arr.size → ((l.zipIdx n).foldl (fun a p => a.setIfInBounds (s0 + p.2) p.1) arr).toList = arr.toList.take (s0 + n) ++ l ++ arr.toList.drop (s0 + n + l.length)
 | [], n, arr, h => by simp
 | x :: l, n, arr, h => by
   rw [List.zipIdx_cons, List.foldl_cons, laid_l s0 l (n + 1) _ (by simp at h ⊢; lia)]
   have hn : s0 + n < arr.size := by simp at h; lia
   rw [Array.toList_setIfInBounds, show s0 + (n + 1) = (s0 + n) + 1 by lia, List.take_add_one, List.getElem?_set_self (by simpa using hn), List.take_set_of_le (Nat.le_refl _), List.drop_set_of_lt (by lia)]
   simp only [Option.toList_some, List.length_cons, List.append_assoc, List.singleton_append, List.cons_append, List.nil_append]
   rw [show s0 + n + 1 + l.length = s0 + n + (l.length + 1) by lia]
theorem SortedIn.ls {xs : Array Keyed} {lo hi : Nat} (h : SortedIn ρ xs lo hi) (hh : hi ≤ xs.size) : Ls ρ (xs.extract lo hi).toList := by
 unfold Ls
 rw [ext_l, List.pairwise_iff_getElem]
 intro i j hi' hj' hij
 simp only [List.length_take, List.length_drop, Array.length_toList] at hi' hj'
 have e : ∀ (p : Nat) (hp : p < ((xs.toList.drop lo).take (hi - lo)).length), ρ ((xs.toList.drop lo).take (hi - lo))[p] = R ρ xs (lo + p) := fun p hp => by
  simp only [List.length_take, List.length_drop, Array.length_toList] at hp
  rw [R_at (x := xs[lo + p]'(by lia)) (Array.getElem?_eq_getElem (by lia)), List.getElem_take, List.getElem_drop]
  simp
 rw [e i (by simp; lia), e j (by simp; lia)]
 exact h _ _ (by lia) (by lia) (by lia)
theorem ext_mem {xs : Array Keyed} {lo hi : Nat} {x : Keyed} (h : x ∈ (xs.extract lo hi).toList) : ∃ p, lo ≤ p ∧ p < hi ∧ xs[p]? = some x := by
 rw [ext_l] at h
 obtain ⟨j, hj, e⟩ := mem_win h
 exact ⟨lo + j, by lia, by lia, e⟩
theorem ext_at {xs : Array Keyed} {lo hi i : Nat} (h : lo + i < hi) (hh : hi ≤ xs.size) : (xs.extract lo hi)[i]? = xs[lo + i]? := by
 rw [Array.getElem?_extract, if_pos (by lia)]
theorem ext_size {xs : Array Keyed} {lo hi : Nat} (hh : hi ≤ xs.size) : (xs.extract lo hi).size = hi - lo := by
 rw [Array.size_extract, Nat.min_eq_left hh]
theorem merged_ok {arr r : Array Keyed} {sa sb k k' nb : Nat} (h1 : sa + k < sb) (h2 : k' ≤ nb) (h3 : sb + nb ≤ arr.size) (s1 : SortedIn ρ arr sa sb) (s2 : SortedIn ρ arr sb (sb + nb)) (hr : RS ρ (arr.extract (sa + k) sb) (arr.extract sb (sb + k')) r)
 (hk2 : ∀ i, i < k → R ρ arr (sa + i) ≤ R ρ arr sb) (hk3 : ∀ i, k' ≤ i → i < nb → R ρ arr (sb - 1) ≤ R ρ arr (sb + i)) (hnb : 1 ≤ nb) :
 ((r.toList.zipIdx).foldl (fun a p => a.setIfInBounds (sa + k + p.2) p.1) arr).Perm arr ∧ (∀ j, j < sa + k ∨ sb + k' ≤ j → ((r.toList.zipIdx).foldl (fun a p => a.setIfInBounds (sa + k + p.2) p.1) arr)[j]? = arr[j]?) ∧ SortedIn ρ ((r.toList.zipIdx).foldl (fun a p => a.setIfInBounds (sa + k + p.2) p.1) arr) sa (sb + nb) := by
 have hrl : r.toList.length = sb + k' - (sa + k) := by
  rw [hr.1.length_eq, List.length_append, Array.length_toList, Array.length_toList, ext_size (by lia), ext_size (by lia)]
  lia
 have hl := laid_l (sa + k) r.toList 0 arr (by lia)
 rw [Nat.add_zero, hrl, show sa + k + (sb + k' - (sa + k)) = sb + k' by lia] at hl
 generalize (r.toList.zipIdx).foldl (fun a p => a.setIfInBounds (sa + k + p.2) p.1) arr = new at hl ⊢
 have hat : ∀ j, new[j]? = if sa + k ≤ j ∧ j < sb + k' then r[j - (sa + k)]? else arr[j]? := fun j => by
  rw [← Array.getElem?_toList, hl]
  by_cases q1 : j < sa + k
  ·rw [if_neg (by lia), List.append_assoc, List.getElem?_append_left (by simp; lia), List.getElem?_take_of_lt q1, Array.getElem?_toList]
  ·by_cases q2 : j < sb + k'
   ·rw [if_pos (by lia), List.append_assoc, List.getElem?_append_right (by simp; lia), List.getElem?_append_left (by simp at hrl ⊢; lia), Array.getElem?_toList]
    congr 1
    simp; lia
   ·rw [if_neg (by lia), List.getElem?_append_right (by simp at hrl ⊢; lia), List.getElem?_drop, Array.getElem?_toList]
    congr 1
    simp at hrl ⊢; lia
 have hR : ∀ j, R ρ new j = if sa + k ≤ j ∧ j < sb + k' then R ρ r (j - (sa + k)) else R ρ arr j := fun j => by
  unfold R
  rw [hat]
  split <;> rfl
 have hin : ∀ j, j < sb + k' - (sa + k) → ∃ p, sa + k ≤ p ∧ p < sb + k' ∧ R ρ r j = R ρ arr p := fun j hj => by
  have hj' : j < r.size := by simpa using (by lia : j < r.toList.length)
  have hm : r[j] ∈ r.toList := by simp
  rcases List.mem_append.mp (hr.1.mem_iff.mp hm) with z | z
  ·obtain ⟨p, p1, p2, e⟩ := ext_mem z
   exact ⟨p, p1, by lia, by rw [R_at e, R_at (Array.getElem?_eq_getElem hj')]⟩
  ·obtain ⟨p, p1, p2, e⟩ := ext_mem z
   exact ⟨p, by lia, p2, by rw [R_at e, R_at (Array.getElem?_eq_getElem hj')]⟩
 refine ⟨?_, fun j hj => by rw [hat, if_neg (by lia)], fun i j i1 i2 i3 => ?_⟩
 ·rw [Array.perm_iff_toList_perm, hl]
  have e : arr.toList = arr.toList.take (sa + k) ++ ((arr.extract (sa + k) sb).toList ++ (arr.extract sb (sb + k')).toList) ++ arr.toList.drop (sb + k') := by
   rw [ext_l, ext_l]
   have a1 := win_drop arr.toList (i := sa + k) (j := sb) (by lia)
   have a2 := win_drop arr.toList (i := sb) (j := sb + k') (by lia)
   rw [a2] at a1
   conv => lhs; rw [← List.take_append_drop (sa + k) arr.toList, a1]
   simp only [List.append_assoc]
  conv => rhs; rw [e]
  exact (List.Perm.append_left _ hr.1).append_right _
 ·rw [hR, hR]
  have hb0 : ∀ q, sa ≤ q → q < sa + k → R ρ arr q ≤ R ρ arr sb := fun q a1 a2 => by
   have := hk2 (q - sa) (by lia)
   rwa [show sa + (q - sa) = q by lia] at this
  have hb3 : ∀ q, sb + k' ≤ q → q < sb + nb → R ρ arr (sb - 1) ≤ R ρ arr q := fun q a1 a2 => by
   have := hk3 (q - sb) (by lia) (by lia)
   rwa [show sb + (q - sb) = q by lia] at this
  by_cases zi : sa + k ≤ i ∧ i < sb + k'
  ·rw [if_pos zi]
   by_cases zj : sa + k ≤ j ∧ j < sb + k'
   ·rw [if_pos zj]
    exact hr.2.inn (lo := 0) (Nat.le_refl _) _ _ (Nat.zero_le _) (by lia) (by simpa using (by lia : j - (sa + k) < r.toList.length))
   ·rw [if_neg zj]
    obtain ⟨p, p1, p2, e⟩ := hin (i - (sa + k)) (by lia)
    rw [e]
    by_cases q : p < sb
    ·have a1 := s1 p (sb - 1) (by lia) (by lia) (by lia)
     have a2 := hb3 j (by lia) i3
     lia
    ·exact s2 p j (by lia) (by lia) i3
  ·rw [if_neg zi]
   by_cases zj : sa + k ≤ j ∧ j < sb + k'
   ·rw [if_pos zj]
    obtain ⟨p, p1, p2, e⟩ := hin (j - (sa + k)) (by lia)
    rw [e]
    by_cases q : p < sb
    ·exact s1 i p i1 (by lia) q
    ·have a1 := hb0 i i1 (by lia)
     have a2 := s2 sb p (Nat.le_refl _) (by lia) (by lia)
     lia
   ·rw [if_neg zj]
    by_cases q : j < sb
    ·exact s1 i j i1 i2 q
    ·by_cases q2 : i < sb
     ·have a1 := hb0 i i1 (by lia)
      have a2 := s2 sb j (Nat.le_refl _) (by lia) i3
      lia
     ·exact s2 i j (by lia) i2 i3
theorem wpS_set {σ : Type} {M : Model} {st st2 : σ} {Q : PUnit → σ → Prop} (h : Q ⟨⟩ st2) : wpS M A E s (set st2 : StateT σ Sem PUnit) Q st := by
 unfold wpS; rw [StateT.run_set]; exact wpAny_pure ⟨rfl, h⟩
end
end L2
namespace L2
open PySem PySem.Spec PyProof.Rows
local macro_rules | `(tactic| walk_at "mergeAt") => do
 let n := Lean.mkIdent ((Lean.Name.num `_private.PySem.Builtin.List.W1All 0) ++ `PySem.Builtin.mergeAt)
 `(tactic| (delta mergeAt'; delta $n:ident; dsimp only))
section
variable {prog : Program} {w : World} {A : Around} {E : Value → Shared → Prop} {s : Shared} {a₀ : Array Keyed} {ρ : Keyed → Int} {k0 : SortKind}
theorem wpS_mergeAt (hL : LtBy prog w A s k0 ρ a₀) {st : SortSt} (hB : SB a₀ k0 st) {i sa na pw nb pw2 : Nat} {Q : Bool → SortSt → Prop} (hi : (pendingOf st)[i]? = some (sa, na, pw)) (hj : (pendingOf st)[i + 1]? = some (sa + na, nb, pw2)) (h1 : 1 ≤ na) (h2 : 1 ≤ nb) (he : sa + na + nb ≤ a₀.size)
 (s1 : SortedIn ρ (arrOf st) sa (sa + na)) (s2 : SortedIn ρ (arrOf st) (sa + na) (sa + na + nb))
 (h : ∀ st', kindOf st' = kindOf st → failedOf st' = none → pendingOf st' = ((pendingOf st).setIfInBounds i (sa, na + nb, pw)).eraseIdxIfInBounds (i + 1) → (arrOf st').Perm (arrOf st) → (∀ j, j < sa ∨ sa + na + nb ≤ j → (arrOf st')[j]? = (arrOf st)[j]?) → SortedIn ρ (arrOf st') sa (sa + na + nb) → Q true st') :
 wpS (model prog w) A E s (mergeAt' i) Q st := by
 walk_at "mergeAt"
 refine wpS_bind (wpS_get ?_)
 rw [hi, hj]
 dsimp only
 refine wpS_bind (wpS_set ?_)
 obtain ⟨y0, hy0, my0⟩ := hB.at_ (i := sa + na) (by lia)
 refine wpS_bind (wpS_elem hy0 ?_)
 refine wpS_bind (wpS_gallop (hint := 0) (arr := arrOf st) hL (by exact hB.kd) my0 (fun j hj => hB.at_ (by lia)) s1 (by lia) fun k k1 k2 k3 => ?_)
 dsimp only
 refine wpS_ite (fun g => ?_) (fun g => ?_)
 ·have g' : k = na := by have : na - k = 0 := by simpa using g
                         lia
  subst g'
  refine wpS_pure (h _ rfl hB.fl rfl (Array.Perm.refl _) (fun _ _ => rfl) fun i j i1 i2 i3 => ?_)
  show R ρ (arrOf st) i ≤ R ρ (arrOf st) j
  by_cases q : j < sa + k
  ·exact s1 i j i1 i2 q
  ·by_cases q2 : i < sa + k
   ·have := bey_f.mp (k2 (i - sa) (by lia))
    rw [show sa + (i - sa) = i by lia, ← R_at (ρ := ρ) hy0] at this
    have := s2 (sa + k) j (Nat.le_refl _) (by lia) i3
    lia
   ·exact s2 i j (by lia) i2 i3
 have g' : k < na := by have : ¬ na - k = 0 := by simpa using g
                        lia
 obtain ⟨x1, hx1, mx1⟩ := hB.at_ (i := sa + k + (na - k) - 1) (by lia)
 refine wpS_bind (wpS_elem hx1 ?_)
 refine wpS_bind (wpS_gallop (hint := nb - 1) (arr := arrOf st) hL (by exact hB.kd) mx1 (fun j hj => hB.at_ (by lia)) s2 (by lia) fun k' j1 j2 j3 => ?_)
 dsimp only
 refine wpS_ite (fun g3 => ?_) (fun g3 => ?_)
 ·have g3' : k' = 0 := by simpa using g3
  refine wpS_pure (h _ rfl hB.fl rfl (Array.Perm.refl _) (fun _ _ => rfl) fun i j i1 i2 i3 => ?_)
  show R ρ (arrOf st) i ≤ R ρ (arrOf st) j
  by_cases q : j < sa + na
  ·exact s1 i j i1 i2 q
  ·by_cases q2 : i < sa + na
   ·have := bey_tf.mp (j3 (j - (sa + na)) (by lia) (by lia))
    rw [show sa + na + (j - (sa + na)) = j by lia, ← R_at (ρ := ρ) hx1, show sa + k + (na - k) - 1 = sa + na - 1 by lia] at this
    have := s1 i (sa + na - 1) i1 (by lia) (by lia)
    lia
   ·exact s2 i j (by lia) i2 i3
 have g3' : ¬ k' = 0 := by simpa using g3
 have hsz := hB.size
 have la : Ls ρ ((arrOf st).extract (sa + k) (sa + na)).toList := SortedIn.ls (fun i j a1 a2 a3 => s1 i j (by lia) a2 a3) (by lia)
 have lb : Ls ρ ((arrOf st).extract (sa + na) (sa + na + k')).toList := SortedIn.ls (fun i j a1 a2 a3 => s2 i j a1 a2 (by lia)) (by lia)
 have mem : ∀ lo hi x, x ∈ ((arrOf st).extract lo hi).toList → x ∈ a₀.toList := fun lo hi x hx => by
  obtain ⟨p, _, _, e⟩ := ext_mem hx
  exact (Array.perm_iff_toList_perm.mp hB.pm).mem_iff.mp (at_mem e)
 have za : ((arrOf st).extract (sa + k) (sa + na)).size = na - k := by rw [ext_size (by lia)]; lia
 have zb : ((arrOf st).extract (sa + na) (sa + na + k')).size = k' := by rw [ext_size (by lia)]; lia
 have fa : ∀ p x, sa + k ≤ p → p < sa + na → (arrOf st)[p]? = some x → ρ y0 ≤ ρ x := fun p x p1 p2 e => by
  have := bey_ff.mp (k3 (p - sa) (by lia) (by lia))
  rw [show sa + (p - sa) = p by lia, R_at e] at this
  lia
 have fb : ∀ p x, sa + na ≤ p → p < sa + na + k' → (arrOf st)[p]? = some x → ρ x ≤ ρ x1 := fun p x p1 p2 e => by
  have := bey_t.mp (j2 (p - (sa + na)) (by lia))
  rw [show sa + na + (p - (sa + na)) = p by lia, R_at e] at this
  lia
 have b0 : ∀ y, ((arrOf st).extract (sa + na) (sa + na + k'))[0]? = some y → y = y0 := fun y hy => by
  rw [ext_at (by lia) (by lia), Nat.add_zero, hy0] at hy
  exact (Option.some.inj hy).symm
 have al : ∀ x, ((arrOf st).extract (sa + k) (sa + na))[na - k - 1]? = some x → x = x1 := fun x hx => by
  rw [ext_at (by lia) (by lia), show sa + k + (na - k - 1) = sa + k + (na - k) - 1 by lia, hx1] at hx
  exact (Option.some.inj hx).symm
 walk_at "z2"
 ·refine wpS_bind (wpS_mergeLo (a := (arrOf st).extract (sa + k) (sa + na)) (b := (arrOf st).extract (sa + na) (sa + na + k')) hL (by exact hB.kd) la lb (mem _ _) (mem _ _) (by lia) (by lia) (fun x y hx hy => ?_) (fun x hx y hy => ?_) ?_)
  ·rw [b0 y hy]
   rw [ext_at (by lia) (by lia), Nat.add_zero] at hx
   exact fa _ x (Nat.le_refl _) (by lia) hx
  ·obtain ⟨p, p1, p2, e⟩ := ext_mem hy
   have hx' := hx
   rw [za] at hx'
   have : x = x1 := by
    have hlt : na - k - 1 < ((arrOf st).extract (sa + k) (sa + na)).size := by lia
    have hz : x ∈ (((arrOf st).extract (sa + k) (sa + na)).toList.drop (na - k - 1)).take 1 := by
     rw [List.take_of_length_le (by simp [za] ; lia)]; exact hx'
    rw [one_take (Array.getElem?_eq_getElem hlt) hz]
    exact al _ (Array.getElem?_eq_getElem hlt)
   rw [this]
   exact fb p y p1 p2 e
  ·intro r st2 gs hr
   refine wpS_bind (wpS_modify ?_)
   refine wpS_bind (wpS_get ?_)
   have hf : failedOf st2 = none := gs.fl.trans hB.fl
   have har : arrOf st2 = arrOf st := gs.ar
   obtain ⟨o1, o2, o3⟩ := merged_ok (ρ := ρ) (arr := arrOf st) (r := r) (sa := sa) (sb := sa + na) (k := k) (k' := k') (nb := nb) (by lia) j1 (by rw [hB.size]; lia) s1 s2 hr (fun i hi => by have := bey_f.mp (k2 i hi); rwa [← R_at (ρ := ρ) hy0] at this) (fun i i1 i2 => by
    have := bey_tf.mp (j3 i i1 i2)
    rwa [← R_at (ρ := ρ) hx1, show sa + k + (na - k) - 1 = sa + na - 1 by lia] at this) h2
   refine wpS_pure ?_
   show Q (failedOf st2).isNone _
   rw [hf]
   refine h _ gs.kd hf gs.pe ?_ ?_ ?_
   ·show ((r.toList.zipIdx).foldl (fun a p => a.setIfInBounds (sa + k + p.2) p.1) (arrOf st2)).Perm _
    rw [har]; exact o1
   ·intro j hj
    show ((r.toList.zipIdx).foldl (fun a p => a.setIfInBounds (sa + k + p.2) p.1) (arrOf st2))[j]? = _
    rw [har]; exact o2 j (by lia)
   ·show SortedIn ρ ((r.toList.zipIdx).foldl (fun a p => a.setIfInBounds (sa + k + p.2) p.1) (arrOf st2)) sa (sa + na + nb)
    rw [har]; exact o3
 ·refine wpS_bind (wpS_mergeHi (a := (arrOf st).extract (sa + k) (sa + na)) (b := (arrOf st).extract (sa + na) (sa + na + k')) hL (by exact hB.kd) la lb (mem _ _) (mem _ _) (by lia) (by lia) (fun x hx y hy => ?_) (fun x hx y hy => ?_) ?_)
  ·obtain ⟨p, p1, p2, e⟩ := ext_mem hy
   have hlt : 0 < ((arrOf st).extract (sa + na) (sa + na + k')).size := by lia
   have hz : x ∈ (((arrOf st).extract (sa + na) (sa + na + k')).toList.drop 0).take 1 := hx
   rw [one_take (Array.getElem?_eq_getElem hlt) hz, b0 _ (Array.getElem?_eq_getElem hlt)]
   exact fa p y p1 p2 e
  ·rw [za] at hx
   rw [al x hx]
   obtain ⟨p, p1, p2, e⟩ := ext_mem hy
   exact fb p y p1 p2 e
  ·intro r st2 gs hr
   refine wpS_bind (wpS_modify ?_)
   refine wpS_bind (wpS_get ?_)
   have hf : failedOf st2 = none := gs.fl.trans hB.fl
   have har : arrOf st2 = arrOf st := gs.ar
   obtain ⟨o1, o2, o3⟩ := merged_ok (ρ := ρ) (arr := arrOf st) (r := r) (sa := sa) (sb := sa + na) (k := k) (k' := k') (nb := nb) (by lia) j1 (by rw [hB.size]; lia) s1 s2 hr (fun i hi => by have := bey_f.mp (k2 i hi); rwa [← R_at (ρ := ρ) hy0] at this) (fun i i1 i2 => by
    have := bey_tf.mp (j3 i i1 i2)
    rwa [← R_at (ρ := ρ) hx1, show sa + k + (na - k) - 1 = sa + na - 1 by lia] at this) h2
   refine wpS_pure ?_
   show Q (failedOf st2).isNone _
   rw [hf]
   refine h _ gs.kd hf gs.pe ?_ ?_ ?_
   ·show ((r.toList.zipIdx).foldl (fun a p => a.setIfInBounds (sa + k + p.2) p.1) (arrOf st2)).Perm _
    rw [har]; exact o1
   ·intro j hj
    show ((r.toList.zipIdx).foldl (fun a p => a.setIfInBounds (sa + k + p.2) p.1) (arrOf st2))[j]? = _
    rw [har]; exact o2 j (by lia)
   ·show SortedIn ρ ((r.toList.zipIdx).foldl (fun a p => a.setIfInBounds (sa + k + p.2) p.1) (arrOf st2)) sa (sa + na + nb)
    rw [har]; exact o3
end
end L2
namespace L2
open PySem PySem.Spec PyProof.Rows
section
variable {prog : Program} {w : World} {A : Around} {E : Value → Shared → Prop} {s : Shared} {a₀ : Array Keyed} {ρ : Keyed → Int} {k0 : SortKind}
def RunsOk (ρ : Keyed → Int) (xs : Array Keyed) : Nat → List (Nat × Nat × Nat) → Nat → Prop
 | s, [], e => s = e
 | s, u :: r, e => u.1 = s ∧ 1 ≤ u.2.1 ∧ SortedIn ρ xs s (s + u.2.1) ∧ RunsOk ρ xs (s + u.2.1) r e
theorem RunsOk.app {xs : Array Keyed} : ∀ {p q : List (Nat × Nat × Nat)} {s e : Nat}, RunsOk ρ xs s (p ++ q) e ↔ ∃ m, RunsOk ρ xs s p m ∧ RunsOk ρ xs m q e
 | [], q, s, e => ⟨fun h => ⟨s, rfl, h⟩, fun ⟨m, h1, h2⟩ => by cases h1; exact h2⟩
 | u :: p, q, s, e => by
   constructor
   ·rintro ⟨a, b, c, d⟩
    obtain ⟨m, h1, h2⟩ := RunsOk.app.mp d
    exact ⟨m, ⟨a, b, c, h1⟩, h2⟩
   ·rintro ⟨m, ⟨a, b, c, d⟩, h2⟩
    exact ⟨a, b, c, RunsOk.app.mpr ⟨m, d, h2⟩⟩
theorem RunsOk.le {xs : Array Keyed} : ∀ {p : List (Nat × Nat × Nat)} {s e : Nat}, RunsOk ρ xs s p e → s + p.length ≤ e
 | [], s, e, h => by cases h; simp
 | u :: p, s, e, ⟨a, b, c, d⟩ => by have := d.le; simp; lia
theorem RunsOk.congr {xs ys : Array Keyed} : ∀ {p : List (Nat × Nat × Nat)} {s e : Nat}, (∀ j, s ≤ j → j < e → ys[j]? = xs[j]?) → RunsOk ρ xs s p e → RunsOk ρ ys s p e
 | [], s, e, _, h => h
 | u :: p, s, e, hk, ⟨a, b, c, d⟩ => by
   have hl := d.le
   refine ⟨a, b, fun i j i1 i2 i3 => ?_, d.congr fun j h1 h2 => hk j (by lia) h2⟩
   have e1 : R ρ ys i = R ρ xs i := by unfold R; rw [hk i i1 (by lia)]
   have e2 : R ρ ys j = R ρ xs j := by unfold R; rw [hk j (by lia) (by lia)]
   rw [e1, e2]
   exact c i j i1 i2 i3
theorem two_at {α : Type} {p : List α} {i : Nat} (h : i + 1 < p.length) : ∃ l u v r, p = l ++ u :: v :: r ∧ l.length = i := by
 refine ⟨p.take i, p[i], p[i + 1], p.drop (i + 2), ?_, by simp; lia⟩
 rw [← List.drop_eq_getElem_cons h, ← List.drop_eq_getElem_cons (by lia), List.take_append_drop]
theorem wpS_mergeI (hL : LtBy prog w A s k0 ρ a₀) {st : SortSt} (hB : SB a₀ k0 st) {i e : Nat} {Q : Bool → SortSt → Prop} (hr : RunsOk ρ (arrOf st) 0 (pendingOf st).toList e) (he : e ≤ a₀.size) (hi : i + 1 < (pendingOf st).size)
 (h : ∀ st', SB a₀ k0 st' → RunsOk ρ (arrOf st') 0 (pendingOf st').toList e → (pendingOf st').size + 1 = (pendingOf st).size → (∀ j, e ≤ j → (arrOf st')[j]? = (arrOf st)[j]?) → Q true st') : wpS (model prog w) A E s (mergeAt' i) Q st := by
 obtain ⟨l, ⟨sa, na, pw⟩, ⟨sb, nb, pw2⟩, r, hp, hl⟩ := two_at (p := (pendingOf st).toList) (i := i) (by simpa using hi)
 have hr0 := hr
 rw [hp] at hr
 obtain ⟨m, r1, ⟨a1, a2, a3, b1, b2, b3, r2⟩⟩ := RunsOk.app.mp hr
 simp only at a1 a2 a3 b1 b2 b3 r2
 subst a1
 subst b1
 have hle := r2.le
 have e1 : (pendingOf st)[i]? = some (sa, na, pw) := by
  rw [← Array.getElem?_toList, hp, List.getElem?_append_right (by lia), hl, Nat.sub_self]; rfl
 have e2 : (pendingOf st)[i + 1]? = some (sa + na, nb, pw2) := by
  rw [← Array.getElem?_toList, hp, List.getElem?_append_right (by lia), hl, show i + 1 - i = 1 by lia]; rfl
 refine wpS_mergeAt hL hB e1 e2 a2 b2 (by lia) a3 b3 fun st' c1 c2 c3 c4 c5 c6 => ?_
 have hpl : (pendingOf st').toList = l ++ (sa, na + nb, pw) :: r := by
  rw [c3, Array.toList_eraseIdxIfInBounds, Array.toList_setIfInBounds, hp, List.set_append_right _ _ (by lia), hl, Nat.sub_self, List.set_cons_zero, List.eraseIdx_append_of_length_le (by lia), hl, show i + 1 - i = 1 by lia]
  rfl
 have hsz : (pendingOf st').size + 1 = (pendingOf st).size := by
  have x1 := congrArg List.length hpl
  have x2 := congrArg List.length hp
  rw [Array.length_toList, List.length_append, List.length_cons] at x1 x2
  rw [List.length_cons] at x2
  lia
 refine h st' ⟨c4.trans hB.pm, c1.trans hB.kd, c2⟩ ?_ hsz fun j hj => c5 j (by lia)
 rw [hpl]
 refine RunsOk.app.mpr ⟨sa, r1.congr fun j _ h2 => c5 j (.inl h2), rfl, show 1 ≤ na + nb by lia, ?_, ?_⟩
 ·rw [← Nat.add_assoc]; exact c6
 ·rw [← Nat.add_assoc]; exact r2.congr fun j h1 _ => c5 j (.inr h1)
theorem ite_lt {c : Prop} [Decidable c] {p q n : Nat} (h1 : p + 1 < n) (h2 : q + 1 < n) : (if c then p else q) + 1 < n := by split <;> assumption
theorem RunsOk.snoc {xs : Array Keyed} {p : List (Nat × Nat × Nat)} {s m n x : Nat} (h : RunsOk ρ xs s p m) (hn : 1 ≤ n) (hs : SortedIn ρ xs m (m + n)) : RunsOk ρ xs s (p ++ [(m, n, x)]) (m + n) :=
 RunsOk.app.mpr ⟨m, h, rfl, hn, hs, rfl⟩
theorem RunsOk.mark {xs : Array Keyed} {p : Array (Nat × Nat × Nat)} {s e pw k : Nat} (h : RunsOk ρ xs s p.toList e) : RunsOk ρ xs s (p.modify k fun u => (u.1, u.2.1, pw)).toList e := by
 have go : ∀ (p : List (Nat × Nat × Nat)) (k s : Nat), RunsOk ρ xs s p e → RunsOk ρ xs s (p.modify k fun u => (u.1, u.2.1, pw)) e := by
  intro p
  induction p with
  | nil => intro k s h; simpa using h
  | cons u p ih =>
    intro k s h
    obtain ⟨a, b, c, d⟩ := h
    cases k with
    | zero => exact ⟨a, b, c, d⟩
    | succ k => exact ⟨a, b, c, ih k _ d⟩
 rw [Array.toList_modify]
 exact go _ _ _ h
theorem wpS_sortR (hL : LtBy prog w A s k0 ρ a₀) {st : SortSt} {Q : Unit → SortSt → Prop} (hB : SB a₀ k0 st) (hp : pendingOf st = #[]) (h2 : 2 ≤ a₀.size)
 (h : ∀ st', SB a₀ k0 st' → SortedIn ρ (arrOf st') 0 a₀.size → Q () st') : wpS (model prog w) A E s sortRuns' Q st := by
 rw [sortRuns'_eq]
 refine wpS_bind (wpS_get ?_)
 dsimp only
 simp only [hB.size]
 generalize minRun' a₀.size a₀.size 0 = mr
 refine wpS_bind (wpS_mono (wpS_forRange (I := fun x c st' => ∃ lo, c = (none, lo) ∧ SB a₀ k0 st' ∧ RunsOk ρ (arrOf st') 0 (pendingOf st').toList lo ∧ lo ≤ a₀.size ∧ x ≤ lo)
  (Q := fun c st' => c = (none, a₀.size) ∧ SB a₀ k0 st' ∧ RunsOk ρ (arrOf st') 0 (pendingOf st').toList a₀.size) ?step ?fin ⟨0, rfl, hB, by rw [hp]; rfl, by lia, by lia⟩) ?post)
 case fin =>
  rintro c st' ⟨lo, rfl, b, r, l1, l2⟩
  have : lo = a₀.size := by lia
  subst this
  exact ⟨rfl, b, r⟩
 case step =>
  rintro x c st' _ hx ⟨lo, rfl, b, r, l1, l2⟩
  dsimp only
  refine wpS_ite (fun g => ?_) (fun g => ?_)
  ·have : lo = a₀.size := by lia
   subst this
   exact wpS_pure ⟨rfl, b, r⟩
  refine wpS_bind (wpS_countR hL (by lia) (by lia) b fun m st2 ch m1 m2 sm => ?_)
  have b2 := ch.sb b
  have r2 : RunsOk ρ (arrOf st2) 0 (pendingOf st2).toList lo := by
   rw [ch.pe]; exact r.congr fun j _ hj => ch.ke j (.inl hj)
  dsimp only
  refine wpS_ite (fun gm => ?_) (fun gm => ?_)
  ·walk_at "z31"
   refine wpS_bind (wpS_binR hL (n := min (a₀.size - lo) mr) (by lia) (by lia) b2 sm fun st3 ch3 sm3 => ?_)
   walk_at "z4"
   have b4 := ch3.sb b2
   have r4 : RunsOk ρ (arrOf st3) 0 (pendingOf st3).toList lo := by
    rw [ch3.pe]; exact r2.congr fun j _ hj => ch3.ke j (.inl hj)
   have n41 : 1 ≤ min (a₀.size - lo) mr := by lia
   have n42 : lo + min (a₀.size - lo) mr ≤ a₀.size := by lia
   have s4 := sm3
   generalize min (a₀.size - lo) mr = n4 at n41 n42 s4 ⊢
   generalize st3 = st4 at b4 r4 s4 ⊢
   refine wpS_bind (wpS_get ?_)
   cases hbk : (pendingOf st4).back? with
   | none =>
     dsimp only
     refine wpS_bind (wpS_modify (wpS_pure ⟨lo + n4, rfl, ⟨b4.pm, b4.kd, b4.fl⟩, ?_, by lia, by lia⟩))
     show RunsOk ρ (arrOf st4) 0 ((pendingOf st4).push (lo, n4, 0)).toList (lo + n4)
     rw [Array.toList_push]
     exact r4.snoc n41 s4
   | some u =>
     obtain ⟨u1, u2, u3⟩ := u
     dsimp only
     refine wpS_bind (wpS_mono (wpS_forRange (I := fun y c st' => c = (none, ()) ∧ SB a₀ k0 st' ∧ RunsOk ρ (arrOf st') 0 (pendingOf st').toList lo ∧ ∀ j, lo ≤ j → (arrOf st')[j]? = (arrOf st4)[j]?)
      (Q := fun c st' => c = (none, ()) ∧ SB a₀ k0 st' ∧ RunsOk ρ (arrOf st') 0 (pendingOf st').toList lo ∧ ∀ j, lo ≤ j → (arrOf st')[j]? = (arrOf st4)[j]?) ?_ (fun c st' hh => hh) ⟨rfl, b4, r4, fun _ _ => rfl⟩) ?_)
     ·rintro y c st5 _ hy ⟨rfl, b5, r5, k5⟩
      refine wpS_bind (wpS_get ?_)
      by_cases hz : (pendingOf st5).size > 1
      ·rw [if_pos hz]
       have hlt : (pendingOf st5).size - 2 < (pendingOf st5).size := by lia
       rw [Array.getElem?_eq_getElem hlt]
       generalize (pendingOf st5)[(pendingOf st5).size - 2] = v
       obtain ⟨v1, v2, v3⟩ := v
       dsimp only
       walk_at "z2"
       ·exact wpS_pure ⟨rfl, b5, r5, k5⟩
       ·refine wpS_bind (wpS_mergeI hL b5 r5 l1 (by lia) fun st6 b6 r6 _ k6 => ?_)
        walk_at "z4"
        exact wpS_pure ⟨rfl, b6, r6, fun j hj => (k6 j hj).trans (k5 j hj)⟩
      ·rw [if_neg hz]
       exact wpS_pure ⟨rfl, b5, r5, k5⟩
     ·rintro c st5 ⟨rfl, b5, r5, k5⟩
      dsimp only
      refine wpS_bind (wpS_modify ?_)
      refine wpS_bind (wpS_modify (wpS_pure ⟨lo + n4, rfl, ⟨b5.pm, b5.kd, b5.fl⟩, ?_, by lia, by lia⟩))
      show RunsOk ρ (arrOf st5) 0 (((pendingOf st5).modify _ _).push (lo, n4, 0)).toList (lo + n4)
      rw [Array.toList_push]
      refine RunsOk.snoc r5.mark n41 fun i j i1 i2 i3 => ?_
      have e1 : R ρ (arrOf st5) i = R ρ (arrOf st4) i := by unfold R; rw [k5 i i1]
      have e2 : R ρ (arrOf st5) j = R ρ (arrOf st4) j := by unfold R; rw [k5 j (by lia)]
      rw [e1, e2]
      exact s4 i j i1 i2 i3
  ·have b4 := b2
   have r4 := r2
   have n41 : 1 ≤ m := m1
   have n42 : lo + m ≤ a₀.size := by lia
   have s4 := sm
   generalize m = n4 at n41 n42 s4 ⊢
   generalize st2 = st4 at b4 r4 s4 ⊢
   refine wpS_bind (wpS_get ?_)
   cases hbk : (pendingOf st4).back? with
   | none =>
     dsimp only
     refine wpS_bind (wpS_modify (wpS_pure ⟨lo + n4, rfl, ⟨b4.pm, b4.kd, b4.fl⟩, ?_, by lia, by lia⟩))
     show RunsOk ρ (arrOf st4) 0 ((pendingOf st4).push (lo, n4, 0)).toList (lo + n4)
     rw [Array.toList_push]
     exact r4.snoc n41 s4
   | some u =>
     obtain ⟨u1, u2, u3⟩ := u
     dsimp only
     refine wpS_bind (wpS_mono (wpS_forRange (I := fun y c st' => c = (none, ()) ∧ SB a₀ k0 st' ∧ RunsOk ρ (arrOf st') 0 (pendingOf st').toList lo ∧ ∀ j, lo ≤ j → (arrOf st')[j]? = (arrOf st4)[j]?)
      (Q := fun c st' => c = (none, ()) ∧ SB a₀ k0 st' ∧ RunsOk ρ (arrOf st') 0 (pendingOf st').toList lo ∧ ∀ j, lo ≤ j → (arrOf st')[j]? = (arrOf st4)[j]?) ?_ (fun c st' hh => hh) ⟨rfl, b4, r4, fun _ _ => rfl⟩) ?_)
     ·rintro y c st5 _ hy ⟨rfl, b5, r5, k5⟩
      refine wpS_bind (wpS_get ?_)
      by_cases hz : (pendingOf st5).size > 1
      ·rw [if_pos hz]
       have hlt : (pendingOf st5).size - 2 < (pendingOf st5).size := by lia
       rw [Array.getElem?_eq_getElem hlt]
       generalize (pendingOf st5)[(pendingOf st5).size - 2] = v
       obtain ⟨v1, v2, v3⟩ := v
       dsimp only
       walk_at "z2"
       ·exact wpS_pure ⟨rfl, b5, r5, k5⟩
       ·refine wpS_bind (wpS_mergeI hL b5 r5 l1 (by lia) fun st6 b6 r6 _ k6 => ?_)
        walk_at "z4"
        exact wpS_pure ⟨rfl, b6, r6, fun j hj => (k6 j hj).trans (k5 j hj)⟩
      ·rw [if_neg hz]
       exact wpS_pure ⟨rfl, b5, r5, k5⟩
     ·rintro c st5 ⟨rfl, b5, r5, k5⟩
      dsimp only
      refine wpS_bind (wpS_modify ?_)
      refine wpS_bind (wpS_modify (wpS_pure ⟨lo + n4, rfl, ⟨b5.pm, b5.kd, b5.fl⟩, ?_, by lia, by lia⟩))
      show RunsOk ρ (arrOf st5) 0 (((pendingOf st5).modify _ _).push (lo, n4, 0)).toList (lo + n4)
      rw [Array.toList_push]
      refine RunsOk.snoc r5.mark n41 fun i j i1 i2 i3 => ?_
      have e1 : R ρ (arrOf st5) i = R ρ (arrOf st4) i := by unfold R; rw [k5 i i1]
      have e2 : R ρ (arrOf st5) j = R ρ (arrOf st4) j := by unfold R; rw [k5 j (by lia)]
      rw [e1, e2]
      exact s4 i j i1 i2 i3
 case post =>
  rintro c st' ⟨rfl, b, r⟩
  dsimp only
  have hle := r.le
  refine wpS_bind (wpS_mono (wpS_forRange (I := fun x c st' => c = (none, ()) ∧ SB a₀ k0 st' ∧ RunsOk ρ (arrOf st') 0 (pendingOf st').toList a₀.size ∧ (pendingOf st').size + x ≤ a₀.size)
   (Q := fun c st' => c = (none, ()) ∧ SB a₀ k0 st' ∧ RunsOk ρ (arrOf st') 0 (pendingOf st').toList a₀.size ∧ (pendingOf st').size ≤ 1) ?_ ?_ ⟨rfl, b, r, by rw [Array.length_toList] at hle; lia⟩) ?_)
  ·rintro x c st5 _ hx ⟨rfl, b5, r5, k5⟩
   refine wpS_bind (wpS_get ?_)
   refine wpS_ite (fun g => ?_) (fun g => ?_)
   ·exact wpS_pure ⟨rfl, b5, r5, g⟩
   ·refine wpS_bind (wpS_mergeI hL b5 r5 (Nat.le_refl _) (ite_lt (by lia) (by lia)) fun st6 b6 r6 z6 _ => ?_)
    walk_at "z4"
    exact wpS_pure ⟨rfl, b6, r6, by lia⟩
  ·rintro c st5 ⟨rfl, b5, r5, k5⟩
   exact ⟨rfl, b5, r5, by lia⟩
  ·rintro c st5 ⟨rfl, b5, r5, k5⟩
   dsimp only
   refine wpS_pure (h st5 b5 ?_)
   cases hl : (pendingOf st5).toList with
   | nil =>
     rw [hl] at r5
     have : 0 = a₀.size := r5
     lia
   | cons u l =>
     rw [hl] at r5
     obtain ⟨u1, u2, u3, u4⟩ := r5
     have hl0 : l = [] := by
      have := congrArg List.length hl
      rw [Array.length_toList, List.length_cons] at this
      exact List.eq_nil_of_length_eq_zero (by lia)
     subst hl0
     have e : 0 + u.2.1 = a₀.size := u4
     rw [e] at u3
     exact u3
end
end L2
namespace L2
open PySem PySem.Spec PyProof.Rows
section
variable {prog : Program} {w : World} {A : Around} {E : Value → Shared → Prop} {s : Shared}
end
section
variable {X : Cx}
end
end L2
namespace L2
open PySem PySem.Spec PyProof.Rows
def pairAt (h : Heap) : Value → Int × Int
 | .ref x => match h.get? x with
   | some o => match o.data with
     | .seq a _ => match a.toList with
       | [.int i _, .int j _] => (i, j)
       | _ => (0, 0)
     | _ => (0, 0)
   | none => (0, 0)
 | _ => (0, 0)
def IsPair (h : Heap) (v : Value) : Prop := ∃ x o n i j ti tj, v = .ref x ∧ h.get? x = some o ∧ o.cls = .type "tuple" ∧ o.data = .seq #[.int i ti, .int j tj] n
section
variable {prog : Program} {w : World} {A : Around} {E : Value → Shared → Prop} {s : Shared}
def rk (M : Int) (h : Heap) (v : Value) : Int := M * (pairAt h v).1 + (pairAt h v).2
end
end L2
namespace L2
open PySem PySem.Spec PyProof.Rows HT
theorem filter_lt {α : Type} {f g : α → Bool} : ∀ {l : List α}, (∀ u ∈ l, f u = true → g u = true) → (∃ x ∈ l, g x = true ∧ f x = false) → (l.filter f).length < (l.filter g).length
 | [], _, h => by obtain ⟨_, h, _⟩ := h; cases h
 | a :: l, h1, h2 => by
   have mono : (l.filter f).length ≤ (l.filter g).length := by
    have hl : ∀ u ∈ l, f u = true → g u = true := fun u hu => h1 u (List.mem_cons_of_mem _ hu)
    clear h1 h2
    induction l with
    | nil => exact Nat.le_refl _
    | cons b l ih =>
      have := ih fun u hu => hl u (List.mem_cons_of_mem _ hu)
      have hb := hl b List.mem_cons_self
      simp only [List.filter_cons]
      cases e1 : f b <;> cases e2 : g b <;> simp_all <;> lia
   obtain ⟨x, hx, gx, fx⟩ := h2
   have ha := h1 a List.mem_cons_self
   simp only [List.filter_cons]
   rcases List.mem_cons.mp hx with rfl | hx
   ·rw [gx, fx]; simp; lia
   ·have := filter_lt (fun u hu => h1 u (List.mem_cons_of_mem _ hu)) ⟨x, hx, gx, fx⟩
    cases e1 : f a <;> cases e2 : g a <;> simp_all <;> lia
theorem filter_le {α : Type} {f g : α → Bool} : ∀ {l : List α}, (∀ u ∈ l, f u = true → g u = true) → (l.filter f).length ≤ (l.filter g).length
 | [], _ => Nat.le_refl _
 | a :: l, h1 => by
   have := filter_le fun u hu => h1 u (List.mem_cons_of_mem _ hu)
   have ha := h1 a List.mem_cons_self
   simp only [List.filter_cons]
   cases e1 : f a <;> cases e2 : g a <;> simp_all <;> lia
def rkS (κ : Value → Int × List Int) (vs : List Value) (v : Value) : Int := ((vs.filter fun u => pairLt (κ u) (κ v)).length : Int)
theorem rkS_lt {κ : Value → Int × List Int} {vs : List Value} {x y : Value} (hx : x ∈ vs) : decide (rkS κ vs x < rkS κ vs y) = pairLt (κ x) (κ y) := by
 unfold rkS
 cases h : pairLt (κ x) (κ y) with
 | true =>
   have := filter_lt (f := fun u => pairLt (κ u) (κ x)) (g := fun u => pairLt (κ u) (κ y)) (l := vs) (fun u _ hu => pairLt_trans hu h) ⟨x, hx, h, pairLt_self _⟩
   exact decide_eq_true (by lia)
 | false =>
   have := filter_le (f := fun u => pairLt (κ u) (κ y)) (g := fun u => pairLt (κ u) (κ x)) (l := vs) fun u _ hu => by
    cases z : pairLt (κ u) (κ x) with
    | true => rfl
    | false => rw [pairLe_trans z h] at hu; cases hu
   exact decide_eq_false (by lia)
theorem ints_of_items {prog : Program} {w : World} : ∀ {vs : List Value} {ks : List Int}, ItemsAre (intKind prog w) ks vs → IntsAre vs ks
 | _, _, .nil => .nil
 | _, _, @ItemsAre.cons _ _ _ _ _ k v ks vs h t => by
   cases v with
   | int i tt =>
     have e : i = k := by
      have h' : (intKind prog w).is k (.int i tt) = true := h
      simp only [intKind, Value.isInt] at h'
      simpa using h'
     subst e
     exact .cons _ _ (ints_of_items t)
   | _ => simp [intKind, Value.isInt] at h
section
variable {prog : Program} {w : World} {A : Around} {E : Value → Shared → Prop} {s : Shared}
theorem ltBy_stand {vs : List Value} {κ : Value → Int × List Int} (hu : A.units + 1 < cLine) (hI : ∀ v ∈ vs, ∃ a, v = .ref a ∧ IsStandKey prog w s.heap (κ v) a) : LtBy prog w A s (tuples' true) (fun p => rkS κ vs p.1) (pairsOf vs) := by
 intro E st x y Q hk hx hy h
 rw [pairsOf_toList] at hx hy
 have mx := (mem_zip_self hx).2
 have my := (mem_zip_self hy).2
 rw [show decide (rkS κ vs x.1 < rkS κ vs y.1) = pairLt (κ x.1) (κ y.1) from rkS_lt mx] at h
 obtain ⟨ax, ex, kx⟩ := hI _ mx
 obtain ⟨ay, ey, ky⟩ := hI _ my
 generalize κ x.1 = p at *
 generalize κ y.1 = q at *
 obtain ⟨ox, bx, tx, nx, gx, cx, dx, ix⟩ := kx
 obtain ⟨oy, by', ty, ny, gy, cy, dy, iy⟩ := ky
 rw [lt'_eq]
 refine wpS_bind (wpS_get ?_)
 rw [hk, ex, ey]
 refine wpS_bind (wpS_lift (wpAny_attempt (PySem.W.kat_lt gx dx gy dy ?_)))
 refine PySem.W.kat_cons (wpAny_eqBool_int ?_)
 refine PySem.W.kat_go (fun e => PySem.W.kat_yes (PySem.W.kat_cons (wpAny_eqBool_tuple (by lia) ix iy (PySem.W.kat_go (fun e2 => PySem.W.kat_yes (PySem.W.kat_nil ?_)) fun e2 => PySem.W.kat_no ?_)))) fun e => PySem.W.kat_no ?_
 ·have e' : p.1 = q.1 := by simpa using e
  have e2' : p.2 = q.2 := by simpa using e2
  rw [pairLt, if_pos e', e2', lexLt_self] at h
  refine ⟨rfl, ?_⟩
  exact wpS_pure h
 ·have e' : p.1 = q.1 := by simpa using e
  obtain ⟨o1, i1, n1, h1, h2, h3, h4⟩ := ix
  obtain ⟨o2, i2, n2, h5, h6, h7, h8⟩ := iy
  refine PySem.W.kat_one _ _ (lt_tupInts ⟨o1, h1, h2, n1, h3⟩ ⟨o2, h5, h6, n2, h7⟩ (ints_of_items h4) (ints_of_items h8) (by lia) ?_)
  refine ⟨rfl, ?_⟩
  rw [pairLt, if_pos e'] at h
  exact wpS_pure h
 ·have e' : p.1 ≠ q.1 := by simpa using e
  refine oneLt_int ?_
  refine ⟨rfl, ?_⟩
  rw [pairLt, if_neg e'] at h
  exact wpS_pure h
theorem runs_stands {vs : List Value} {κ : Value → Int × List Int} (hu : A.units + 1 < cLine) (h2 : 2 ≤ vs.length) (hI : ∀ v ∈ vs, ∃ a, v = .ref a ∧ IsStandKey prog w s.heap (κ v) a) : RunsTo prog w A vs s fun out => out.Perm vs ∧ out.Pairwise fun a b => pairLt (κ b) (κ a) = false := by
 intro E P hP
 obtain ⟨fs, tf, lf, hf⟩ : ∃ fs : List Value, PySem.W.KatTups s.heap vs fs ∧ fs.length = vs.length ∧ ∀ v ∈ fs, ∃ i t, v = .int i t := by
  clear h2 hP
  induction vs with
  | nil => exact ⟨[], trivial, rfl, by simp⟩
  | cons v vs ih =>
    obtain ⟨fs, a, b, c⟩ := ih fun u hu => hI u (List.mem_cons_of_mem _ hu)
    obtain ⟨x, rfl, o, bb, t, n, e1, e2, e3, _⟩ := hI _ List.mem_cons_self
    refine ⟨.int _ t :: fs, ⟨⟨x, _, _, _, rfl, e1, e2, e3, rfl⟩, a⟩, by simp [b], fun u hu => ?_⟩
    rcases List.mem_cons.mp hu with z | z
    ·exact ⟨_, t, z⟩
    ·exact c u z
 refine wpAny_bind (PySem.W.kat_kind (fs := fs) (T := .type "int") tf (by lia) (fun v hv => ?_) (by decide) ?_)
 ·obtain ⟨i, t, rfl⟩ := hf v hv
  exact PySem.W.Looks.of_pure rfl
 ·have hB : SB (pairsOf vs) (tuples' true) (SortSt.mk' (tuples' true) (pairsOf vs) #[] 7 none) := ⟨Array.Perm.refl _, rfl, rfl⟩
  have h := wpS_sortR (prog := prog) (w := w) (A := A) (E := E) (s := s) (ltBy_stand hu hI) hB rfl (by rw [pairsOf_size]; exact h2) (Q := fun _ st => P st s) fun st' b hs => by
   have hl : (arrOf st').toList.Perm (vs.zip vs) := by rw [← pairsOf_toList]; exact Array.perm_iff_toList_perm.mp b.pm
   have hmem : ∀ p, p ∈ (arrOf st').toList → p.1 = p.2 ∧ p.1 ∈ vs := fun p hp' => mem_zip_self (hl.mem_iff.mp hp')
   have hout : ((arrOf st').map (·.2)).toList = (arrOf st').toList.map (·.1) := by
    rw [Array.toList_map]; exact List.map_congr_left fun p hp' => (hmem p hp').1.symm
   refine hP st' ((arrOf st').map (·.2)).toList b.fl (by first | exact (Array.toArray_toList).symm | (apply Array.ext'; simp)) ?_ ⟨?_, ?_⟩
   ·have := b.size
    rw [pairsOf_size] at this
    simpa using this
   ·rw [hout]
    have := hl.map (·.1)
    rwa [List.map_fst_zip (Nat.le_refl _)] at this
   ·rw [hout, List.pairwise_map, List.pairwise_iff_getElem]
    intro i j hi hj hij
    have hi' : i < (arrOf st').size := by simpa using hi
    have hj' : j < (arrOf st').size := by simpa using hj
    have := hs i j (Nat.zero_le _) (Nat.le_of_lt hij) (by rw [← b.size]; exact hj')
    rw [R_at (Array.getElem?_eq_getElem hi'), R_at (Array.getElem?_eq_getElem hj')] at this
    have hm := (hmem _ (List.getElem_mem hj)).2
    have this' : ¬ rkS κ vs ((arrOf st').toList[j]).1 < rkS κ vs ((arrOf st').toList[i]).1 := by
     simp only [Array.getElem_toList] at this ⊢
     lia
    rw [← decide_eq_false this', rkS_lt hm]
  unfold wpS at h
  refine wpAny_bind (wpAny_mono h (fun r s' h' => ?_) fun _ _ e => e)
  obtain ⟨rfl, q⟩ := h'
  exact wpAny_pure q
end
end L2
namespace L2
open PySem PySem.Spec PyProof.Rows
def DRaw (h : Heap) (d : Addr) (es : Array DictEntry) (ep : Nat) : Prop := ∃ o, h.get? d = some o ∧ o.ExactDict ∧ o.data = .dict es ep
theorem DRaw.typeIs {s : Shared} {d : Addr} {es : Array DictEntry} {ep : Nat} (x : DRaw s.heap d es ep) : s.TypeIs (.ref d) "dict" := by
 obtain ⟨o, g, c, _⟩ := x
 exact ⟨o, g, c.1⟩
section
variable {prog : Program} {w : World} {A : Around} {E : Value → Shared → Prop} {s : Shared} {it d : Addr} {i ep : Nat} {es : Array DictEntry}
theorem raw_iter {Q : Value → Shared → Prop} (ns : (d == sysModules) = false) (x : DRaw s.heap d es ep)
 (q : Q (.ref s.heap.objs.size) { s with heap := s.heap.push { cls := .type "dict_keyiterator", data := .fields #[.ref d, .int 0 0, .int es.size 0, .int ep 0] } }) :
 wpAny (model prog w) A (pyIter (.ref d)) Q E s := by
 have tD := x.typeIs
 obtain ⟨o, g, c, e⟩ := x
 refine wpAny_pyIter_slot tD F.slot_dict_iter ?_
 refine wpAny_call_entry F.slot_dict_iter tD F.entry_dict_iter ?_ (F.args_dict_iter_1 _)
 unfold Builtin.«dict.__iter__»
 refine wpAny_bind ?_
 unfold Builtin.Dict.dictSlotNone
 refine wpAny_bind (wpAny_notOrdered_dict tD (wpAny_pure ?_))
 refine wpAny_bind ?_
 refine (wpAny_pure ?_ : wpAny _ _ (pure d) _ _ s)
 unfold Builtin.Dict.showsAll
 refine wpAny_bind ?_
 rw [if_neg (fun z => by rw [ns] at z; cases z)]
 refine wpAny_pure (wpAny_bind (wpAny_dictEntries g e (wpAny_bind (wpAny_dictEpoch g e ?_))))
 have lk := F.slot_dict_keyiterator_next.lookup
 refine wpAny_bind (wpAny_newObj_type (wpAny_pure ⟨_, rfl, "dict_keyiterator", _, ⟨_, Heap.get?_push_size _ rfl, rfl⟩, lk, ?_⟩))
 simpa [rawInt] using q
theorem raw_item {en : DictEntry} {Q : Option Value → Shared → Prop} (k : s.heap.IsKeyIter it d i es.size ep) (x : DRaw s.heap d es ep) (hx : es[i]? = some en)
 (q : ∀ h', h'.IsKeyIter it d (i + 1) es.size ep → Heap.SameBut it s.heap h' → Q (some en.key) { s with heap := h' }) :
 wpAny (model prog w) A (pyNext (.ref it)) Q E s := by
 have tI := k.typeIs
 obtain ⟨oI, gI, cI, dI⟩ := id k
 obtain ⟨oD, gD, cD, dD⟩ := x
 obtain ⟨lt, rfl⟩ := Array.getElem?_eq_some_iff.mp hx
 unfold pyNext
 refine wpAny_bind (wpAny_attempt (wpAny_callSpecial?_slot (name := Str.ofString "__next__") tI F.slot_dict_keyiterator_next ?_))
 refine wpAny_call_entry F.slot_dict_keyiterator_next tI F.entry_dict_keyiterator_next ?_ (F.args_dict_keyiterator_next_1 _)
 refine wpAny_bind (wpAny_pure (wpAny_bind (wpAny_bind ?_)))
 first | refine wpAny_bind (wpAny_typeNameOfWhole_keyiter tI (wpAny_pure ?_)) | refine wpAny_bind (wpAny_typeNameOf_keyiter tI (wpAny_pure ?_))
 refine wpAny_bind (wpAny_fieldsOf gI dI ?_)
 simp only [show Builtin.Dict_items.ownsTuple "dict_keyiterator" = false by decide, Bool.false_eq_true, if_false]
 refine (?_ : wpAny _ _ (ite ((Value.ref d == Value.none) = true) _ _) _ _ s)
 rw [if_neg (fun z : (Value.ref d == Value.none) = true => Bool.false_ne_true z)]
 refine wpAny_bind (wpAny_pure (wpAny_bind (wpAny_dictEntries gD dD ?_)))
 rw [if_neg (by simp)]
 refine wpAny_bind (wpAny_pure (wpAny_bind (wpAny_dictEpoch gD dD ?_)))
 rw [if_neg (by simp)]
 refine wpAny_pure ?_
 simp only [show ¬ ((i : Int) < 0) by lia, if_false, Int.toNat_natCast, Array.getElem?_eq_getElem lt]
 refine wpAny_bind ?_
 first | refine wpAny_bind (wpAny_typeNameOfWhole_keyiter tI (wpAny_pure ?_)) | refine wpAny_bind (wpAny_typeNameOf_keyiter tI (wpAny_pure ?_))
 refine wpAny_bind (wpAny_isOneOf_keyiter tI ?_)
 refine (?_ : wpAny _ _ (setField (.ref it) 1 (rawInt ((i : Int) + 1)) >>= _) _ _ s)
 refine wpAny_bind (wpAny_setField gI dI (by simp) ?_)
 have k2 : (s.heap.update it (Obj.mapFields (·.setIfInBounds 1 (rawInt ((i : Int) + 1))))).IsKeyIter it d (i + 1) es.size ep := by
  refine ⟨_, Heap.get?_update_self _ gI (Obj.isFreed_of_fields (Obj.data_mapFields dI _)), (Obj.cls_mapFields ..).trans cI, ?_⟩
  rw [Obj.data_mapFields dI]
  simp [rawInt]
 refine wpAny_bind (wpAny_holding (wpAny_bind (wpAny_isOneOf_keyiter k2.typeIs ?_)))
 exact wpAny_pure (wpAny_pure ⟨_, rfl, wpAny_pure (q _ k2 (Heap.SameBut.update ..))⟩)
theorem raw_end {Q : Option Value → Shared → Prop} (hh : A.handled = none) (k : s.heap.IsKeyIter it d i es.size ep) (x : DRaw s.heap d es ep) (hx : es.size ≤ i)
 (q : ∀ h', Heap.ExtBut it s.heap h' → Q none { s with heap := h' }) : wpAny (model prog w) A (pyNext (.ref it)) Q E s := by
 have tI := k.typeIs
 obtain ⟨oI, gI, cI, dI⟩ := id k
 obtain ⟨oD, gD, cD, dD⟩ := x
 unfold pyNext
 refine wpAny_bind (wpAny_attempt (wpAny_callSpecial?_slot (name := Str.ofString "__next__") tI F.slot_dict_keyiterator_next ?_))
 refine wpAny_call_entry F.slot_dict_keyiterator_next tI F.entry_dict_keyiterator_next ?_ (F.args_dict_keyiterator_next_1 _)
 refine wpAny_bind (wpAny_pure (wpAny_bind (wpAny_bind ?_)))
 first | refine wpAny_bind (wpAny_typeNameOfWhole_keyiter tI (wpAny_pure ?_)) | refine wpAny_bind (wpAny_typeNameOf_keyiter tI (wpAny_pure ?_))
 refine wpAny_bind (wpAny_fieldsOf gI dI ?_)
 simp only [show Builtin.Dict_items.ownsTuple "dict_keyiterator" = false by decide, Bool.false_eq_true, if_false]
 refine (?_ : wpAny _ _ (ite ((Value.ref d == Value.none) = true) _ _) _ _ s)
 rw [if_neg (fun z : (Value.ref d == Value.none) = true => Bool.false_ne_true z)]
 refine wpAny_bind (wpAny_pure (wpAny_bind (wpAny_dictEntries gD dD ?_)))
 rw [if_neg (by simp)]
 refine wpAny_bind (wpAny_pure (wpAny_bind (wpAny_dictEpoch gD dD ?_)))
 rw [if_neg (by simp)]
 refine wpAny_pure ?_
 simp only [show ¬ ((i : Int) < 0) by lia, if_false, Int.toNat_natCast, Array.getElem?_eq_none hx]
 refine wpAny_bind ?_
 first | refine wpAny_bind (wpAny_typeNameOfWhole_keyiter tI (wpAny_pure ?_)) | refine wpAny_bind (wpAny_typeNameOf_keyiter tI (wpAny_pure ?_))
 refine (?_ : wpAny _ _ (setField (.ref it) 0 .none >>= _) _ _ s)
 refine wpAny_bind (wpAny_setField gI dI (by simp) (wpAny_bind ?_))
 simp only [newExc, newTuple]
 refine wpAny_bind (wpAny_newObj_type ?_ (by size_fits))
 refine wpAny_bind (m := firstArgMember _ _) (wpAny_of_eq (a := Value.none) (by first | rfl | (simp only [firstArgMember]; rfl)) (wpAny_newObj_type ?_ (by size_fits)))
 simp only [raiseNew]
 refine wpAny_bind (wpAny_handled ?_)
 rw [show A.in1.handled = none by exact hh]
 refine wpAny_bind (wpAny_pure (wpAny_throw (wpAny_bind ?_)))
 refine wpAny_isInstance (b := true) (T := "StopIteration") ⟨_, Heap.get?_push_size _ rfl, rfl⟩ isSubtype_stop (wpAny_pure ?_)
 exact q _ (((Heap.SameBut.update ..).extBut.push _).push _)
theorem DRaw.at_ {h h' : Heap} (x : DRaw h d es ep) (e : ∀ o, h.get? d = some o → h'.get? d = some o) : DRaw h' d es ep := let ⟨o, g, r⟩ := x; ⟨o, e _ g, r⟩
theorem raw_walks (hh : A.handled = none) (I d : Addr) (hne : d ≠ I) (es : Array DictEntry) (ep : Nat) :
 Walks prog w A I [I, d] [I] es.size (fun i v => ∃ en, es[i]? = some en ∧ v = en.key) (fun i h => h.IsKeyIter I d i es.size ep ∧ DRaw h d es ep) where
 sub := fun b hb => by simp at hb; simp [hb]
 frame := fun i h h' st hk => ⟨st.1.at fun o e => hk I (by simp) o e, st.2.at_ fun o e => hk d (by simp) o e⟩
 item := fun i s Q E hi st hQ => by
  refine raw_item st.1 st.2 (Array.getElem?_eq_getElem hi) fun h' k' sb => ?_
  exact hQ _ h' s.toks ⟨_, Array.getElem?_eq_getElem hi, rfl⟩ ⟨k', st.2.at_ fun o e => sb.extBut d o hne e⟩ fun b o nb e => sb.extBut b o (fun z => nb (by simp [z])) e
 done := fun s Q E st hQ => raw_end hh st.1 st.2 (Nat.le_refl _) fun h' x => hQ h' s.toks fun b o nb e => x b o (fun z => nb (by simp [z])) e
 self := fun i s Q E st hQ => wpAny_pyIter_keyiter st.1 hQ
theorem raw_src (ns : (d == sysModules) = false) : PySem.W.KdlSrc prog w "dict" d d es.size (fun i v => ∃ en, es[i]? = some en ∧ v = en.key) (fun h => DRaw h d es ep) where
 type := fun _ x => x.typeIs
 there := fun _ ⟨_, g, _⟩ => ⟨Heap.lt_size g, Heap.lt_size g⟩
 keep := fun _ _ x hk => x.at_ fun o e => hk d (.inl rfl) o e
 notList := by decide
 notTuple := by decide
 hint := fun _ _ _ _ x q => PySem.W.kdl_hint_dict x.typeIs q
 iter := fun A s hh x => by
  obtain ⟨o, g, c, e⟩ := id x
  exact ⟨_, _, fun E Q q => raw_iter ns x q, raw_walks hh _ d (Nat.ne_of_lt (Heap.lt_size g)) es ep, ⟨⟨_, Heap.get?_push_size _ rfl, rfl, rfl⟩, x.at_ fun o' e' => Heap.get?_push_of_some _ e'⟩⟩
end
end L2
namespace L2
open PySem PySem.Spec PyProof.Rows
section
variable {prog : Program} {w : World} {A : Around} {E : Value → Shared → Prop} {s : Shared}
theorem list_sort_short {a : Addr} {vs : List Value} {n : Nat} {P : Fin → Shared → Prop} (ho : s.heap.get? a = some (seqObj "list" vs.toArray n)) (h2 : vs.length < 2)
 (h : P (.done (.ret .none)) { s with heap := sortedHeap s.heap a vs vs.toArray }) :
 wpAny (model prog w) A (Builtin.«list.sort» ⟨[.ref a], []⟩) P E s := by
 have hz : vs.length ≤ sizeLine := szl (by lia)
 rw [list_sort_plain]
 have ha : a < s.heap.objs.size := Heap.lt_size ho
 refine wpAny_bind (listItems_at ho rfl ?_)
 refine wpAny_bind (listUpdate_at ho rfl ?_ (by rw [List.size_toArray]; exact hz) (Nat.zero_le _))
 obtain ⟨e1, ho1⟩ : ∃ e1, (s.heap.update a (Obj.mapSeq fun _ => #[])).get? a = some (seqObj "list" #[] e1) := ⟨_, get?_update_seq ho (fun _ => #[])⟩
 refine wpAny_bind (seqEpoch_at ho1 rfl ?_)
 refine wpAny_bind (wpAny_newTuple ?_ (by show vs.length ≤ _; exact hz))
 refine wpAny_bind (wpAny_newList ?_ (Nat.zero_le _))
 refine wpAny_holding ?_
 have ho6 : (((s.heap.update a (Obj.mapSeq fun _ => #[])).push (seqObj "tuple" vs.toArray 0)).push (seqObj "list" #[] 0)).get? a = some (seqObj "list" #[] e1) := by
  rw [Heap.get?_push_ne _ _ _ (by rw [size_push', Heap.size_update]; exact Nat.ne_of_lt (Nat.lt_succ_of_lt ha)), Heap.get?_push_ne _ _ _ (by rw [Heap.size_update]; exact Nat.ne_of_lt ha)]
  exact ho1
 show wpAny (model prog w) A _ P E { s with heap := ((s.heap.update a (Obj.mapSeq fun _ => #[])).push (seqObj "tuple" vs.toArray 0)).push (seqObj "list" #[] 0) }
 dsimp only
 have hn2 : vs.toArray.size < 2 := by rw [List.size_toArray]; lia
 rw [if_pos hn2, if_pos hn2]
 refine wpAny_bind (wpAny_pure ?_)
 simp only [StateT.run_pure]
 refine wpAny_bind (wpAny_pure ?_)
 dsimp only
 have har : (vs.toArray.zip vs.toArray).map (·.2) = vs.toArray := by
  apply Array.ext'
  rw [Array.toList_map, Array.toList_zip]
  simp [List.map_snd_zip]
 refine wpAny_bind (seqEpoch_at ho6 rfl ?_)
 refine wpAny_bind (listUpdate_at ho6 rfl ?_ (Nat.zero_le _) (by show ((vs.toArray.zip vs.toArray).map (·.2)).size ≤ _; rw [har, List.size_toArray]; lia))
 simp only [bne_self_eq_false, Bool.false_eq_true, if_false]
 rw [har]
 exact wpAny_pure h
theorem sorted_dict {d : Addr} {es : Array DictEntry} {ep : Nat} {Q : Value → Shared → Prop} {R : List Value → Prop} (hh : A.handled = none) (ns : (d == sysModules) = false) (x : DRaw s.heap d es ep) (hz : es.size ≤ sizeLine)
 (hr : 2 ≤ es.size → ∀ (h' : Heap) (tk : Nat), (∀ b o, s.heap.get? b = some o → h'.get? b = some o) → RunsTo prog w A.in1.in1 (es.toList.map (·.key)) { s with heap := h', toks := tk } R)
 (h : ∀ (h' : Heap) (tk : Nat) (l : Addr) (out : List Value) (n : Nat), (∀ b o, s.heap.get? b = some o → h'.get? b = some o) → s.heap.get? l = none → h'.get? l = some (seqObj "list" out.toArray n) → out.length = es.size → (2 ≤ es.size → R out) → (es.size < 2 → out = es.toList.map (·.key)) → Q (.ref l) { s with heap := h', toks := tk }) :
 wpAny (model prog w) A (call (.builtin "sorted") [.ref d]) Q E s := by
 refine Calls.call_function_entry kind_sorted plain_sorted entry_sorted (args_sorted1 _) ?_
 unfold Builtin.«sorted»
 refine wpAny_bind (m := checkCount "sorted" 1 1 _) (wpAny_pure ?_)
 refine wpAny_bind (PySem.W.kdu_collect (raw_src (prog := prog) (w := w) (es := es) (ep := ep) ns) hh x hz fun h1 tk acc k1 it => ?_)
 have hacc : acc.toList = es.toList.map (·.key) := by
  refine List.ext_getElem? fun j => ?_
  rw [Array.getElem?_toList, List.getElem?_map, Array.getElem?_toList]
  cases hj : acc[j]? with
  | none =>
    have : acc.size ≤ j := by simpa using hj
    rw [Array.getElem?_eq_none (by rw [← it.1]; exact this)]
    rfl
  | some v =>
    obtain ⟨en, e1, e2⟩ := it.2 j v hj
    rw [e1, e2]
    rfl
 rw [hacc]
 have hlen : (es.toList.map (·.key)).length = es.size := by simp
 generalize es.toList.map (·.key) = vs at *
 have hz' : vs.length ≤ sizeLine := by lia
 refine wpAny_bind (wpAny_newList ?_ hz')
 have hoL : (h1.push (seqObj "list" vs.toArray 0)).get? h1.objs.size = some (seqObj "list" vs.toArray 0) := Heap.get?_push_size _ rfl
 have hnl : s.heap.get? h1.objs.size = none := by
  cases q : s.heap.get? h1.objs.size with
  | none => rfl
  | some o => exact absurd (Heap.lt_size (k1 _ _ q)) (Nat.lt_irrefl _)
 have keep : ∀ b o, s.heap.get? b = some o → (h1.push (seqObj "list" vs.toArray 0)).get? b = some o := fun b o q => Heap.get?_push_of_some _ (k1 b o q)
 have neq : ∀ b o, s.heap.get? b = some o → b ≠ h1.objs.size := fun b o q z => by rw [z, hnl] at q; cases q
 have hlt : h1.objs.size < (h1.push (seqObj "list" vs.toArray 0)).objs.size := Heap.lt_size hoL
 generalize h1.push (seqObj "list" vs.toArray 0) = h2 at *
 generalize h1.objs.size = l at *
 have sAt : ∀ out : Array Value, ∃ n, (sortedHeap h2 l vs out).get? l = some (seqObj "list" out n) := fun out => by
  obtain ⟨e1, ho1⟩ : ∃ e1, (h2.update l (Obj.mapSeq fun _ => #[])).get? l = some (seqObj "list" #[] e1) := ⟨_, get?_update_seq hoL (fun _ => #[])⟩
  have ho2 : (((h2.update l (Obj.mapSeq fun _ => #[])).push (seqObj "tuple" vs.toArray 0)).push (seqObj "list" #[] 0)).get? l = some (seqObj "list" #[] e1) := Heap.get?_push_of_some _ (Heap.get?_push_of_some _ ho1)
  exact ⟨_, get?_update_seq ho2 (fun _ => out)⟩
 have sOld : ∀ (out : Array Value) b o, b ≠ l → h2.get? b = some o → (sortedHeap h2 l vs out).get? b = some o := fun out b o nb q => by
  unfold sortedHeap
  rw [Heap.get?_update_ne _ _ _ _ nb]
  refine Heap.get?_push_of_some _ (Heap.get?_push_of_some _ ?_)
  rw [Heap.get?_update_ne _ _ _ _ nb]
  exact q
 by_cases h2' : 2 ≤ vs.length
 ·refine wpAny_bind (wpAny_holding (wpAny_call_entry slot_list_sort ⟨_, hoL, rfl⟩ entry_list_sort (list_sort_raw (R := R) hoL h2' hz' (fun h' k => ?_) fun out a1 a2 => ⟨_, rfl, ?_⟩) (args_list_sort _)))
  ·exact hr (by lia) h' tk fun b o q => k b o (neq b o q) (keep b o q)
  ·obtain ⟨n, e⟩ := sAt out.toArray
   exact wpAny_pure ⟨_, rfl, h _ tk l out n (fun b o q => sOld _ b o (neq b o q) (keep b o q)) hnl e (by lia) (fun _ => a2) (fun z => by lia)⟩
 ·refine wpAny_bind (wpAny_holding (wpAny_call_entry slot_list_sort ⟨_, hoL, rfl⟩ entry_list_sort (list_sort_short hoL (by lia) ⟨_, rfl, ?_⟩) (args_list_sort _)))
  obtain ⟨n, e⟩ := sAt vs.toArray
  exact wpAny_pure ⟨_, rfl, h _ tk l vs n (fun b o q => sOld _ b o (neq b o q) (keep b o q)) hnl e (by lia) (fun z => by lia) (fun _ => rfl)⟩
end
end L2
namespace L2
open PySem PySem.Spec PyProof.Rows
section
variable {κ : Type} [DecidableEq κ]
end
section
variable {P : Program} {w : World} {H : Hp} {h : Heap} {a : Addr}
end
section
variable {X : Cx} {pins : List (Addr × Obj)} {σ : St} {H : Hp} {s : Shared} {a : Addr} {y v : V} {u r : Value} {o : Option V} {A : Around} {E : Value → Shared → Prop}
theorem Inv.big (I : Inv X pins σ H s) : sysModules < s.heap.objs.size := by
 have h : mainGlobals < s.heap.objs.size := (I.mod.glob.keeps I.bk).lt
 exact Nat.lt_trans (by decide) h
theorem d_write {h' : Heap} {t' : Nat} {ob : HO} (I : Inv X pins σ H s) (mu : Mut (H a)) (hs : Heap.SameBut a s.heap h') (he : ∃ q, h'.get? a = some q) (new : ObjOk X.prog X.w (upd H a ob) h' a ob) :
 Inv X pins σ (upd H a ob) { s with heap := h', toks := t' } :=
 I.write (x := a) (e := a) mu (.inl rfl) (fun b q hb z => (hs.2 b hb).trans z) he new
end
section
variable {X : Cx} {pins : List (Addr × Obj)} {σ : St} {H : Hp} {s : Shared} {a : Addr} {kvs : List (Key × V)} {k : Key} {u : Value} {A : Around} {E : Value → Shared → Prop}
end
section
variable {X : Cx} {o i e value : Expr} {pos pos' tpos : Pos} {td ty tv : TE}
end
end L2
namespace L2
open PySem PySem.Spec PyProof.Rows
def adOf : Value → Addr
 | .ref a => a
 | _ => 0
def kk (k : Int × Int) : List Key := [Sum.inl k.1, Sum.inl k.2]
section
variable {X : Cx} {pins : List (Addr × Obj)} {σ : St} {H : Hp} {s : Shared}
end
end L2
namespace L2
open PySem PySem.Spec PyProof.Rows
section
variable {X : Cx} {pos : Pos}
end
structure M1 (X : Cx) (o : Expr) (m : Str) (apos : Pos) (e : Expr) (cpos : Pos) : Prop where
 base : attributeBase o m X.env (eval o X.env) = eval o X.env
 few : ((backTo cpos (starEach [e] X.env)).all (fun x => !x.1) && (backToKw cpos (keywordEach [] X.env)).all (fun x => x.1.isSome)
  && decide (([e] : List Expr).length + ([] : List Keyword).length + (if ([] : List Keyword).isEmpty then 0 else 1) < 30)) = true
 line : (apos.endLine == cpos.line) = true
 trees : backTo cpos (starEach [e] X.env) = [(false, eval e X.env)]
structure M2 (X : Cx) (o : Expr) (m : Str) (apos : Pos) (e f : Expr) (cpos : Pos) : Prop where
 base : attributeBase o m X.env (eval o X.env) = eval o X.env
 few : ((backTo cpos (starEach [e, f] X.env)).all (fun x => !x.1) && (backToKw cpos (keywordEach [] X.env)).all (fun x => x.1.isSome)
  && decide (([e, f] : List Expr).length + ([] : List Keyword).length + (if ([] : List Keyword).isEmpty then 0 else 1) < 30)) = true
 line : (apos.endLine == cpos.line) = true
 trees : backTo cpos (starEach [e, f] X.env) = [(false, eval e X.env), (false, eval f X.env)]
section
variable {X : Cx} {pins : List (Addr × Obj)} {σ : St} {H : Hp} {s : Shared} {a : Addr} {y d : V} {u r : Value} {o : Option V} {A : Around} {E : Value → Shared → Prop}
end
section
variable {X : Cx} {o e f : Expr} {apos cpos : Pos} {td ty tx : TE}
end
end L2
namespace L2
open PySem PySem.Spec PyProof.Rows HT
def fullS (x : (Int × List Int) × Addr) : (Int × List Int) × Addr × Value := (x.1, x.2, .bool true)
def DStO (P : Program) (w : World) (d : Addr) (xs : List ((Int × List Int) × Addr)) (h : Heap) : Prop :=
 xs.length ≤ sizeLine ∧ (d == sysModules) = false ∧ (xs.map (·.1)).Nodup ∧ ∃ o es ep, h.get? d = some o ∧ o.ExactDict ∧ o.data = .dict es ep ∧ es.toList = (xs.map fullS).map (entryOfKey (standKind P w))
def DSt (P : Program) (w : World) (d : Addr) (xs : List ((Int × List Int) × Addr)) : HO := .ext (DStO P w d xs)
def StAt (H : Hp) (p : Int × List Int) (a : Addr) : Prop := ∃ b, H a = some (.tup [.int p.1, .ref b]) ∧ H b = some (.tup (p.2.map V.int))
theorem DStO.stable {P : Program} {w : World} {d : Addr} {xs : List ((Int × List Int) × Addr)} (h1 h2 : Heap) (x : DStO P w d xs h1) (k : ∀ o, h1.get? d = some o → h2.get? d = some o) : DStO P w d xs h2 := by
 obtain ⟨a, b, c, o, es, ep, e1, e2, e3, e4⟩ := x
 exact ⟨a, b, c, o, es, ep, k _ e1, e2, e3, e4⟩
theorem dst_ok {P : Program} {w : World} {d : Addr} {xs : List ((Int × List Int) × Addr)} {H : Hp} {h : Heap} (x : DStO P w d xs h) : ObjOk P w H h d (DSt P w d xs) :=
 ⟨x, let ⟨_, _, _, o, _, _, e, _⟩ := x; ⟨o, e⟩, fun h1 h2 y k => y.stable h1 h2 k⟩
section
variable {X : Cx} {pins : List (Addr × Obj)} {σ : St} {H : Hp} {s : Shared} {a d : Addr} {p : Int × List Int} {xs : List ((Int × List Int) × Addr)} {A : Around} {E : Value → Shared → Prop}
theorem items_ints {P : Program} {w : World} : ∀ {ns : List Int} {its : List Value}, Vals (ns.map V.int) its → ItemsAre (intKind P w) ns its
 | [], _, r => by rw [List.map_nil] at r; cases r; exact .nil
 | n :: ns, _, r => by
   rw [List.map_cons] at r
   cases r with
   | cons h t =>
     obtain ⟨tt, rfl⟩ := (show ∃ t, _ = Value.int n t from h)
     exact .cons (intKind_is P w n tt) (items_ints t)
theorem st_key (I : Inv X pins σ H s) (h : StAt H p a) : IsStandKey X.prog X.w s.heap p a := by
 obtain ⟨b, h1, h2⟩ := h
 obtain ⟨_, its, r, o, e1, e2, n, e3⟩ := (show ObjOk X.prog X.w H s.heap a (.tup [.int p.1, .ref b]) from I.hok a _ h1)
 obtain ⟨_, jts, q, o', f1, f2, n', f3⟩ := (show ObjOk X.prog X.w H s.heap b (.tup (p.2.map V.int)) from I.hok b _ h2)
 cases r with
 | cons r1 r =>
   cases r with
   | cons r2 r =>
     cases r
     obtain ⟨t, rfl⟩ := (show ∃ t, _ = Value.int p.1 t from r1)
     obtain rfl : _ = Value.ref b := r2
     exact ⟨o, b, t, n, e1, e2, e3, o', jts.toArray, n', f1, f2, f3, by simpa using items_ints q⟩
theorem dst_of (I : Inv X pins σ H s) (h : H d = some (DSt X.prog X.w d xs)) : DStO X.prog X.w d xs s.heap :=
 (show ObjOk X.prog X.w H s.heap d (DSt X.prog X.w d xs) from I.hok d _ h).1
theorem dst_dict (I : Inv X pins σ H s) (h : H d = some (DSt X.prog X.w d xs)) (hk : ∀ x ∈ xs, StAt H x.1 x.2) : s.heap.DictOfH (standKind X.prog X.w) d (xs.map fullS) := by
 obtain ⟨_, _, c, o, es, ep, e1, e2, e3, e4⟩ := dst_of I h
 refine ⟨o, es, ep, e1, e2, e3, e4, fun x hx => ?_, by rw [List.map_map]; exact c⟩
 obtain ⟨y, hy, rfl⟩ := List.mem_map.mp hx
 exact st_key I (hk y hy)
theorem at_full : ∀ {xs : List ((Int × List Int) × Addr)} {p : Int × List Int}, (atKey (xs.map fullS) p).isSome = decide (p ∈ xs.map (·.1))
 | [], p => by simp [atKey]
 | x :: xs, p => by
   have ih := at_full (xs := xs) (p := p)
   unfold atKey at ih ⊢
   rw [List.map_cons, List.find?_cons]
   by_cases z : x.1 = p
   ·simp [fullS, z]
   ·have : (decide ((fullS x).1 = p)) = false := decide_eq_false z
    rw [this]
    simp only [List.map_cons, List.mem_cons]
    rw [ih]
    simp [Ne.symm z]
theorem ds_notIn {Q : Value → Shared → Prop} (hu : A.units + 2 < cLine) (I : Inv X pins σ H s) (h : H d = some (DSt X.prog X.w d xs)) (hk : ∀ x ∈ xs, StAt H x.1 x.2) (ha : StAt H p a) (q : ∀ s', Inv X pins σ H s' → Q (.bool (!decide (p ∈ xs.map (·.1)))) s') :
 wpAny (model X.prog X.w) A (compareOp .NotIn (.ref a) (.ref d)) Q E s := by
 refine wpAny_notIn_heap (knd := standKind X.prog X.w) (show A.units + 1 + 1 < cLine by lia) (st_key I ha) (dst_of I h).2.1 (dst_dict I h hk) ?_
 rw [at_full]
 exact q _ (I.tok _)
theorem ds_put {Q : Unit → Shared → Prop} (hu : A.units + 2 < cLine) (I : Inv X pins σ H s) (h : H d = some (DSt X.prog X.w d xs)) (hk : ∀ x ∈ xs, StAt H x.1 x.2) (ha : StAt H p a) (hn : p ∉ xs.map (·.1)) (hz : xs.length < sizeLine)
 (q : ∀ s', Inv X pins σ (upd H d (DSt X.prog X.w d (xs ++ [(p, a)]))) s' → Q () s') : wpAny (model X.prog X.w) A (setItem (.ref d) (.ref a) (.bool true)) Q E s := by
 refine wpAny_setItem_heap (knd := standKind X.prog X.w) (hsz := by rw [List.length_map]; lia) (show A.units + 1 + 1 < cLine by lia) (st_key I ha) (dst_dict I h hk) fun h' dd' hs => q _ ?_
 obtain ⟨o, es, ep, hq, h2, h3, h4, _, h5⟩ := dd'
 have hnone : atKey (xs.map fullS) p = none := by
  cases z : atKey (xs.map fullS) p with
  | none => rfl
  | some u =>
    have := at_full (xs := xs) (p := p)
    rw [z, decide_eq_false hn] at this
    cases this
 rw [storedH_new hnone] at h4 h5
 refine d_write I (by rw [h]; exact True.intro) hs ⟨o, hq⟩ (dst_ok ⟨by simp; lia, (dst_of I h).2.1, ?_, o, es, ep, hq, h2, h3, by rw [h4]; simp [fullS]⟩)
 have e : (xs ++ [(p, a)]).map (·.1) = (xs.map fullS ++ [(p, a, Value.bool true)]).map (·.1) := by simp [fullS, Function.comp_def]
 rw [e]
 exact h5
theorem ds_len {Q : Value → Shared → Prop} (I : Inv X pins σ H s) (h : H d = some (DSt X.prog X.w d xs)) (q : ∀ t s', Inv X pins σ H s' → Q (.int xs.length t) s') : wpAny (model X.prog X.w) A (call (.builtin "len") [.ref d]) Q E s := by
 obtain ⟨hz, hd, c, o, es, ep, e1, e2, e3, e4⟩ := dst_of I h
 have hsz : es.size = xs.length := by rw [← Array.length_toList, e4, List.length_map, List.length_map]
 rw [sizeLine_eq] at hz
 have hT : s.TypeIs (.ref d) "dict" := ⟨o, e1, e2.1⟩
 have M : MeetsIn X.prog X.w (Builtin.«dict.__len__» ⟨[.ref d], []⟩) (fun _ R s' => s' = s ∧ R (.ok (.ret (.int xs.length s.toks))) { s with toks := s.toks + 1 }) := by
  refine .of_wp fun A R s' ⟨es', h'⟩ => ?_
  subst es'
  show wpAny _ _ (dictSize d >>= _) _ _ s'
  unfold dictSize
  refine wpAny_bind (wpAny_bind (wpAny_dictEntries e1 e3 (wpAny_pure ?_)))
  show wpAny _ _ (Builtin.Dict.pendingCount d >>= _) _ _ s'
  refine wpAny_bind (wpAny_pendingCount_other hd ?_)
  refine wpAny_ret_mkInt ?_
  rw [Nat.add_zero, hsz]; exact h'
 refine Calls.call_function_entry kind_len plain_len entry_len (args_len1 _) ?_
 unfold Builtin.«len»
 refine wpAny_bind (m := oneArg "len" _) (wpAny_pure ?_)
 refine wpAny_bind (m := callSpecial? (.ref d) (Str.ofString "__len__")) (wpAny_callSpecial?_slot (name := Str.ofString "__len__") hT F.slot_dict_len
  (call_meetsIn F.slot_dict_len hT F.entry_dict_len (F.args_dict_len_1 _) M ⟨rfl, ?_⟩))
 show wpAny _ _ _ _ _ { s with toks := s.toks + 1 }
 refine wpAny_bind (wpAny_holding (wpAny_pure ?_))
 refine wpAny_bind (wpAny_letGo ?_)
 show wpAny _ _ (if ((xs.length : Nat) : Int) < 0 then _ else _) _ _ _
 rw [if_neg (by lia)]
 show wpAny _ _ (if ((xs.length : Nat) : Int) ≥ 2 ^ 63 then _ else _) _ _ _
 rw [if_neg (by lia)]
 exact wpAny_bind (wpAny_mkInt (wpAny_pure ⟨_, rfl, q _ _ ((I.tok _).tok _)⟩))
end
end L2
namespace L2
open PySem PySem.Spec PyProof.Rows HT
open Classical in
noncomputable def stOf (P : Program) (w : World) (h : Heap) (v : Value) : Int × List Int := if q : ∃ p a, v = .ref a ∧ IsStandKey P w h p a then q.choose else (0, [])
theorem stOf_eq {P : Program} {w : World} {h : Heap} {a : Addr} {p : Int × List Int} (x : IsStandKey P w h p a) : stOf P w h (.ref a) = p := by
 have q : ∃ p a', Value.ref a = .ref a' ∧ IsStandKey P w h p a' := ⟨p, a, rfl, x⟩
 unfold stOf
 rw [dif_pos q]
 obtain ⟨a', e, y⟩ := q.choose_spec
 cases e
 exact y.inj x
def StAll (H : Hp) (ts : List Addr) (ms : List (Int × List Int)) : Prop := Paired (fun t p => StAt H p t) ts ms
def rSortS (P : Program) (w : World) : List V → Hp → VK → Prop := fun vs H Q => ∃ d xs, vs = [.ref d] ∧ H d = some (DSt P w d xs) ∧ (∀ x ∈ xs, StAt H x.1 x.2) ∧
 ∀ l ts ms, H l = none → StAll H ts ms → ms.Perm (xs.map (·.1)) → (ms.Pairwise fun a b => pairLt b a = false) → Q (.ref l) (upd H l (.lst (ts.map V.ref)))
section
variable {X : Cx}
theorem call_sortedS (hu : X.A.units + 64 < cLine) (hc : X.calm = true) (hex : X.ex = []) : CallR X (.builtin "sorted") (rSortS X.prog X.w) := by
 walk_at "z25"
 obtain ⟨d, xs, rfl, hd, hk, q⟩ := h
 obtain ⟨u, rfl, ru⟩ := vals1 r
 cases ru
 obtain ⟨z, ns, g5, o, es, ep, g1, g2, g3, g4⟩ := dst_of I hd
 have hkey : es.toList.map (·.key) = (xs.map (·.2)).map Value.ref := by
  rw [g4, List.map_map, List.map_map, List.map_map]
  rfl
 have hsz : es.size = xs.length := by rw [← Array.length_toList, g4, List.length_map, List.length_map]
 have hin : ∀ v ∈ es.toList.map (·.key), ∃ x ∈ xs, v = .ref x.2 ∧ IsStandKey X.prog X.w s.heap x.1 x.2 := fun v hv => by
  rw [hkey, List.map_map] at hv
  obtain ⟨x, hx, rfl⟩ := List.mem_map.mp hv
  exact ⟨x, hx, rfl, st_key I (hk x hx)⟩
 have moved : ∀ {h' : Heap} {p : Int × List Int} {a : Addr}, (∀ b o, s.heap.get? b = some o → h'.get? b = some o) → IsStandKey X.prog X.w s.heap p a → IsStandKey X.prog X.w h' p a := by
  intro h' p a kp ⟨o, b, t, n, e1, e2, e3, o2, i2, n2, f1, f2, f3, f4⟩
  exact ⟨o, b, t, n, kp _ _ e1, e2, e3, o2, i2, n2, kp _ _ f1, f2, f3, f4⟩
 refine sorted_dict (R := fun out => out.Perm (es.toList.map (·.key)) ∧ out.Pairwise fun a b => pairLt (stOf X.prog X.w s.heap b) (stOf X.prog X.w s.heap a) = false) (I.ok.hd hc) ns ⟨o, g1, g2, g3⟩ (by lia) (fun h2 h' tk keep => ?_) (fun h' tk l out n keep hl e hlen hR hS => ?_)
 ·refine runs_stands (s := { s with heap := h', toks := tk }) (κ := stOf X.prog X.w s.heap) (by show X.A.units + 1 + 1 + 1 < cLine; lia) (by simpa using h2) fun v hv => ?_
  obtain ⟨x, hx, rfl, ks⟩ := hin v hv
  exact ⟨x.2, rfl, by rw [stOf_eq ks]; exact moved keep ks⟩
 ·have hperm : out.Perm ((xs.map (·.2)).map Value.ref) := by
   rw [← hkey]
   by_cases h2 : 2 ≤ es.size
   ·exact (hR h2).1
   ·rw [hS (by lia)]
  have hsort : out.Pairwise fun a b => pairLt (stOf X.prog X.w s.heap b) (stOf X.prog X.w s.heap a) = false := by
   by_cases h2 : 2 ≤ es.size
   ·exact (hR h2).2
   ·match out, hlen with
    | [], _ => exact .nil
    | [_], _ => exact List.pairwise_singleton _ _
    | _ :: _ :: _, hl => simp at hl; lia
  have hts : (out.map adOf).Perm (xs.map (·.2)) := by
   have := hperm.map adOf
   rw [List.map_map] at this
   have e : (xs.map (·.2)).map (adOf ∘ Value.ref) = xs.map (·.2) := by
    conv => rhs; rw [← List.map_id (xs.map (·.2))]
    rfl
   rwa [e] at this
  have hout : out = (out.map adOf).map Value.ref := by
   rw [List.map_map]
   conv => lhs; rw [← List.map_id out]
   refine List.map_congr_left fun v hv => ?_
   obtain ⟨t, _, rfl⟩ := List.mem_map.mp (hperm.mem_iff.mp hv)
   rfl
  generalize out.map adOf = ts at hts hout
  subst hout
  have hH : ∀ t ∈ ts, StAt H (stOf X.prog X.w s.heap (.ref t)) t := fun t ht => by
   obtain ⟨x, hx, rfl⟩ := List.mem_map.mp (hts.mem_iff.mp ht)
   rw [stOf_eq (st_key I (hk x hx))]
   exact hk x hx
  have hP2 : StAll H ts (ts.map fun t => stOf X.prog X.w s.heap (.ref t)) := by
   clear hperm hsort hts e hlen hR hS
   induction ts with
   | nil => exact .nil
   | cons t ts ih => exact .cons (hH t List.mem_cons_self) (ih fun u hu => hH u (List.mem_cons_of_mem _ hu))
  have hks2 : (xs.map (·.2)).map (fun t => stOf X.prog X.w s.heap (.ref t)) = xs.map (·.1) := by
   rw [List.map_map]
   exact List.map_congr_left fun x hx => stOf_eq (st_key I (hk x hx))
  have hmp : (ts.map fun t => stOf X.prog X.w s.heap (.ref t)).Perm (xs.map (·.1)) := by
   have := hts.map fun t => stOf X.prog X.w s.heap (.ref t)
   rwa [hks2] at this
  have hpw : (ts.map fun t => stOf X.prog X.w s.heap (.ref t)).Pairwise fun a b => pairLt b a = false := by
   rw [List.pairwise_map] at hsort ⊢
   exact hsort
  have hHl : H l = none := by
   cases q' : H l with
   | none => rfl
   | some u =>
     obtain ⟨ob, z'⟩ := (I.hok l u q').there
     rw [hl] at z'
     cases z'
  have hs0 : X.s₀.heap.get? l = none := by
   cases z' : X.s₀.heap.get? l with
   | none => rfl
   | some ob =>
     obtain ⟨o', z2⟩ := I.base.there l ob z' (by rw [hex]; simp)
     rw [hl] at z2
     cases z2
  have I1 := I.kept (t' := tk) (h' := h') keep
  have v : Vals (ts.map V.ref) (ts.map Value.ref) := by
   clear hperm hsort hts e hlen hR hS hP2 hH hmp hpw
   induction ts with
   | nil => exact .nil
   | cons t ts ih => exact .cons rfl ih
  have lz : (ts.map V.ref).length ≤ sizeLine := by
   rw [List.length_map] at hlen ⊢
   lia
  refine ⟨.ref l, upd H l (.lst (ts.map V.ref)), I1.trackN hHl (fun z' => ?_) hs0 (fun y c hy z' => ?_) (fun p hp z' => ?_) ⟨lz, ts.map Value.ref, n, v, ?_⟩, rfl, q l ts _ hHl hP2 hmp hpw⟩
  ·obtain ⟨m, hm, _⟩ := I.loc
   obtain ⟨ob, _, _, hb, _⟩ := hm
   rw [← z', hl] at hb
   cases hb
  ·obtain ⟨v', ob, hb, _⟩ := I.cell y c hy
   rw [z', hl] at hb
   cases hb
  ·have := (I.pin p hp).1
   rw [z', hl] at this
   cases this
  ·simpa [seqObj] using e
def tDispS (P : Program) (w : World) (tk tv : TE) : TE := fun σ H Q => ∀ d, H d = none → tk σ (upd H d (DSt P w d [])) fun x H1 => tv σ H1 fun y H2 => y = .bl true ∧ ∃ a p, x = .ref a ∧ H2 d = some (DSt P w d []) ∧ StAt H2 p a ∧ Q (.ref d) (upd H2 d (DSt P w d [(p, a)]))
theorem pe_dispS {pos : Pos} {k v : Expr} {tk tv : TE} (hu : X.A.units + 64 < cLine) (hk : PE X k tk) (hv : PE X v tv) : PE X (.Dict [some k] [v] pos) (tDispS X.prog X.w tk tv) := by
 intro pins s σ H Q I q
 have hn := I.hok.fresh (Nat.le_refl s.heap.objs.size)
 have hd0 : (s.heap.objs.size == sysModules) = false := beq_eq_false_iff_ne.mpr (Ne.symm (Nat.ne_of_lt I.big))
 have I1 := I.laid (a := s.heap.objs.size) (o := DSt X.prog X.w s.heap.objs.size []) (h' := s.heap.push { cls := .type "dict", data := .dict #[] }) (t' := s.toks) (fun _ _ q => Heap.get?_push_of_some _ q) (Nat.le_refl _)
  (dst_ok ⟨Nat.zero_le _, hd0, List.nodup_nil, _, #[], 0, Heap.get?_push_size _ rfl, ⟨rfl, rfl, rfl⟩, rfl, rfl⟩)
 have hp := zip_pairTrees [some k] [v] X.env pos rfl rfl
 have hlen := pairTrees_length [some k] [v] X.env pos rfl rfl
 have hne : pairTrees [some k] [v] X.env pos ≠ [] := fun e => by rw [e] at hlen; cases hlen
 rw [arm_eval_Dict, hp, dictDisplay_pairs _ hne (by rw [hlen]; show 1 < 17; decide)]
 refine wpAny_bind (wpAny_standAt (wpAny_bind ?_))
 unfold subDict
 refine wpAny_bind (wpAny_alloc ?_)
 refine wpAny_bind (wpAny_holding ?_)
 rw [if_pos (by rw [hlen]; show 1 ≤ 15; decide)]
 refine wpAny_bind (pairTrees_cons_walk (thn (hk pins _ σ _ _ I1 (q _ hn)) fun u s1 ⟨x, H1, I2, rx, q1⟩ => thn (hv pins s1 σ H1 _ I2 q1) fun w2 s2 ⟨y, H2, I3, ry, e1, a, p, ex, e2, e3, q2⟩ => pairTrees_nil_walk ?_))
 subst e1 ex
 obtain rfl : u = Value.ref a := rx
 obtain rfl : w2 = Value.bool true := ry
 refine wpAny_holding ?_
 rw [List.forIn_cons]
 have dd := dst_dict I3 e2 (by simp)
 refine wpAny_bind (wpAny_bind (wpAny_bind (wpAny_dictSet_heap (knd := standKind X.prog X.w) (hsz := Nat.zero_le _) (show X.A.units + 1 < cLine by lia) (st_key I3 e3) dd fun h' dd' hs => wpAny_pure ?_)))
 show wpAny _ _ (forIn ([] : List (Value × Value)) PUnit.unit _) _ _ _
 rw [List.forIn_nil]
 refine wpAny_pure (wpAny_pure (wpAny_pure (wpAny_pure ?_)))
 obtain ⟨o, es, ep, hq, h2, h3, h4, _, h5⟩ := dd'
 rw [storedH_new rfl] at h4 h5
 refine ⟨.ref s.heap.objs.size, _, d_write I3 (by rw [e2]; exact True.intro) hs ⟨o, hq⟩ (dst_ok ⟨by simp [sizeLine_eq], hd0, by simp, o, es, ep, hq, h2, h3, by rw [h4]; simp [fullS]⟩), rfl, q2⟩
end
end L2
namespace L2
open PySem PySem.Spec PyProof.Rows HT
def tNotInS (P : Program) (w : World) (ty td : TE) : TE := fun σ H Q => ty σ H fun y H1 => td σ H1 fun x H2 => ∃ a d p xs, y = .ref a ∧ x = .ref d ∧ H2 d = some (DSt P w d xs) ∧ (∀ x ∈ xs, StAt H2 x.1 x.2) ∧ StAt H2 p a ∧ Q (.bl (!decide (p ∈ xs.map (·.1)))) H2
def sPutS (P : Program) (w : World) (td ty tv : TE) : TS := fun D σ H => tv σ H fun v H1 => td σ H1 fun x H2 => ty σ H2 fun y H3 => v = .bl true ∧ ∃ a d p xs, y = .ref a ∧ x = .ref d ∧ H3 d = some (DSt P w d xs) ∧ (∀ x ∈ xs, StAt H3 x.1 x.2) ∧ StAt H3 p a ∧ p ∉ xs.map (·.1) ∧ xs.length < sizeLine ∧ D.nx σ (upd H3 d (DSt P w d (xs ++ [(p, a)])))
def rLenS (P : Program) (w : World) : List V → Hp → VK → Prop := fun vs H Q => ∃ d xs, vs = [.ref d] ∧ H d = some (DSt P w d xs) ∧ Q (.int xs.length) H
section
variable {X : Cx} {o i e value : Expr} {pos pos' tpos : Pos} {td ty tv : TE}
theorem pc_notinS (hu : X.A.units + 64 < cLine) (hi : PE X i ty) (ho : PE X o td) : PC X .NotIn i o (tNotInS X.prog X.w ty td) := by
 walk_at "z9"
 refine thn (hi pins s σ H _ I h) fun iv s1 ⟨y, H1, I1, ry, q1⟩ => thn (ho pins s1 σ H1 _ I1 q1) fun u s2 ⟨x, H2, I2, rx, a, d, p, xs, ey, ex, hd, hk, ha, q2⟩ => ?_
 subst ex ey
 obtain rfl : u = Value.ref d := rx
 obtain rfl : iv = Value.ref a := ry
 exact ds_notIn (by lia) I2 hd hk ha fun s3 I3 => ⟨V.bl _, H2, I3, rfl, q2⟩
theorem ps_dputS (hu : X.A.units + 64 < cLine) (ho : PE X o td) (hi : PE X i ty) (hv : PE X value tv) (hs : swapsWith value (some (.Subscript o i pos')) pos.line X.env = pure false) :
 PS X (.Assign [.Subscript o i pos'] value pos) (sPutS X.prog X.w td ty tv) := by
 intro pins s σ H D I h
 refine wpAny_Assign_Subscript (thn (hv pins s σ H _ I h) fun r s1 ⟨v, H1, I1, rv, q1⟩ => thn (ho pins s1 σ H1 _ I1 q1) fun u s2 ⟨x, H2, I2, rx, q2⟩ => thn (hi pins s2 σ H2 _ I2 q2) fun iv s3 ⟨y, H3, I3, ry, ev, a, d, p, xs, ey, ex, hd, hk, ha, hn, hz, q3⟩ => ?_) hs
 subst ex ey ev
 obtain rfl : u = Value.ref d := rx
 obtain rfl : iv = Value.ref a := ry
 obtain rfl : r = Value.bool true := rv
 exact ds_put (by lia) I3 hd hk ha hn hz fun s4 I4 => ⟨σ, _, I4, q3⟩
theorem call_lenS : CallR X (.builtin "len") (rLenS X.prog X.w) := by
 intro pins s σ H vs us Q I r h
 obtain ⟨d, xs, rfl, hd, q⟩ := h
 obtain ⟨u, rfl, ru⟩ := vals1 r
 cases ru
 exact ds_len I hd fun t s' I' => ⟨.int xs.length, H, I', ⟨t, rfl⟩, q⟩
theorem pe_dispSK {k v : Expr} {tk tv : TE} (P : Program) (w : World) (hu : X.A.units + 64 < cLine) (hk : PE X k tk) (hv : PE X v tv) (hP : X.prog = P := by rfl) (hw : X.w = w := by rfl) : PE X (.Dict [some k] [v] pos) (tDispS P w tk tv) := by subst hP hw; exact pe_dispS hu hk hv
theorem pc_notinSK (P : Program) (w : World) (hu : X.A.units + 64 < cLine) (hi : PE X i ty) (ho : PE X o td) (hP : X.prog = P := by rfl) (hw : X.w = w := by rfl) : PC X .NotIn i o (tNotInS P w ty td) := by subst hP hw; exact pc_notinS hu hi ho
theorem ps_dputSK (P : Program) (w : World) (hu : X.A.units + 64 < cLine) (ho : PE X o td) (hi : PE X i ty) (hv : PE X value tv) (hs : swapsWith value (some (.Subscript o i pos')) pos.line X.env = pure false) (hP : X.prog = P := by rfl) (hw : X.w = w := by rfl) :
 PS X (.Assign [.Subscript o i pos'] value pos) (sPutS P w td ty tv) := by subst hP hw; exact ps_dputS hu ho hi hv hs
theorem call_lenSK (P : Program) (w : World) (hP : X.prog = P := by rfl) (hw : X.w = w := by rfl) : CallR X (.builtin "len") (rLenS P w) := by subst hP hw; exact call_lenS
theorem call_sortedSK (P : Program) (w : World) (hu : X.A.units + 64 < cLine) (hc : X.calm = true) (hex : X.ex = []) (hP : X.prog = P := by rfl) (hw : X.w = w := by rfl) : CallR X (.builtin "sorted") (rSortS P w) := by subst hP hw; exact call_sortedS hu hc hex
end
end L2
namespace L2
open PySem PySem.Spec PyProof.Rows HT
section
variable {prog : Program} {w : World} {A : Around} {E : Value → Shared → Prop} {s : Shared}
theorem sorted_few {l : Addr} {vs : List Value} {Q : Value → Shared → Prop} (hl : s.heap.IsList l vs.toArray) (h2 : vs.length < 2) (hz : vs.length ≤ sizeLine) (h : Q (.ref (s.heap.objs.size + 1)) { s with heap := sortedAll s.heap vs vs.toArray }) :
 wpAny (model prog w) A (call (.builtin "sorted") [.ref l]) Q E s := by
 refine Calls.call_function_entry kind_sorted plain_sorted entry_sorted (args_sorted1 _) ?_
 unfold Builtin.«sorted»
 refine wpAny_bind (m := checkCount "sorted" 1 1 _) (wpAny_pure ?_)
 refine wpAny_bind (collect_list hl (wpAny_bind (wpAny_newList ?_ hz)) hz)
 have hsz : ((s.heap.push (seqObj "list" #[] 0)).update s.heap.objs.size (Obj.mapSeq (· ++ vs.toArray))).objs.size = s.heap.objs.size + 1 := by
  rw [Heap.size_update, size_push']
 have hoL : (((s.heap.push (seqObj "list" #[] 0)).update s.heap.objs.size (Obj.mapSeq (· ++ vs.toArray))).push (seqObj "list" vs.toArray 0)).get? (s.heap.objs.size + 1) = some (seqObj "list" vs.toArray 0) := by
  rw [← hsz]; exact Heap.get?_push_size _ rfl
 show wpAny _ _ _ _ _ { s with heap := ((s.heap.push (seqObj "list" #[] 0)).update s.heap.objs.size (Obj.mapSeq (· ++ vs.toArray))).push (seqObj "list" vs.toArray 0) }
 rw [hsz]
 refine wpAny_bind (wpAny_holding (wpAny_call_entry slot_list_sort ⟨_, hoL, rfl⟩ entry_list_sort (list_sort_short hoL h2 ⟨_, rfl, ?_⟩) (args_list_sort _)))
 exact wpAny_pure ⟨_, rfl, h⟩
end
def rSortSL (K : PySem.W.Frag) : List V → Hp → VK → Prop := fun vs H Q => ∃ l0 ts0 ms0, vs = [.ref l0] ∧ SqL K H l0 (ts0.map V.ref) ∧ StAll H ts0 ms0 ∧
 ∀ l ts ms, H l = none → StAll H ts ms → ms.Perm ms0 → (ms.Pairwise fun a b => pairLt b a = false) → Q (.ref l) (upd H l (.lst (ts.map V.ref)))
section
variable {X : Cx}
theorem StAll.mem {H : Hp} : ∀ {ts : List Addr} {ms : List (Int × List Int)}, StAll H ts ms → ∀ t ∈ ts, ∃ p, StAt H p t
 | _, _, .nil, t, h => by cases h
 | _, _, .cons a b, t, h => by
   rcases List.mem_cons.mp h with rfl | h
   ·exact ⟨_, a⟩
   ·exact StAll.mem b t h
theorem StAll.keys {H : Hp} {s : Shared} {κ : Value → Int × List Int} : ∀ {ts : List Addr} {ms : List (Int × List Int)}, StAll H ts ms → (∀ t p, StAt H p t → κ (.ref t) = p) → ms = ts.map fun t => κ (.ref t)
 | _, _, .nil, _ => rfl
 | _, _, .cons a b, h => by rw [List.map_cons, h _ _ a, ← StAll.keys (s := s) b h]
theorem refs_of : ∀ {ts : List Addr} {its : List Value}, Vals (ts.map V.ref) its → its = ts.map Value.ref
 | [], _, .nil => rfl
 | t :: ts, _, .cons a b => by rw [refs_of b]; cases a; rfl
theorem refs_to : ∀ ts : List Addr, Vals (ts.map V.ref) (ts.map Value.ref)
 | [] => .nil
 | t :: ts => .cons rfl (refs_to ts)
theorem call_sortedSL (hu : X.A.units + 64 < cLine) : CallR X (.builtin "sorted") (rSortSL X.K) := by
 walk_at "z25"
 obtain ⟨p, ts0, ms0, rfl, hq, hk, q⟩ := h
 obtain ⟨u, rfl, ru⟩ := vals1 r
 cases ru
 obtain ⟨its, rv, pl, hz⟩ := I.list hq
 obtain rfl := refs_of rv
 have hl : (ts0.map Value.ref).length = ts0.length := by simp
 have hz' : (ts0.map Value.ref).length ≤ sizeLine := by rw [← rv.length]; exact hz
 have key : ∀ t p, StAt H p t → stOf X.prog X.w s.heap (.ref t) = p := fun t p z => stOf_eq (st_key I z)
 have hms := hk.keys (s := s) key
 have moved : ∀ {h' : Heap} {p : Int × List Int} {a : Addr}, (∀ b o, s.heap.get? b = some o → h'.get? b = some o) → IsStandKey X.prog X.w s.heap p a → IsStandKey X.prog X.w h' p a := by
  intro h' p a kp ⟨o, b, t, n, e1, e2, e3, o2, i2, n2, f1, f2, f3, f4⟩
  exact ⟨o, b, t, n, kp _ _ e1, e2, e3, o2, i2, n2, kp _ _ f1, f2, f3, f4⟩
 have fin : ∀ out : List Value, out.Perm (ts0.map Value.ref) → (out.Pairwise fun a b => pairLt (stOf X.prog X.w s.heap b) (stOf X.prog X.w s.heap a) = false) → EP X pins σ Q (.ref (s.heap.objs.size + 1)) { s with heap := sortedAll s.heap (ts0.map Value.ref) out.toArray } := by
  intro out hp hs
  have hts : (out.map adOf).Perm ts0 := by
   have := hp.map adOf
   rw [List.map_map] at this
   have e : ts0.map (adOf ∘ Value.ref) = ts0 := by
    conv => rhs; rw [← List.map_id ts0]
    rfl
   rwa [e] at this
  have hout : out = (out.map adOf).map Value.ref := by
   rw [List.map_map]
   conv => lhs; rw [← List.map_id out]
   refine List.map_congr_left fun v hv => ?_
   obtain ⟨t, _, rfl⟩ := List.mem_map.mp (hp.mem_iff.mp hv)
   rfl
  generalize out.map adOf = ts at hts hout
  subst hout
  have hH : ∀ t ∈ ts, StAt H (stOf X.prog X.w s.heap (.ref t)) t := fun t ht => by
   obtain ⟨p, hp⟩ := hk.mem t (hts.mem_iff.mp ht)
   rw [key t p hp]
   exact hp
  have hP2 : StAll H ts (ts.map fun t => stOf X.prog X.w s.heap (.ref t)) := by
   clear hp hs hts
   induction ts with
   | nil => exact .nil
   | cons t ts ih => exact .cons (hH t List.mem_cons_self) (ih fun u hu => hH u (List.mem_cons_of_mem _ hu))
  have hmp : (ts.map fun t => stOf X.prog X.w s.heap (.ref t)).Perm ms0 := by
   rw [hms]
   exact hts.map _
  have hpw : (ts.map fun t => stOf X.prog X.w s.heap (.ref t)).Pairwise fun a b => pairLt b a = false := by
   rw [List.pairwise_map] at hs ⊢
   exact hs
  obtain ⟨e, he⟩ := sortedAll_at s.heap (ts0.map Value.ref) (ts.map Value.ref).toArray
  have hn : H (s.heap.objs.size + 1) = none := I.hok.fresh (Nat.le_succ _)
  have I1 := I.kept (t' := s.toks) (h' := sortedAll s.heap (ts0.map Value.ref) (ts.map Value.ref).toArray) (fun _ _ => sortedAll_old)
  have a := I.aside (Nat.le_succ s.heap.objs.size) hn
  have lz : (ts.map V.ref).length ≤ sizeLine := by
   have := hts.length_eq
   rw [List.length_map] at hz' ⊢
   lia
  refine ⟨.ref (s.heap.objs.size + 1), upd H (s.heap.objs.size + 1) (.lst (ts.map V.ref)), I1.track hn a.ne a.ab a.cl a.pn ⟨lz, _, e, refs_to ts, ?_⟩, rfl, q _ ts _ hn hP2 hmp hpw⟩
  simpa [seqObj] using he
 by_cases h2 : 2 ≤ ts0.length
 ·refine sorted_raw (R := fun out => out.Perm (ts0.map Value.ref) ∧ out.Pairwise fun a b => pairLt (stOf X.prog X.w s.heap b) (stOf X.prog X.w s.heap a) = false) pl.isList (by lia) hz' (fun h' kp => ?_) fun out ho ⟨a1, a2⟩ => fin out a1 a2
  refine runs_stands (s := { s with heap := h' }) (κ := stOf X.prog X.w s.heap) (by show X.A.units + 1 + 1 + 1 < cLine; lia) (by lia) fun v hv => ?_
  obtain ⟨t, ht, rfl⟩ := List.mem_map.mp hv
  obtain ⟨p', hp'⟩ := hk.mem t ht
  exact ⟨t, rfl, by rw [key t p' hp']; exact moved kp (st_key I hp')⟩
 ·refine sorted_few pl.isList (by lia) hz' (fin _ (List.Perm.refl _) ?_)
  match ts0, h2 with
  | [], _ => exact .nil
  | [_], _ => exact List.pairwise_singleton _ _
  | _ :: _ :: _, h2 => simp at h2
theorem call_sortedSLK (K : PySem.W.Frag) (hu : X.A.units + 64 < cLine) (hK : X.K = K := by rfl) : CallR X (.builtin "sorted") (rSortSL K) := by subst hK; exact call_sortedSL hu
end
end L2
namespace L2
open PySem PySem.Spec PyProof.Rows
section
variable {prog : Program} {w : World} {A : Around} {E : Value → Shared → Prop} {s : Shared}
theorem nextT_item {q b : Addr} {k : Nat} {vs : Array Value} {v : Value} {Q : Value → Shared → Prop} (hq : s.heap.IsTupleIter q b k) (hb : s.heap.IsTuple b vs) (e : vs[k]? = some v) (r : ∀ h', h'.IsTupleIter q b (k + 1) → Heap.SameBut q s.heap h' → Q v { s with heap := h' }) : wpAny (model prog w) A (Builtin.SmallTypes.nextOf (.ref q)) Q E s := by
 obtain ⟨oq, gq, cq, dq⟩ := id hq
 obtain ⟨ob, gb, _, m, db⟩ := hb
 walk_at "z18"
 refine (show wpAny _ _ (field (.ref q) 0 >>= _) _ _ s from wpAny_bind (wpAny_field gq dq (x := .ref b) rfl (?_ : wpAny _ _ (field (.ref q) 1 >>= _) _ _ s)))
 refine wpAny_bind (wpAny_field gq dq (x := .int k 0) rfl (show wpAny _ _ (seqItems? (.ref b) >>= _) _ _ s from wpAny_bind (wpAny_seqItems gb db ?_)))
 simp only [Int.toNat_natCast, e]
 exact wpAny_bind (wpAny_setField gq dq (by simp) (wpAny_pure ⟨v, rfl, wpAny_pure (r _ ⟨_, Heap.get?_update_self _ gq (Obj.isFreed_of_fields (Obj.data_mapFields dq _)), (Obj.cls_mapFields ..).trans cq, by rw [Obj.data_mapFields dq]; simp [rawInt]⟩ (Heap.SameBut.update ..))⟩))
theorem nextT_end {q b : Addr} {k : Nat} {vs : Array Value} {Q : Value → Shared → Prop} (hA : A.handled = none) (hq : s.heap.IsTupleIter q b k) (hb : s.heap.IsTuple b vs) (e : vs[k]? = none) (r : ∀ h' x, Heap.ExtBut q s.heap h' → (∃ o, h'.get? x = some o ∧ o.cls = .type "StopIteration") → E (.ref x) { s with heap := h' }) : wpAny (model prog w) A (Builtin.SmallTypes.nextOf (.ref q)) Q E s := by
 obtain ⟨oq, gq, cq, dq⟩ := id hq
 obtain ⟨ob, gb, _, m, db⟩ := hb
 walk_at "z18"
 refine (show wpAny _ _ (field (.ref q) 0 >>= _) _ _ s from wpAny_bind (wpAny_field gq dq (x := .ref b) rfl (?_ : wpAny _ _ (field (.ref q) 1 >>= _) _ _ s)))
 refine wpAny_bind (wpAny_field gq dq (x := .int k 0) rfl (show wpAny _ _ (seqItems? (.ref b) >>= _) _ _ s from wpAny_bind (wpAny_seqItems gb db ?_)))
 simp only [Int.toNat_natCast, e]
 refine wpAny_bind (wpAny_rule (wpAny_bind (wpAny_setField gq dq (by simp) (?_ : wpAny _ _ (newExc (.type "StopIteration") [] >>= _) _ _ _))))
 simp only [newExc, newTuple]
 refine wpAny_bind (wpAny_bind (wpAny_newObj_type (wpAny_bind (m := firstArgMember _ _) (wpAny_of_eq (a := Value.none) (by first | rfl | (simp only [firstArgMember]; rfl)) (wpAny_newObj_type ?_ (by size_fits)))) (by size_fits)))
 simp only [raiseNew]
 refine wpAny_bind (wpAny_handled ?_)
 first | rw [show A.in1.handled = none from hA] | rw [hA]
 exact wpAny_bind (wpAny_pure (wpAny_throw (r _ _ (((Heap.SameBut.update ..).extBut.push _).push _) ⟨_, Heap.get?_push_size _ rfl, rfl⟩)))
abbrev IsTwo (h : Heap) (T : Addr) (a b : Value) : Prop := h.get? T = some { cls := .type "tuple", data := .seq #[a, b] }
theorem upd_two {T : Addr} {a b x : Value} {k : Nat} {Q : Unit → Shared → Prop} (hT : IsTwo s.heap T a b)
 (h : ∀ h', h'.get? T = some { cls := .type "tuple", data := .seq ((#[a, b] : Array Value).setIfInBounds k x) } → Heap.SameBut T s.heap h' → Q () { s with heap := h' }) :
 wpAny (model prog w) A (updateSeq T (·.setIfInBounds k x)) Q E s := by
 refine wpAny_updateSeq hT rfl (h _ ?_ (Heap.SameBut.update ..))
 rw [Heap.get?_update_self _ hT rfl]
 simp [Obj.mapSeq]
local macro_rules | `(tactic| walk_at "ne") => `(tactic| (show @Ne Nat _ _; lia))
theorem zipT_item {n l1 l2 : Nat} {k : Nat} {xs ys : Array Value} {x y a b : Value} {Q : Value → Shared → Prop} (n1 : l1 < n) (n2 : l2 < n)
 (hz : IsZip s.heap (n + 4) (n + 2) (n + 3) .none) (hTI : IsTwo s.heap (n + 2) (.ref n) (.ref (n + 1))) (hTO : IsTwo s.heap (n + 3) a b)
 (h1 : s.heap.IsListIter n l1 k) (h2 : s.heap.IsTupleIter (n + 1) l2 k) (hl1 : s.heap.IsList l1 xs) (hl2 : s.heap.IsTuple l2 ys) (hx : xs[k]? = some x) (hy : ys[k]? = some y)
 (hQ : ∀ h', IsZip h' (n + 4) (n + 2) (n + 3) (rawInt s.heap.objs.size) → IsTwo h' (n + 3) x y → h'.IsListIter n l1 (k + 1) → h'.IsTupleIter (n + 1) l2 (k + 1) → IsTwo h' s.heap.objs.size x y →
  (∀ d o, d ≠ n → d ≠ n + 1 → d ≠ n + 3 → d ≠ n + 4 → s.heap.get? d = some o → h'.get? d = some o) → Q (.ref s.heap.objs.size) { s with heap := h' }) :
 wpAny (model prog w) A (Builtin.«zip.__next__» ⟨[.ref (n + 4)], []⟩) (fun fin s' => ∃ v, fin = .done (.ret v) ∧ Q v s') E s := by
 show wpAny _ _ (field (.ref (n + 4)) 2 >>= _) _ _ _
 refine wpAny_bind (wpAny_field hz rfl (x := .bool false) rfl ?_)
 show wpAny _ _ (field (.ref (n + 4)) 3 >>= _) _ _ _
 refine wpAny_bind (wpAny_field hz rfl (x := .ref (n + 2)) rfl ?_)
 refine wpAny_bind (wpAny_seqItems hTI rfl ?_)
 show wpAny _ _ (Builtin.SmallTypes.ownedTupleIsFree (.ref (n + 4)) >>= _) _ _ _
 refine wpAny_bind ?_
 unfold Builtin.SmallTypes.ownedTupleIsFree
 refine wpAny_bind (wpAny_field hz rfl (x := .none) rfl (wpAny_pure ?_))
 simp only [if_true]
 refine wpAny_bind (wpAny_rule ?_)
 refine wpAny_bind (wpAny_field hz rfl (x := .ref (n + 3)) rfl ?_)
 refine wpAny_bind (wpAny_setField_rec hz (by simp) fun g1 hz1 t1 => ?_)
 replace hz1 : IsZip g1 (n + 4) (n + 2) (n + 3) .ellipsis := hz1
 refine wpAny_bind ?_
 simp only [List.zipIdx_cons, List.zipIdx_nil, List.forIn_cons, List.forIn_nil]
 refine wpAny_bind (wpAny_bind (wpAny_onRaise ?_))
 show wpAny _ _ (Builtin.SmallTypes.nextOf (.ref n) >>= _) _ _ _
 refine wpAny_bind (wpAny_nextOf_list_item (h1.extBut t1.extBut (by walk_at "ne")) (hl1.extBut t1.extBut (by walk_at "ne")) hx fun g2 u1 t2 => wpAny_pure ?_)
 have o2 : IsTwo g2 (n + 3) a b := t2.extBut _ _ (by walk_at "ne") (t1.extBut _ _ (by walk_at "ne") hTO)
 refine wpAny_bind (wpAny_seqItems o2 rfl ?_)
 refine wpAny_bind (upd_two o2 fun g3 o3 t3 => ?_)
 replace o3 : IsTwo g3 (n + 3) x b := o3
 refine wpAny_bind (wpAny_letGo (wpAny_pure ?_))
 refine wpAny_bind (wpAny_bind (wpAny_onRaise ?_))
 show wpAny _ _ (Builtin.SmallTypes.nextOf (.ref (n + 1)) >>= _) _ _ _
 refine wpAny_bind (nextT_item (((h2.extBut t1.extBut (by walk_at "ne")).extBut t2.extBut (by walk_at "ne")).extBut t3.extBut (by walk_at "ne")) (((hl2.extBut t1.extBut (by walk_at "ne")).extBut t2.extBut (by walk_at "ne")).extBut t3.extBut (by walk_at "ne")) hy fun g6 u3 t6 => wpAny_pure ?_)
 have o6 : IsTwo g6 (n + 3) x b := t6.extBut _ _ (by walk_at "ne") o3
 refine wpAny_bind (wpAny_seqItems o6 rfl ?_)
 refine wpAny_bind (upd_two o6 fun g7 o7 t7 => ?_)
 replace o7 : IsTwo g7 (n + 3) x y := o7
 refine wpAny_bind (wpAny_letGo (wpAny_pure (wpAny_pure ?_)))
 refine wpAny_bind (wpAny_seqItems o7 rfl ?_)
 refine wpAny_bind (wpAny_newTuple ?_)
 have hsz : g7.objs.size = s.heap.objs.size := by rw [t7.1, t6.1, t3.1, t2.1, t1.1]
 have z7 : IsZip g7 (n + 4) (n + 2) (n + 3) .ellipsis := t7.extBut _ _ (by walk_at "ne") (t6.extBut _ _ (by walk_at "ne") (t3.extBut _ _ (by walk_at "ne") (t2.extBut _ _ (by walk_at "ne") hz1)))
 have hk7 : ∀ d o, d ≠ n → d ≠ n + 1 → d ≠ n + 3 → d ≠ n + 4 → s.heap.get? d = some o → g7.get? d = some o := fun d o d1 d2 d4 d5 e =>
  t7.extBut _ _ d4 (t6.extBut _ _ d2 (t3.extBut _ _ d4 (t2.extBut _ _ d1 (t1.extBut _ _ d5 e))))
 have v1 : g7.IsListIter n l1 (k + 1) := ((u1.extBut t3.extBut (by walk_at "ne")).extBut t6.extBut (by walk_at "ne")).extBut t7.extBut (by walk_at "ne")
 have v3 : g7.IsTupleIter (n + 1) l2 (k + 1) := u3.extBut t7.extBut (by walk_at "ne")
 have lz : n + 4 < g7.objs.size := Heap.lt_size z7
 show wpAny _ _ (Builtin.SmallTypes.ownedTupleHandOut (.ref (n + 4)) (.ref g7.objs.size) >>= _) _ _ _
 refine wpAny_bind ?_
 unfold Builtin.SmallTypes.ownedTupleHandOut
 have z8 : IsZip (g7.push { cls := .type "tuple", data := .seq #[x, y] }) (n + 4) (n + 2) (n + 3) .ellipsis := Heap.get?_push_of_some _ z7
 refine wpAny_bind (wpAny_setField_rec z8 (by simp) fun g9 z9 t9 => ?_)
 replace z9 : IsZip g9 (n + 4) (n + 2) (n + 3) (rawInt g7.objs.size) := z9
 refine wpAny_setField_rec z9 (by simp) fun g10 z10 t10 => ?_
 replace z10 : IsZip g10 (n + 4) (n + 2) (n + 3) (rawInt g7.objs.size) := z10
 have up : ∀ d o, d ≠ n + 4 → g7.get? d = some o → g10.get? d = some o := fun d o d1 e => t10.extBut _ _ d1 (t9.extBut _ _ d1 (Heap.get?_push_of_some _ e))
 have hT : IsTwo g10 g7.objs.size x y := t10.extBut _ _ (Nat.ne_of_gt lz) (t9.extBut _ _ (Nat.ne_of_gt lz) (Heap.get?_push_size _ rfl))
 rw [hsz] at z10 hT ⊢
 refine wpAny_pure ⟨_, rfl, ?_⟩
 exact hQ g10 z10 (up _ _ (by walk_at "ne") o7) (v1.at fun o e => up _ o (by walk_at "ne") e) (v3.at fun o e => up _ o (by walk_at "ne") e) hT fun d o d1 d2 d4 d5 e => up d o d5 (hk7 d o d1 d2 d4 d5 e)
theorem zipT_end {n l1 l2 : Nat} {k : Nat} {xs ys : Array Value} {a b : Value} {Q : Fin → Shared → Prop} (hh : A.handled = none) (n1 : l1 < n) (n2 : l2 < n)
 (hz : IsZip s.heap (n + 4) (n + 2) (n + 3) .none) (hTI : IsTwo s.heap (n + 2) (.ref n) (.ref (n + 1))) (hTO : IsTwo s.heap (n + 3) a b)
 (h1 : s.heap.IsListIter n l1 k) (h2 : s.heap.IsTupleIter (n + 1) l2 k) (hl1 : s.heap.IsList l1 xs) (hl2 : s.heap.IsTuple l2 ys) (hend : xs[k]? = none ∨ ys[k]? = none)
 (hE : ∀ h' e, (∀ d o, d ≠ n → d ≠ n + 1 → d ≠ n + 3 → d ≠ n + 4 → s.heap.get? d = some o → h'.get? d = some o) → (∃ o, h'.get? e = some o ∧ o.cls = .type "StopIteration") → E (.ref e) { s with heap := h' }) :
 wpAny (model prog w) A (Builtin.«zip.__next__» ⟨[.ref (n + 4)], []⟩) Q E s := by
 show wpAny _ _ (field (.ref (n + 4)) 2 >>= _) _ _ _
 refine wpAny_bind (wpAny_field hz rfl (x := .bool false) rfl ?_)
 show wpAny _ _ (field (.ref (n + 4)) 3 >>= _) _ _ _
 refine wpAny_bind (wpAny_field hz rfl (x := .ref (n + 2)) rfl ?_)
 refine wpAny_bind (wpAny_seqItems hTI rfl ?_)
 show wpAny _ _ (Builtin.SmallTypes.ownedTupleIsFree (.ref (n + 4)) >>= _) _ _ _
 refine wpAny_bind ?_
 unfold Builtin.SmallTypes.ownedTupleIsFree
 refine wpAny_bind (wpAny_field hz rfl (x := .none) rfl (wpAny_pure ?_))
 simp only [if_true]
 refine wpAny_bind (wpAny_rule ?_)
 refine wpAny_bind (wpAny_field hz rfl (x := .ref (n + 3)) rfl ?_)
 refine wpAny_bind (wpAny_setField_rec hz (by simp) fun g1 hz1 t1 => ?_)
 replace hz1 : IsZip g1 (n + 4) (n + 2) (n + 3) .ellipsis := hz1
 refine wpAny_bind ?_
 simp only [List.zipIdx_cons, List.zipIdx_nil, List.forIn_cons, List.forIn_nil]
 refine wpAny_bind (wpAny_bind (wpAny_onRaise ?_))
 show wpAny _ _ (Builtin.SmallTypes.nextOf (.ref n) >>= _) _ _ _
 cases hx : xs[k]? with
 | none =>
   refine wpAny_bind (wpAny_nextOf_list_end hh (h1.extBut t1.extBut (by walk_at "ne")) (hl1.extBut t1.extBut (by walk_at "ne")) hx fun g2 e t2 he => ?_)
   obtain ⟨oe, hoe, hce⟩ := he
   have hz2 : IsZip g2 (n + 4) (n + 2) (n + 3) .ellipsis := t2 _ _ (by walk_at "ne") hz1
   have hez : e ≠ n + 4 := fun x => by subst x; rw [hz2] at hoe; cases hoe; simp at hce
   exact wpAny_setField_rec hz2 (by simp) fun g3 _ t3 => hE g3 e (fun d o d1 _ _ d5 x => t3.extBut _ _ d5 (t2 _ _ d1 (t1.extBut _ _ d5 x))) ⟨oe, t3.extBut _ _ hez hoe, hce⟩
 | some x =>
   refine wpAny_bind (wpAny_nextOf_list_item (h1.extBut t1.extBut (by walk_at "ne")) (hl1.extBut t1.extBut (by walk_at "ne")) hx fun g2 u1 t2 => wpAny_pure ?_)
   have o2 : IsTwo g2 (n + 3) a b := t2.extBut _ _ (by walk_at "ne") (t1.extBut _ _ (by walk_at "ne") hTO)
   refine wpAny_bind (wpAny_seqItems o2 rfl ?_)
   refine wpAny_bind (upd_two o2 fun g3 o3 t3 => ?_)
   refine wpAny_bind (wpAny_letGo (wpAny_pure ?_))
   refine wpAny_bind (wpAny_bind (wpAny_onRaise ?_))
   show wpAny _ _ (Builtin.SmallTypes.nextOf (.ref (n + 1)) >>= _) _ _ _
   have zz3 : IsZip g3 (n + 4) (n + 2) (n + 3) .ellipsis := t3.extBut _ _ (by walk_at "ne") (t2.extBut _ _ (by walk_at "ne") hz1)
   have k3 : ∀ d o, d ≠ n → d ≠ n + 3 → d ≠ n + 4 → s.heap.get? d = some o → g3.get? d = some o := fun d o d1 d4 d5 e => t3.extBut _ _ d4 (t2.extBut _ _ d1 (t1.extBut _ _ d5 e))
   have i2 : g3.IsTupleIter (n + 1) l2 k := ((h2.extBut t1.extBut (by walk_at "ne")).extBut t2.extBut (by walk_at "ne")).extBut t3.extBut (by walk_at "ne")
   have q2 : g3.IsTuple l2 ys := ((hl2.extBut t1.extBut (by walk_at "ne")).extBut t2.extBut (by walk_at "ne")).extBut t3.extBut (by walk_at "ne")
   have hy : ys[k]? = none := by
    rcases hend with h | h
    ·rw [hx] at h; cases h
    ·exact h
   refine wpAny_bind (nextT_end hh i2 q2 hy fun g4 e t4 he => ?_)
   obtain ⟨oe, hoe, hce⟩ := he
   have hz4 : IsZip g4 (n + 4) (n + 2) (n + 3) .ellipsis := t4 _ _ (by walk_at "ne") zz3
   have hez : e ≠ n + 4 := fun x => by subst x; rw [hz4] at hoe; cases hoe; simp at hce
   exact wpAny_setField_rec hz4 (by simp) fun g5 _ t5 => hE g5 e (fun d o d1 d2 d4 d5 x => t5.extBut _ _ d5 (t4 _ _ d2 (k3 d o d1 d4 d5 x))) ⟨oe, t5.extBut _ _ hez hoe, hce⟩
theorem next_zipT {n l1 l2 : Nat} {k : Nat} {xs ys : Array Value} {x y a b : Value} {Q : Option Value → Shared → Prop} (n1 : l1 < n) (n2 : l2 < n)
 (hz : IsZip s.heap (n + 4) (n + 2) (n + 3) .none) (hTI : IsTwo s.heap (n + 2) (.ref n) (.ref (n + 1))) (hTO : IsTwo s.heap (n + 3) a b)
 (h1 : s.heap.IsListIter n l1 k) (h2 : s.heap.IsTupleIter (n + 1) l2 k) (hl1 : s.heap.IsList l1 xs) (hl2 : s.heap.IsTuple l2 ys) (hx : xs[k]? = some x) (hy : ys[k]? = some y)
 (hQ : ∀ h', IsZip h' (n + 4) (n + 2) (n + 3) (rawInt s.heap.objs.size) → IsTwo h' (n + 3) x y → h'.IsListIter n l1 (k + 1) → h'.IsTupleIter (n + 1) l2 (k + 1) → IsTwo h' s.heap.objs.size x y →
  (∀ d o, d ≠ n → d ≠ n + 1 → d ≠ n + 3 → d ≠ n + 4 → s.heap.get? d = some o → h'.get? d = some o) → Q (some (.ref s.heap.objs.size)) { s with heap := h' }) :
 wpAny (model prog w) A (pyNext (.ref (n + 4))) Q E s := by
 have hT : s.TypeIs (.ref (n + 4)) "zip" := ⟨_, hz, rfl⟩
 unfold pyNext
 exact wpAny_bind (wpAny_attempt (wpAny_callSpecial?_slot (name := Str.ofString "__next__") hT F.slot_zip_next
  (wpAny_call_entry F.slot_zip_next hT F.entry_zip_next
   (zipT_item n1 n2 hz hTI hTO h1 h2 hl1 hl2 hx hy fun h' a1 a2 a3 a4 a6 a7 => wpAny_pure (hQ h' a1 a2 a3 a4 a6 a7)) (F.args_zip_next_1 _))))
theorem next_zipT_end {n l1 l2 : Nat} {k : Nat} {xs ys : Array Value} {a b : Value} {Q : Option Value → Shared → Prop} (hh : A.handled = none) (n1 : l1 < n) (n2 : l2 < n)
 (hz : IsZip s.heap (n + 4) (n + 2) (n + 3) .none) (hTI : IsTwo s.heap (n + 2) (.ref n) (.ref (n + 1))) (hTO : IsTwo s.heap (n + 3) a b)
 (h1 : s.heap.IsListIter n l1 k) (h2 : s.heap.IsTupleIter (n + 1) l2 k) (hl1 : s.heap.IsList l1 xs) (hl2 : s.heap.IsTuple l2 ys) (hend : xs[k]? = none ∨ ys[k]? = none)
 (hQ : ∀ h', (∀ d o, d ≠ n → d ≠ n + 1 → d ≠ n + 3 → d ≠ n + 4 → s.heap.get? d = some o → h'.get? d = some o) → Q none { s with heap := h' }) : wpAny (model prog w) A (pyNext (.ref (n + 4))) Q E s := by
 have hT : s.TypeIs (.ref (n + 4)) "zip" := ⟨_, hz, rfl⟩
 unfold pyNext
 refine wpAny_bind (wpAny_attempt (wpAny_callSpecial?_slot (name := Str.ofString "__next__") hT F.slot_zip_next
  (wpAny_call_entry F.slot_zip_next hT F.entry_zip_next (zipT_end hh n1 n2 hz hTI hTO h1 h2 hl1 hl2 hend fun h' e hk he => ?_) (F.args_zip_next_1 _))))
 obtain ⟨o, ho, hc⟩ := he
 refine wpAny_bind (wpAny_isInstance (T := "StopIteration") (b := true) ⟨o, ho, hc⟩ isSubtype_stop ?_)
 exact wpAny_pure (hQ _ hk)
end
theorem typeCall_zipT (a b : Value) : checkTypeCall "zip" ⟨[a, b], []⟩ = pure () := by kernel_rfl
theorem initArgs3 (o a b : Value) : argsOk "object.__init__" ⟨[o, a, b], []⟩ := by
 unfold argsOk; rw [signature?_of (id := "object.__init__") (n := ['_', '_', 't', 'i', 'n', 'i', '_', '_']) (o := ['t', 'c', 'e', 'j', 'b', 'o']) (by kernel_rfl) PySem.F.owner_object]; kernel_rfl
abbrev zTH1 (h : Heap) (l1 : Addr) : Heap := h.push { cls := .type "list_iterator", data := .fields #[.ref l1, .int 0 0] }
abbrev zTH2 (h : Heap) (l1 l2 : Addr) : Heap := (zTH1 h l1).push { cls := .type "tuple_iterator", data := .fields #[.ref l2, .int 0 0] }
abbrev zTH4 (h : Heap) (l1 l2 : Addr) : Heap := (zTH2 h l1 l2).push { cls := .type "tuple", data := .seq #[.ref h.objs.size, .ref (zTH1 h l1).objs.size] }
abbrev zTH5 (h : Heap) (l1 l2 : Addr) : Heap := (zTH4 h l1 l2).push { cls := .type "tuple", data := .seq #[.none, .none] }
abbrev zTH6 (h : Heap) (l1 l2 : Addr) : Heap := (zTH5 h l1 l2).push { cls := .type "zip", data := .fields #[.none, .bool false, .bool false, .ref (zTH2 h l1 l2).objs.size, .ref (zTH4 h l1 l2).objs.size] }
theorem meets_zipT (l1 l2 : Addr) (xs ys : Array Value) :
 Meets (Builtin.«zip.__new__» ⟨[.type "zip", .ref l1, .ref l2], []⟩) (fun _ R s => s.heap.IsList l1 xs ∧ s.heap.IsTuple l2 ys ∧
  R (.ok (.ret (.ref (zTH5 s.heap l1 l2).objs.size))) { s with heap := zTH6 s.heap l1 l2 }) :=
 .of_wp fun prog w A R s h => by
  obtain ⟨hp, g, d, tk, os⟩ := s; obtain ⟨hl1, hl2, h⟩ := h
  have hsub := sub_zip
  have hL1 : Heap.IsList (Shared.heap ⟨hp, g, d, tk, os⟩) l1 xs := hl1
  have hL2 : Heap.IsTuple (Shared.heap ⟨hp.push { cls := .type "list_iterator", data := .fields #[.ref l1, .int 0 0] }, g, d, tk, os⟩) l2 ys := Heap.IsTuple.push hl2 _
  wp_walk using wpAny_pyIter_list hL1, wpAny_pyIter_tuple hL2
  exact ⟨_, rfl, h⟩
section
variable {prog : Program} {w : World} {A : Around} {E : Value → Shared → Prop} {s : Shared}
theorem call_zipT {l1 l2 : Addr} {xs ys : Array Value} {Q : Value → Shared → Prop} (hl1 : s.heap.IsList l1 xs) (hl2 : s.heap.IsTuple l2 ys)
 (h : ∀ h', IsZip h' (s.heap.objs.size + 4) (s.heap.objs.size + 2) (s.heap.objs.size + 3) .none → IsTwo h' (s.heap.objs.size + 2) (.ref s.heap.objs.size) (.ref (s.heap.objs.size + 1)) →
  IsTwo h' (s.heap.objs.size + 3) .none .none → h'.IsListIter s.heap.objs.size l1 0 → h'.IsTupleIter (s.heap.objs.size + 1) l2 0 →
  (∀ c o, s.heap.get? c = some o → h'.get? c = some o) → Q (.ref (s.heap.objs.size + 4)) { s with heap := h' }) :
 wpAny (model prog w) A (call (.type "zip") [.ref l1, .ref l2]) Q E s := by
 refine callType_new F.called_zip (by decide) (typeCall_zipT _ _) (F.newCall_zip_2 _ _) (fun obj => initArgs3 obj _ _) F.entry_zip_new
  (meets_zipT l1 l2 xs ys) ⟨hl1, hl2, ?_⟩
 have z1 : (zTH1 s.heap l1).objs.size = s.heap.objs.size + 1 := Heap.size_push ..
 have z2 : (zTH2 s.heap l1 l2).objs.size = s.heap.objs.size + 2 := by rw [Heap.size_push, z1]
 have z4 : (zTH4 s.heap l1 l2).objs.size = s.heap.objs.size + 3 := by rw [Heap.size_push, z2]
 have z5 : (zTH5 s.heap l1 l2).objs.size = s.heap.objs.size + 4 := by rw [Heap.size_push, z4]
 have g6 : (zTH6 s.heap l1 l2).get? (zTH5 s.heap l1 l2).objs.size = some _ := Heap.get?_push_size _ rfl
 have g5 : (zTH6 s.heap l1 l2).get? (zTH4 s.heap l1 l2).objs.size = some _ := Heap.get?_push_of_some _ (Heap.get?_push_size _ rfl)
 have g3 : (zTH6 s.heap l1 l2).get? (zTH2 s.heap l1 l2).objs.size = some _ := Heap.get?_push_of_some _ (Heap.get?_push_of_some _ (Heap.get?_push_size _ rfl))
 have g2 : (zTH6 s.heap l1 l2).get? (zTH1 s.heap l1).objs.size = some _ := Heap.get?_push_of_some _ (Heap.get?_push_of_some _ (Heap.get?_push_of_some _ (Heap.get?_push_size _ rfl)))
 have g1 : (zTH6 s.heap l1 l2).get? s.heap.objs.size = some _ := Heap.get?_push_of_some _ (Heap.get?_push_of_some _ (Heap.get?_push_of_some _ (Heap.get?_push_of_some _ (Heap.get?_push_size _ rfl))))
 show _ ∧ _
 rw [z2, z4, z5] at g6
 rw [z4] at g5
 rw [z1, z2] at g3
 rw [z1] at g2
 rw [z5]
 exact ⟨⟨_, g6, rfl⟩, h _ g6 g3 g5 ⟨_, g1, rfl, rfl⟩ ⟨_, g2, rfl, rfl⟩ fun c o x =>
  Heap.get?_push_of_some _ (Heap.get?_push_of_some _ (Heap.get?_push_of_some _ (Heap.get?_push_of_some _ (Heap.get?_push_of_some _ x))))⟩
end
def ItzT (K : PySem.W.Frag) (a b : Addr) : It :=
 ⟨fun i H => ∃ xs ys x y, SqL K H a xs ∧ SqT K H b ys ∧ xs[i]? = some x ∧ ys[i]? = some y,
  fun i H v H' => ∃ T x y, v = .ref T ∧ H T = none ∧ H' = upd H T (.tup [x, y]) ∧ (∀ xs, SqL K H a xs → xs[i]? = some x) ∧ ∀ ys, SqT K H b ys → ys[i]? = some y,
  fun i H => ∃ xs ys, SqL K H a xs ∧ SqT K H b ys ∧ (xs.length ≤ i ∨ ys.length ≤ i)⟩
def ZipTSt (n a b : Nat) (i : Nat) (h : Heap) : Prop := IsZip h (n + 4) (n + 2) (n + 3) .none ∧ IsTwo h (n + 2) (.ref n) (.ref (n + 1)) ∧ (∃ u v, IsTwo h (n + 3) u v) ∧ h.IsListIter n a i ∧ h.IsTupleIter (n + 1) b i
theorem turn_zipT {P : Program} {w : World} {K : PySem.W.Frag} {elts : List Expr} {kk : Nat} {tp : Pos} {n a b : Nat} (n1 : a < n) (n2 : b < n) :
 Turn P w K (.Tuple elts kk tp) (ItzT K a b) [n + 4, n + 2, n + 3, n, n + 1] (n + 4) (ZipTSt n a b) where
 mem := by simp
 obj := fun i h st d hd => by
  obtain ⟨h1, h2, ⟨u, v, h3⟩, ⟨o1, e1, _, d1⟩, ⟨o2, e2, _, d2⟩⟩ := st
  simp only [List.mem_cons, List.not_mem_nil, or_false] at hd
  rcases hd with rfl | rfl | rfl | rfl | rfl
  ·exact ⟨_, h1, fun v z => by cases (show Data.fields _ = Data.cell v from z)⟩
  ·exact ⟨_, h2, fun v z => by cases (show Data.seq _ _ = Data.cell v from z)⟩
  ·exact ⟨_, h3, fun v z => by cases (show Data.seq _ _ = Data.cell v from z)⟩
  ·exact ⟨_, e1, fun v z => by rw [d1] at z; cases z⟩
  ·exact ⟨_, e2, fun v z => by rw [d2] at z; cases z⟩
 keep := fun i h h' st k => by
  obtain ⟨h1, h2, ⟨u, v, h3⟩, h4, h5⟩ := st
  exact ⟨k _ (by simp) _ h1, k _ (by simp) _ h2, ⟨u, v, k _ (by simp) _ h3⟩, h4.at fun o e => k _ (by simp) o e, h5.at fun o e => k _ (by simp) o e⟩
 item := by
  walk_at "z7"
  subst hP hw hK
  obtain ⟨xs, ys, x, y, hx, hy, ex, ey⟩ := hg
  obtain ⟨h1, h2, ⟨u, v, h3⟩, h4, h5⟩ := st
  obtain ⟨its, rv, p, hz⟩ := I.list hx
  obtain ⟨jts, rw', p', hz'⟩ := I.tuple hy
  obtain ⟨ux, hux, rux⟩ := rv.get ex
  obtain ⟨uy, huy, ruy⟩ := rw'.get ey
  refine next_zipT n1 n2 h1 h2 h3 h4 h5 p.isList (show s.heap.IsTuple b jts.toArray from p') (x := ux) (y := uy) (by simpa using hux) (by simpa using huy) fun h' a1 a2 a3 a4 a6 a7 => ?_
  have ln : n + 4 < s.heap.objs.size := Heap.lt_size h1
  have lt : ∀ d ∈ [n + 4, n + 2, n + 3, n, n + 1], d < s.heap.objs.size := fun d hd => by
   simp only [List.mem_cons, List.not_mem_nil, or_false] at hd
   rcases hd with rfl | rfl | rfl | rfl | rfl <;> lia
  refine ⟨_, rfl, wpAny_letOwnedTupleGo_zip a1 fun h2' b1 b2 => ?_⟩
  have hk : ∀ d o, d ∉ [n + 4, n + 2, n + 3, n, n + 1] → s.heap.get? d = some o → h2'.get? d = some o := fun d o hd e => by
   simp only [List.mem_cons, List.not_mem_nil, or_false, not_or] at hd
   exact (b2.2 d hd.1).trans (a7 d o hd.2.2.2.1 hd.2.2.2.2 hd.2.2.1 hd.1 e)
  have I1 := I.turnT (h' := h2') (t' := s.toks) (T := s.heap.objs.size) (xs := [x, y]) (its := [ux, uy]) hf hk (Nat.le_refl _) (szl (Nat.le_of_ble_eq_true rfl)) (.cons rux (.cons ruy .nil)) ⟨_, (b2.2 _ (by show @Ne Nat _ _; lia)).trans a6, rfl, _, rfl⟩
  refine ⟨.ref s.heap.objs.size, _, I1, rfl, ⟨_, x, y, rfl, I.hok.fresh (Nat.le_refl _), rfl, fun xs' h => by rw [I.list_inj h hx]; exact ex, fun ys' h => by rw [I.tuple_inj h hy]; exact ey⟩, ?_, fun d hd => ?_⟩
  ·exact ⟨b1, (b2.2 _ (by show @Ne Nat _ _; lia)).trans (a7 _ _ (by show @Ne Nat _ _; lia) (by show @Ne Nat _ _; lia) (by show @Ne Nat _ _; lia) (by show @Ne Nat _ _; lia) h2), ⟨_, _, (b2.2 _ (by show @Ne Nat _ _; lia)).trans a2⟩, a3.at fun o e => (b2.2 _ (by show @Ne Nat _ _; lia)).trans e, a4.at fun o e => (b2.2 _ (by show @Ne Nat _ _; lia)).trans e⟩
  ·rw [upd_ne (Nat.ne_of_lt (lt d hd))]
   exact (hf d hd).1
 done := by
  walk_at "z7"
  subst hP hw hK
  obtain ⟨xs, ys, hx, hy, hl⟩ := hg
  obtain ⟨h1, h2, ⟨u, v, h3⟩, h4, h5⟩ := st
  obtain ⟨its, rv, p, hz⟩ := I.list hx
  obtain ⟨jts, rw', p', hz'⟩ := I.tuple hy
  have l1 := rv.length
  have l2 := rw'.length
  refine next_zipT_end (I.ok.hd hc) n1 n2 h1 h2 h3 h4 h5 p.isList (show s.heap.IsTuple b jts.toArray from p') ?_ fun h' hk => ⟨rfl, ?_⟩
  ·rcases hl with hl | hl
   ·left; simp; lia
   ·right; simp; lia
  ·exact I.turnedL (t' := s.toks) hf fun d o hd e => by
    simp only [List.mem_cons, List.not_mem_nil, or_false, not_or] at hd
    exact hk d o hd.2.2.2.1 hd.2.2.2.2 hd.2.2.1 hd.1 e
 self := fun A i s Q E st h => wpAny_pyIter_zip st.1 h
def iZipT (K : PySem.W.Frag) (ta : TA) : TI := fun σ H R => ta σ H fun vs H1 => ∃ a b, vs = [.ref a, .ref b] ∧ (∃ xs, SqL K H1 a xs) ∧ (∃ ys, SqT K H1 b ys) ∧ R (ItzT K a b) H1
section
variable {X : Cx} {elts : List Expr} {kk : Nat} {tp : Pos}
theorem pi_zipT {a b : Expr} {ta : TA} {p pos : Pos} (hg : Gl X "zip") (hm : X.mg "zip" = none) (ha : PA X [a, b] ta) (hs : starEach [a, b] X.env = [(false, eval a X.env), (false, eval b X.env)] := by rfl) (hs2 : starEach [b] X.env = [(false, eval b X.env)] := by rfl) :
 PI X (.Tuple elts kk tp) (.Call (.Name "zip" p) [a, b] [] pos) (iZipT X.K ta) := by
 intro pins s σ H R I h
 refine Call_ (ld_blt I hg hm bt_zip (PyProof.Rows.callWith_type1 (thn (ha pos pins s σ H _ I h) fun us s1 ⟨vs, H1, I1, r1, q1⟩ => ?_) (by rw [hs, hs2]) (by rw [hs2]; rfl)))
 obtain ⟨x, y, e, ⟨xs, hx⟩, ⟨ys, hy⟩, R1⟩ := q1
 subst e
 cases r1 with
 | cons r rr =>
   cases rr with
   | cons r' rr =>
     cases rr
     obtain ⟨its, rv, pl, hz⟩ := I1.list hx
     obtain ⟨jts, rw', ql, hz'⟩ := I1.tuple hy
     cases r
     cases r'
     have a1 : x < s1.heap.objs.size := by obtain ⟨_, e, _⟩ := pl.isList; exact Heap.lt_size e
     have a2 : y < s1.heap.objs.size := by obtain ⟨_, e, _⟩ := ql; exact Heap.lt_size e
     refine call_zipT pl.isList (show s1.heap.IsTuple y jts.toArray from ql) fun h' b1 b2 b3 b4 b5 b7 => ?_
     have I2 : Inv X pins σ H1 { s1 with heap := h' } := I1.kept (t' := s1.toks) b7
     refine wpAny_pyIter_zip (s := { s1 with heap := h' }) b1 ⟨_, _, _, _, H1, rfl, I2, turn_zipT a1 a2, ⟨b1, b2, ⟨_, _, b3⟩, b4, b5⟩, fun c hc => ?_, R1⟩
     have hc' : s1.heap.objs.size ≤ c := by
      walk_at "z23"
      rcases hc with rfl | rfl | rfl | rfl | rfl
      ·exact Nat.le_add_right _ _
      ·exact Nat.le_add_right _ _
      ·exact Nat.le_add_right _ _
      ·exact Nat.le_refl _
      ·exact Nat.le_add_right _ _
     exact I1.fpOk hc' (I1.hok.fresh hc')
theorem pi_zipTK (K : PySem.W.Frag) {a b : Expr} {ta : TA} {p pos : Pos} (hg : Gl X "zip") (hm : X.mg "zip" = none) (ha : PA X [a, b] ta) (hs : starEach [a, b] X.env = [(false, eval a X.env), (false, eval b X.env)] := by rfl) (hs2 : starEach [b] X.env = [(false, eval b X.env)] := by rfl)
 (hK : X.K = K := by rfl) : PI X (.Tuple elts kk tp) (.Call (.Name "zip" p) [a, b] [] pos) (iZipT K ta) := by subst hK; exact pi_zipT hg hm ha hs hs2
end
section
variable {K : PySem.W.Frag} {g : TG} {tb : TS} {D : Ends} {σ : St} {H : Hp}
theorem lp_zipT {a b : Addr} {xs ys : List V} (Pv : Nat → St → Hp → Prop) (h0 : Pv 0 σ H) (hl : ∀ i σ H, Pv i σ H → SqL K H a xs ∧ SqT K H b ys)
 (hs : ∀ i x y T σ H, xs[i]? = some x → ys[i]? = some y → Pv i σ H → H T = none → g (.ref T) σ (upd H T (.tup [x, y])) fun σ2 H2 => tb { D with nx := Pv (i + 1), ct := Pv (i + 1), bk := D.nx } σ2 H2)
 (hd : ∀ σ H, Pv (min xs.length ys.length) σ H → D.nx σ H) : LoopI (ItzT K a b) g tb D σ H := by
 refine ⟨fun i m σ H => m = min xs.length ys.length - i ∧ i ≤ min xs.length ys.length ∧ Pv i σ H, ⟨_, rfl, Nat.zero_le _, h0⟩, ?_⟩
 rintro i m σ H ⟨rfl, hi, p⟩
 obtain ⟨q1, q2⟩ := hl i σ H p
 by_cases hlt : i < min xs.length ys.length
 ·have l1 : i < xs.length := by lia
  have l2 : i < ys.length := by lia
  walk_at "z20"
  obtain ⟨T, x1, y1, rfl, hT, rfl, ex, ey⟩ := y
  exact hs i x1 y1 T σ H (ex xs q1) (ey ys q2) p hT
 ·have e : i = min xs.length ys.length := by lia
  refine .inl ⟨⟨xs, ys, q1, q2, by lia⟩, hd σ H (by rw [← e]; exact p)⟩
end
end L2
namespace M
theorem dragAll_id : ∀ {ps ws : List Int} {a : Int}, ws.length = ps.length → keeps ps a ws → dragAll ps ws a = ws
 | [], [], _, _, _ => rfl
 | [], _ :: _, _, h, _ => by simp at h
 | _ :: _, [], _, h, _ => by simp at h
 | p :: ps, x :: ws, a, h, hk => by
   have h1 := hk.1
   have e : drag p a x = x := by
    unfold drag
    rw [if_neg (by lia), if_neg (by lia)]
   show drag p a x :: dragAll ps ws (drag p a x) = x :: ws
   rw [e, dragAll_id (by simpa using h) hk.2]
def goTo (ps : List Int) (s : Int × List Int) (c : Int) : Int × List Int := (c, dragAll ps s.2 c)
inductive Reach (ps : List Int) (lo hi : Int) (s0 : Int × List Int) : Int × List Int → Prop
 | base : Reach ps lo hi s0 s0
 | step {s : Int × List Int} {c : Int} : Reach ps lo hi s0 s → lo ≤ c → c ≤ hi → (c = s.1 - 1 ∨ c = s.1 + 1) → Reach ps lo hi s0 (goTo ps s c)
section
variable {ps : List Int} {lo hi : Int} {s0 s : Int × List Int}
theorem Reach.inv (ht : isTr ps) (h0 : stand ps s0.1 s0.2) (h1 : lo ≤ s0.1) (h2 : s0.1 ≤ hi) (r : Reach ps lo hi s0 s) : stand ps s.1 s.2 ∧ lo ≤ s.1 ∧ s.1 ≤ hi := by
 induction r with
 | base => exact ⟨h0, h1, h2⟩
 | step r a b c ih => exact ⟨dragAll_stand ht ih.1, a, b⟩
theorem goTo_self (h : stand ps s.1 s.2) : goTo ps s s.1 = s := by
 unfold goTo
 rw [dragAll_id h.1 h.2]
theorem Reach.up (ht : isTr ps) (r : Reach ps lo hi s0 s) (h : stand ps s.1 s.2) (h1 : lo ≤ s.1) : ∀ n : Nat, s.1 + n ≤ hi → Reach ps lo hi s0 (goTo ps s (s.1 + n))
 | 0, _ => by
   rw [show s.1 + ((0 : Nat) : Int) = s.1 by lia, goTo_self h]
   exact r
 | n + 1, hn => by
   have e := (Reach.up ht r h h1 n (by lia)).step (c := s.1 + ((n + 1 : Nat) : Int)) (by lia) hn (.inr (by show _ = (s.1 + (n : Int)) + 1; lia))
   have v := dragAll_via ps s.2 s.1 (s.1 + (n : Int)) (s.1 + ((n + 1 : Nat) : Int)) ht.2.2 h.2 (.inl (by lia))
   unfold goTo at e ⊢
   rwa [show (s.1 + (n : Int), dragAll ps s.2 (s.1 + (n : Int))).2 = dragAll ps s.2 (s.1 + (n : Int)) from rfl, v] at e
theorem Reach.down (ht : isTr ps) (r : Reach ps lo hi s0 s) (h : stand ps s.1 s.2) (h1 : s.1 ≤ hi) : ∀ n : Nat, lo ≤ s.1 - n → Reach ps lo hi s0 (goTo ps s (s.1 - n))
 | 0, _ => by
   rw [show s.1 - ((0 : Nat) : Int) = s.1 by lia, goTo_self h]
   exact r
 | n + 1, hn => by
   have e := (Reach.down ht r h h1 n (by lia)).step (c := s.1 - ((n + 1 : Nat) : Int)) hn (by lia) (.inl (by show _ = (s.1 - (n : Int)) - 1; lia))
   have v := dragAll_via ps s.2 s.1 (s.1 - (n : Int)) (s.1 - ((n + 1 : Nat) : Int)) ht.2.2 h.2 (.inr (by lia))
   unfold goTo at e ⊢
   rwa [show (s.1 - (n : Int), dragAll ps s.2 (s.1 - (n : Int))).2 = dragAll ps s.2 (s.1 - (n : Int)) from rfl, v] at e
theorem Reach.far (ht : isTr ps) (h0 : stand ps s0.1 s0.2) (h1 : lo ≤ s0.1) (h2 : s0.1 ≤ hi) (r : Reach ps lo hi s0 s) {c : Int} (c1 : lo ≤ c) (c2 : c ≤ hi) : Reach ps lo hi s0 (goTo ps s c) := by
 obtain ⟨i1, i2, i3⟩ := r.inv ht h0 h1 h2
 by_cases g : s.1 ≤ c
 ·have := r.up ht i1 i2 (c - s.1).toNat (by lia)
  rwa [show s.1 + ((c - s.1).toNat : Int) = c by lia] at this
 ·have := r.down ht i1 i3 (s.1 - c).toNat (by lia)
  rwa [show s.1 - ((s.1 - c).toNat : Int) = c by lia] at this
theorem Reach.sub {S : List (Int × List Int)} (h0 : s0 ∈ S) (hc : ∀ s ∈ S, ∀ c, lo ≤ c → c ≤ hi → (c = s.1 - 1 ∨ c = s.1 + 1) → goTo ps s c ∈ S) (r : Reach ps lo hi s0 s) : s ∈ S := by
 induction r with
 | base => exact h0
 | step r a b c ih => exact hc _ ih _ a b c
end
theorem sub_len {α : Type} [DecidableEq α] : ∀ {xs ys : List α}, xs.Nodup → (∀ x ∈ xs, x ∈ ys) → xs.length ≤ ys.length
 | [], _, _, _ => Nat.zero_le _
 | x :: xs, ys, hn, hs => by
   obtain ⟨h1, h2⟩ := List.nodup_cons.mp hn
   have hx := hs x (by simp)
   have := sub_len (xs := xs) (ys := ys.erase x) h2 fun y hy => (List.mem_erase_of_ne (show y ≠ x from fun z => h1 (z ▸ hy))).mpr (hs y (by simp [hy]))
   rw [List.length_erase_of_mem hx] at this
   have : 0 < ys.length := List.length_pos_of_mem hx
   simp
   lia
theorem nodup_perm2 {α : Type} [DecidableEq α] : ∀ {xs ys : List α}, xs.Nodup → ys.Nodup → (∀ x, x ∈ xs ↔ x ∈ ys) → xs.Perm ys
 | [], ys, _, _, h => by
   have : ys = [] := List.eq_nil_iff_forall_not_mem.mpr fun y hy => by have := (h y).mpr hy; simp at this
   rw [this]
 | x :: xs, ys, hn, hm, h => by
   obtain ⟨h1, h2⟩ := List.nodup_cons.mp hn
   have hx := (h x).mp (by simp)
   refine ((nodup_perm2 (xs := xs) (ys := ys.erase x) h2 (hm.erase x) fun y => ?_).cons x).trans (List.perm_cons_erase hx).symm
   rw [hm.mem_erase_iff, ← h y]
   refine ⟨fun hy => ⟨fun z => h1 (z ▸ hy), by simp [hy]⟩, fun ⟨z, hy⟩ => ?_⟩
   rcases List.mem_cons.mp hy with e | e
   ·exact absurd e z
   ·exact e
theorem sorted_eq : ∀ {xs ys : List (Int × List Int)}, xs.Perm ys → (xs.Pairwise fun a b => HT.pairLt b a = false) → (ys.Pairwise fun a b => HT.pairLt b a = false) → xs = ys
 | [], ys, h, _, _ => (List.Perm.eq_nil h.symm).symm
 | x :: xs, [], h, _, _ => absurd h.length_eq (by simp)
 | x :: xs, y :: ys, h, hx, hy => by
   have e : x = y := by
    have hx1 := List.pairwise_cons.mp hx
    have hy1 := List.pairwise_cons.mp hy
    rcases List.mem_cons.mp (h.mem_iff.mp (by simp : x ∈ x :: xs)) with e | e
    ·exact e
    ·rcases List.mem_cons.mp (h.mem_iff.mpr (by simp : y ∈ y :: ys)) with e2 | e2
     ·exact e2.symm
     ·exact HT.pairLt_tot (hy1.1 _ e) (hx1.1 _ e2)
   subst e
   rw [sorted_eq (List.Perm.cons_inv h) (List.pairwise_cons.mp hx).2 (List.pairwise_cons.mp hy).2]
section
variable {ps : List Int} {lo hi : Int} {s0 s : Int × List Int} {k : Nat} {d w x : Int}
theorem depths_nn : ∀ {ps : List Int} {b : Int} {k : Nat} {d : Int}, (∀ p ∈ ps, 0 ≤ p) → 0 ≤ b → (depths b ps)[k]? = some d → 0 ≤ d
 | [], _, _, _, _, _, h => by simp [depths] at h
 | p :: ps, b, 0, d, hp, hb, h => by
   have := hp p (by simp)
   simp [depths] at h
   lia
 | p :: ps, b, k + 1, d, hp, hb, h => by
   have := hp p (by simp)
   exact depths_nn (ps := ps) (b := b + p) (k := k) (fun q hq => hp q (by simp [hq])) (by lia) (by simpa [depths] using h)
theorem go_get (ht : isTr ps) (h : stand ps s.1 s.2) (hd : (depths 0 ps)[k]? = some d) (hx : s.2[k]? = some x) (c : Int) : (goTo ps s c).2[k]? = some (drag d c x) := by
 show (dragAll ps s.2 c)[k]? = _
 rw [dragAll_eq ht.2.2 h.2]
 exact alone_get ps s.2 0 c k d x hd hx
theorem near (ht : isTr ps) (h : stand ps s.1 s.2) (hd : (depths 0 ps)[k]? = some d) (hx : s.2[k]? = some x) : x - s.1 ≤ d ∧ s.1 - x ≤ d := by
 have := go_get ht h hd hx s.1
 rw [goTo_self h, hx] at this
 have e := Option.some.inj this
 have := drag_mid (p := d) (a := s.1) (x := x) (depths_nn ht.2.2 (by decide) hd)
 lia
theorem Reach.rng (ht : isTr ps) (h0 : stand ps s0.1 s0.2) (h1 : lo ≤ s0.1) (h2 : s0.1 ≤ hi) (r : Reach ps lo hi s0 s) (hd : (depths 0 ps)[k]? = some d) (hw : s0.2[k]? = some w) : ∃ x, s.2[k]? = some x ∧ min w (lo + d) ≤ x ∧ x ≤ max w (hi - d) := by
 induction r with
 | base => exact ⟨w, hw, by lia, by lia⟩
 | step r a b c ih =>
   obtain ⟨x, hx, l1, l2⟩ := ih
   refine ⟨_, go_get ht (r.inv ht h0 h1 h2).1 hd hx _, ?_⟩
   have dd := depths_nn ht.2.2 (by decide) hd
   unfold drag
   split
   ·lia
   ·split <;> lia
theorem low_got (ht : isTr ps) (h0 : stand ps s0.1 s0.2) (h1 : lo ≤ s0.1) (hd : (depths 0 ps)[k]? = some d) (hw : s0.2[k]? = some w) : (goTo ps s0 lo).2[k]? = some (min w (lo + d)) := by
 rw [go_get ht h0 hd hw]
 have := near ht h0 hd hw
 have dd := depths_nn ht.2.2 (by decide) hd
 congr 1
 unfold drag
 split
 ·lia
 ·split <;> lia
theorem high_got (ht : isTr ps) (h0 : stand ps s0.1 s0.2) (h1 : s0.1 ≤ hi) (hd : (depths 0 ps)[k]? = some d) (hw : s0.2[k]? = some w) : (goTo ps s0 hi).2[k]? = some (max w (hi - d)) := by
 rw [go_get ht h0 hd hw]
 have := near ht h0 hd hw
 have dd := depths_nn ht.2.2 (by decide) hd
 congr 1
 unfold drag
 split
 ·lia
 ·split <;> lia
end
end M
namespace L2
open PySem M
theorem StAt.more {H H' : Hp} {p : Int × List Int} {a : Addr} (h : StAt H p a) (s : Same H H') : StAt H' p a := by
 obtain ⟨b, e1, e2⟩ := h
 exact ⟨b, s _ _ e1, s _ _ e2⟩
theorem StAt.upd {H : Hp} {p : Int × List Int} {a q : Addr} {o o' : HO} (h : StAt H p a) (hq : H q = some o) (ho : ∀ xs, o ≠ .tup xs) : StAt (upd H q o') p a := by
 obtain ⟨b, e1, e2⟩ := h
 refine ⟨b, ?_, ?_⟩
 ·rw [upd_ne fun z => by rw [z, hq] at e1; cases e1; exact ho _ rfl]
  exact e1
 ·rw [upd_ne fun z => by rw [z, hq] at e2; cases e2; exact ho _ rfl]
  exact e2
theorem StAll.imp {H H' : Hp} : ∀ {ts : List Addr} {ms : List (Int × List Int)}, StAll H ts ms → (∀ p a, StAt H p a → StAt H' p a) → StAll H' ts ms
 | _, _, .nil, _ => .nil
 | _, _, .cons a b, h => .cons (h _ _ a) (StAll.imp b h)
theorem StAll.more {H H' : Hp} {ts : List Addr} {ms : List (Int × List Int)} (h : StAll H ts ms) (s : Same H H') : StAll H' ts ms := h.imp fun _ _ z => z.more s
theorem StAll.len {H : Hp} : ∀ {ts : List Addr} {ms : List (Int × List Int)}, StAll H ts ms → ts.length = ms.length
 | _, _, .nil => rfl
 | _, _, .cons a b => by simp [StAll.len b]
theorem StAll.snoc {H : Hp} {t : Addr} {p : Int × List Int} : ∀ {ts : List Addr} {ms : List (Int × List Int)}, StAll H ts ms → StAt H p t → StAll H (ts ++ [t]) (ms ++ [p])
 | _, _, .nil, h => .cons h .nil
 | _, _, .cons a b, h => .cons a (StAll.snoc b h)
theorem StAll.last {H : Hp} {t : Addr} : ∀ {ts : List Addr} {ms : List (Int × List Int)}, StAll H (ts ++ [t]) ms → ∃ ms' p, ms = ms' ++ [p] ∧ StAll H ts ms' ∧ StAt H p t
 | [], _, .cons a .nil => ⟨[], _, rfl, .nil, a⟩
 | _ :: _, _, .cons a b => by
   obtain ⟨ms', p, e, x, y⟩ := StAll.last b
   exact ⟨_ :: ms', p, by rw [e]; rfl, .cons a x, y⟩
theorem StAll.get {H : Hp} : ∀ {ts : List Addr} {ms : List (Int × List Int)} {i : Nat} {t : Addr}, StAll H ts ms → ts[i]? = some t → ∃ p, ms[i]? = some p ∧ StAt H p t
 | _, _, _, _, .nil, h => by simp at h
 | _, _, 0, _, .cons a b, h => by
   simp at h
   subst h
   exact ⟨_, rfl, a⟩
 | _, _, i + 1, _, .cons a b, h => by simpa using StAll.get b (by simpa using h)
theorem StAll.of {H : Hp} : ∀ {xs : List ((Int × List Int) × Addr)}, (∀ x ∈ xs, StAt H x.1 x.2) → StAll H (xs.map (·.2)) (xs.map (·.1))
 | [], _ => .nil
 | x :: xs, h => .cons (h x (by simp)) (StAll.of fun y hy => h y (by simp [hy]))
def Many (ps : List Int) (lo hi : Int) (s0 : Int × List Int) : Prop := ∃ ms : List (Int × List Int), ms.Nodup ∧ (∀ s ∈ ms, Reach ps lo hi s0 s) ∧ 500 < ms.length
def AllOf (ps : List Int) (lo hi : Int) (s0 : Int × List Int) (ms : List (Int × List Int)) : Prop := ms.Nodup ∧ (ms.Pairwise fun a b => HT.pairLt b a = false) ∧ (∀ s, s ∈ ms ↔ Reach ps lo hi s0 s) ∧ ms.length ≤ 500
theorem many_all {ps : List Int} {lo hi : Int} {s0 : Int × List Int} {ms : List (Int × List Int)} (h : Many ps lo hi s0) (h2 : AllOf ps lo hi s0 ms) : False := by
 obtain ⟨ns, a, b, c⟩ := h
 have := sub_len a fun s hs => (h2.2.2.1 s).mpr (b s hs)
 have := h2.2.2.2
 lia
theorem all_all {ps : List Int} {lo hi : Int} {s0 : Int × List Int} {ms ns : List (Int × List Int)} (h : AllOf ps lo hi s0 ms) (h2 : AllOf ps lo hi s0 ns) : ms = ns :=
 sorted_eq (nodup_perm2 h.1 h2.1 fun s => (h.2.2.1 s).trans (h2.2.2.1 s).symm) h.2.1 h2.2.1
section
variable {P : Program} {w : World} {H : Hp} {d l : Addr} {ps : List Int} {lo hi : Int} {s0 : Int × List Int} {cur : Option (Int × List Int)} {xs : List ((Int × List Int) × Addr)} {wts : List Addr} {wms : List (Int × List Int)}
structure Wkg (P : Program) (w : World) (H : Hp) (d l : Addr) (ps : List Int) (lo hi : Int) (s0 : Int × List Int) (cur : Option (Int × List Int)) (xs : List ((Int × List Int) × Addr)) (wts : List Addr) (wms : List (Int × List Int)) : Prop where
 dd : H d = some (DSt P w d xs)
 ll : H l = some (.lst (wts.map V.ref))
 sa : StAll H wts wms
 ks : ∀ x ∈ xs, StAt H x.1 x.2
 nd : (xs.map (·.1)).Nodup
 rc : ∀ s ∈ xs.map (·.1), Reach ps lo hi s0 s
 st : s0 ∈ xs.map (·.1)
 wk : ∀ s ∈ wms, s ∈ xs.map (·.1)
 cl : ∀ s ∈ xs.map (·.1), s ∈ wms ∨ some s = cur ∨ ∀ c, lo ≤ c → c ≤ hi → (c = s.1 - 1 ∨ c = s.1 + 1) → goTo ps s c ∈ xs.map (·.1)
 wl : wts.length ≤ xs.length
theorem Wkg.dl (h : Wkg P w H d l ps lo hi s0 cur xs wts wms) : d ≠ l := fun z => by
 have e := h.dd
 rw [z, h.ll] at e
 cases e
theorem Wkg.more {H' : Hp} (h : Wkg P w H d l ps lo hi s0 cur xs wts wms) (s : Same H H') : Wkg P w H' d l ps lo hi s0 cur xs wts wms :=
 { h with dd := s _ _ h.dd, ll := s _ _ h.ll, sa := h.sa.more s, ks := fun x hx => (h.ks x hx).more s }
theorem Wkg.pop {t : Addr} (h : Wkg P w H d l ps lo hi s0 none xs (wts ++ [t]) wms) : ∃ wms' p, wms = wms' ++ [p] ∧ StAt (upd H l (.lst (wts.map V.ref))) p t ∧ p ∈ xs.map (·.1) ∧ Wkg P w (upd H l (.lst (wts.map V.ref))) d l ps lo hi s0 (some p) xs wts wms' := by
 obtain ⟨wms', p, rfl, x, y⟩ := h.sa.last
 have up : ∀ q a, StAt H q a → StAt (upd H l (.lst (wts.map V.ref))) q a := fun q a z => z.upd h.ll fun _ e => by cases e
 refine ⟨wms', p, rfl, up _ _ y, h.wk p (by simp), ?_⟩
 refine { dd := ?_, ll := upd_same, sa := x.imp up, ks := fun z hz => up _ _ (h.ks z hz), nd := h.nd, rc := h.rc, st := h.st, wk := fun s hs => h.wk s (by simp [hs]), cl := fun s hs => ?_, wl := by have := h.wl; simp at this; lia }
 ·rw [upd_ne h.dl]
  exact h.dd
 ·rcases h.cl s hs with z | z | z
  ·rcases List.mem_append.mp z with z | z
   ·exact .inl z
   ·exact .inr (.inl (by rw [List.mem_singleton.mp z]))
  ·cases z
  ·exact .inr (.inr z)
theorem Wkg.put {p : Int × List Int} {a : Addr} (h : Wkg P w H d l ps lo hi s0 cur xs wts wms) (ha : StAt H p a) (hp : p ∉ xs.map (·.1)) (hr : Reach ps lo hi s0 p) : Wkg P w (upd (upd H d (DSt P w d (xs ++ [(p, a)]))) l (.lst ((wts ++ [a]).map V.ref))) d l ps lo hi s0 cur (xs ++ [(p, a)]) (wts ++ [a]) (wms ++ [p]) := by
 have hl : upd H d (DSt P w d (xs ++ [(p, a)])) l = some (.lst (wts.map V.ref)) := by rw [upd_ne (Ne.symm h.dl)]; exact h.ll
 have up : ∀ q b, StAt H q b → StAt (upd (upd H d (DSt P w d (xs ++ [(p, a)]))) l (.lst ((wts ++ [a]).map V.ref))) q b := fun q b z => (z.upd h.dd fun _ e => by cases e).upd hl fun _ e => by cases e
 refine { dd := ?_, ll := upd_same, sa := (h.sa.imp up).snoc (up _ _ ha), ks := fun z hz => ?_, nd := ?_, rc := fun s hs => ?_, st := ?_, wk := fun s hs => ?_, cl := fun s hs => ?_, wl := by have := h.wl; simp; lia }
 ·rw [upd_ne h.dl]
  exact upd_same
 ·rcases List.mem_append.mp hz with z | z
  ·exact up _ _ (h.ks _ z)
  ·rw [List.mem_singleton.mp z]
   exact up _ _ ha
 ·rw [List.map_append]
  exact List.nodup_append.mpr ⟨h.nd, by simp, fun s hs t ht e => by
   simp at ht
   exact hp (ht ▸ e ▸ hs)⟩
 ·rw [List.map_append] at hs
  rcases List.mem_append.mp hs with z | z
  ·exact h.rc s z
  ·simp at z
   exact z ▸ hr
 ·rw [List.map_append]
  exact List.mem_append_left _ h.st
 ·rw [List.map_append]
  rcases List.mem_append.mp hs with z | z
  ·exact List.mem_append_left _ (h.wk s z)
  ·exact List.mem_append_right _ (by simpa using z)
 ·rw [List.map_append] at hs
  rcases List.mem_append.mp hs with z | z
  ·rcases h.cl s z with y | y | y
   ·exact .inl (List.mem_append_left _ y)
   ·exact .inr (.inl y)
   ·exact .inr (.inr fun c c1 c2 c3 => by rw [List.map_append]; exact List.mem_append_left _ (y c c1 c2 c3))
  ·exact .inl (List.mem_append_right _ (by simpa using z))
theorem Wkg.shut {p : Int × List Int} (h : Wkg P w H d l ps lo hi s0 (some p) xs wts wms) (hp : ∀ c, lo ≤ c → c ≤ hi → (c = p.1 - 1 ∨ c = p.1 + 1) → goTo ps p c ∈ xs.map (·.1)) : Wkg P w H d l ps lo hi s0 none xs wts wms :=
 { h with cl := fun s hs => (h.cl s hs).imp id fun z => .inr (z.elim (fun z => (Option.some.inj z).symm ▸ hp) id) }
theorem Wkg.all (h : Wkg P w H d l ps lo hi s0 none xs [] wms) {s : Int × List Int} : s ∈ xs.map (·.1) ↔ Reach ps lo hi s0 s := by
 have e : wms = [] := by
  have := h.sa.len
  exact List.length_eq_zero_iff.mp this.symm
 subst e
 refine ⟨h.rc s, fun r => r.sub h.st fun t ht => ?_⟩
 rcases h.cl t ht with z | z | z
 ·cases z
 ·cases z
 ·exact z
theorem Wkg.many (h : Wkg P w H d l ps lo hi s0 cur xs wts wms) (g : 500 < xs.length) : Many ps lo hi s0 := ⟨_, h.nd, h.rc, by simpa using g⟩
theorem Wkg.allOf {ms : List (Int × List Int)} (h : Wkg P w H d l ps lo hi s0 none xs [] wms) (hp : ms.Perm (xs.map (·.1))) (hs : ms.Pairwise fun a b => HT.pairLt b a = false) (g : xs.length ≤ 500) : AllOf ps lo hi s0 ms :=
 ⟨hp.nodup_iff.mpr h.nd, hs, fun s => hp.mem_iff.trans h.all, by rw [hp.length_eq]; simpa using g⟩
end
end L2
namespace L2
open PySem M
section
variable {P : Program} {w : World} {H : Hp} {d l : Addr} {ps : List Int} {lo hi : Int} {s0 : Int × List Int} {xs : List ((Int × List Int) × Addr)}
structure Rkg (P : Program) (w : World) (H : Hp) (d l : Addr) (ps : List Int) (lo hi : Int) (s0 : Int × List Int) (xs : List ((Int × List Int) × Addr)) : Prop where
 dd : H d = some (DSt P w d xs)
 ll : H l = some (.lst ((xs.map (·.2)).map V.ref))
 ks : ∀ x ∈ xs, StAt H x.1 x.2
 nd : (xs.map (·.1)).Nodup
 rc : ∀ s ∈ xs.map (·.1), Reach ps lo hi s0 s
 st : s0 ∈ xs.map (·.1)
theorem Rkg.dl (h : Rkg P w H d l ps lo hi s0 xs) : d ≠ l := fun z => by
 have e := h.dd
 rw [z, h.ll] at e
 cases e
theorem Rkg.more {H' : Hp} (h : Rkg P w H d l ps lo hi s0 xs) (s : Same H H') : Rkg P w H' d l ps lo hi s0 xs :=
 { h with dd := s _ _ h.dd, ll := s _ _ h.ll, ks := fun x hx => (h.ks x hx).more s }
theorem Rkg.put {p : Int × List Int} {a : Addr} (h : Rkg P w H d l ps lo hi s0 xs) (ha : StAt H p a) (hp : p ∉ xs.map (·.1)) (hr : Reach ps lo hi s0 p) : Rkg P w (upd (upd H d (DSt P w d (xs ++ [(p, a)]))) l (.lst (((xs ++ [(p, a)]).map (·.2)).map V.ref))) d l ps lo hi s0 (xs ++ [(p, a)]) := by
 have hl : upd H d (DSt P w d (xs ++ [(p, a)])) l = some (.lst ((xs.map (·.2)).map V.ref)) := by rw [upd_ne (Ne.symm h.dl)]; exact h.ll
 have up : ∀ q b, StAt H q b → StAt (upd (upd H d (DSt P w d (xs ++ [(p, a)]))) l (.lst (((xs ++ [(p, a)]).map (·.2)).map V.ref))) q b := fun q b z => (z.upd h.dd fun _ e => by cases e).upd hl fun _ e => by cases e
 refine { dd := ?_, ll := upd_same, ks := fun z hz => ?_, nd := ?_, rc := fun s hs => ?_, st := ?_ }
 ·rw [upd_ne h.dl]
  exact upd_same
 ·rcases List.mem_append.mp hz with z | z
  ·exact up _ _ (h.ks _ z)
  ·rw [List.mem_singleton.mp z]
   exact up _ _ ha
 ·rw [List.map_append]
  exact List.nodup_append.mpr ⟨h.nd, by simp, fun s hs t ht e => by
   simp at ht
   exact hp (ht ▸ e ▸ hs)⟩
 ·rw [List.map_append] at hs
  rcases List.mem_append.mp hs with z | z
  ·exact h.rc s z
  ·simp at z
   exact z ▸ hr
 ·rw [List.map_append]
  exact List.mem_append_left _ h.st
def Cld (ps : List Int) (lo hi : Int) (xs : List ((Int × List Int) × Addr)) (n : Nat) : Prop := ∀ j x, j < n → xs[j]? = some x → ∀ c, lo ≤ c → c ≤ hi → goTo ps x.1 c ∈ xs.map (·.1)
theorem Rkg.all (h : Rkg P w H d l ps lo hi s0 xs) (hc : Cld ps lo hi xs xs.length) {s : Int × List Int} : s ∈ xs.map (·.1) ↔ Reach ps lo hi s0 s := by
 refine ⟨h.rc s, fun r => r.sub h.st fun t ht c c1 c2 _ => ?_⟩
 obtain ⟨x, hx, rfl⟩ := List.mem_map.mp ht
 obtain ⟨j, hj⟩ := List.mem_iff_getElem?.mp hx
 exact hc j x (List.getElem?_eq_some_iff.mp hj).1 hj c c1 c2
theorem Rkg.many (h : Rkg P w H d l ps lo hi s0 xs) (g : 500 < xs.length) : Many ps lo hi s0 := ⟨_, h.nd, h.rc, by simpa using g⟩
theorem Rkg.allOf {ms : List (Int × List Int)} (h : Rkg P w H d l ps lo hi s0 xs) (hc : Cld ps lo hi xs xs.length) (hp : ms.Perm (xs.map (·.1))) (hs : ms.Pairwise fun a b => HT.pairLt b a = false) (g : xs.length ≤ 500) : AllOf ps lo hi s0 ms :=
 ⟨hp.nodup_iff.mpr h.nd, hs, fun s => hp.mem_iff.trans (h.all hc), by rw [hp.length_eq]; simpa using g⟩
end
end L2
namespace L2
open PySem M
section
variable {ps ws : List Int} {lo hi hd : Int} {ms : List (Int × List Int)} {k : Nat}
def colOf (k : Nat) (ms : List (Int × List Int)) : List Int := ms.map fun s => s.2[k]?.getD 0
def rngs (lo hi : Int) (ps xs : List Int) : List (Int × Int) := List.zipWith (fun d x => (min x (lo + d), max x (hi - d))) (depths 0 ps) xs
theorem rngs_get (ht : isTr ps) (hs : stand ps hd ws) (hk : k < ps.length) : ∃ d w, (depths 0 ps)[k]? = some d ∧ ws[k]? = some w ∧ (rngs lo hi ps ws)[k]? = some (min w (lo + d), max w (hi - d)) := by
 have h1 : k < (depths 0 ps).length := by rw [depths_length]; exact hk
 have h2 : k < ws.length := by rw [hs.1]; exact hk
 refine ⟨_, _, List.getElem?_eq_getElem h1, List.getElem?_eq_getElem h2, ?_⟩
 unfold rngs
 rw [List.getElem?_zipWith, List.getElem?_eq_getElem h1, List.getElem?_eq_getElem h2]
theorem col_all (ht : isTr ps) (hs : stand ps hd ws) (g1 : lo ≤ hd) (g2 : hd ≤ hi) (ha : AllOf ps lo hi (hd, ws) ms) (hk : k < ps.length) {r : Int × Int} (hr : (rngs lo hi ps ws)[k]? = some r) :
 (∀ s ∈ ms, ∃ x, s.2[k]? = some x ∧ r.1 ≤ x ∧ x ≤ r.2) ∧ r.1 ∈ colOf k ms ∧ r.2 ∈ colOf k ms := by
 obtain ⟨d, w, h1, h2, h3⟩ := rngs_get (lo := lo) (hi := hi) ht hs hk
 rw [h3] at hr
 cases hr
 refine ⟨fun s hsm => ((ha.2.2.1 s).mp hsm).rng ht hs g1 g2 h1 h2, ?_, ?_⟩
 ·refine List.mem_map.mpr ⟨goTo ps (hd, ws) lo, (ha.2.2.1 _).mpr (Reach.base.far ht hs g1 g2 (Int.le_refl _) (by lia)), ?_⟩
  rw [low_got (s0 := (hd, ws)) ht hs g1 h1 h2]
  rfl
 ·refine List.mem_map.mpr ⟨goTo ps (hd, ws) hi, (ha.2.2.1 _).mpr (Reach.base.far ht hs g1 g2 (by lia) (Int.le_refl _)), ?_⟩
  rw [high_got (s0 := (hd, ws)) ht hs g2 h1 h2]
  rfl
theorem col_min (ht : isTr ps) (hs : stand ps hd ws) (g1 : lo ≤ hd) (g2 : hd ≤ hi) (ha : AllOf ps lo hi (hd, ws) ms) (hk : k < ps.length) {r : Int × Int} (hr : (rngs lo hi ps ws)[k]? = some r) {m : Int} (hm : m ∈ colOf k ms) (hl : ∀ a ∈ colOf k ms, m ≤ a) : m = r.1 := by
 obtain ⟨c1, c2, _⟩ := col_all ht hs g1 g2 ha hk hr
 have a1 := hl _ c2
 obtain ⟨s, hs', rfl⟩ := List.mem_map.mp hm
 obtain ⟨x, hx, a2, _⟩ := c1 s hs'
 rw [hx] at a1 ⊢
 simp at a1 ⊢
 lia
theorem col_max (ht : isTr ps) (hs : stand ps hd ws) (g1 : lo ≤ hd) (g2 : hd ≤ hi) (ha : AllOf ps lo hi (hd, ws) ms) (hk : k < ps.length) {r : Int × Int} (hr : (rngs lo hi ps ws)[k]? = some r) {m : Int} (hm : m ∈ colOf k ms) (hl : ∀ a ∈ colOf k ms, a ≤ m) : m = r.2 := by
 obtain ⟨c1, _, c2⟩ := col_all ht hs g1 g2 ha hk hr
 have a1 := hl _ c2
 obtain ⟨s, hs', rfl⟩ := List.mem_map.mp hm
 obtain ⟨x, hx, _, a2⟩ := c1 s hs'
 rw [hx] at a1 ⊢
 simp at a1 ⊢
 lia
end
def sts (n : Nat) : List (Int × List Int) := (List.range n).map fun (k : Nat) => ((k : Int), [(k : Int)])
theorem go0 (s : Int × List Int) (x c : Int) (h : s.2 = [x]) : goTo [0] s c = (c, [c]) := by
 unfold goTo
 rw [h]
 show (c, [drag 0 c x]) = _
 rw [drag_zero]
theorem tr0 : isTr [0] := ⟨by decide, by decide, by simp⟩
theorem st0 : stand [0] 0 [0] := ⟨rfl, ⟨by decide, by decide⟩, trivial⟩
theorem reach0 {n : Nat} {s : Int × List Int} : Reach [0] 0 (n : Int) (0, [0]) s ↔ s ∈ sts (n + 1) := by
 constructor
 ·intro r
  have : ∃ c : Int, 0 ≤ c ∧ c ≤ n ∧ s = (c, [c]) := by
   induction r with
   | base => exact ⟨0, by lia, by lia, rfl⟩
   | step r a b c ih =>
     obtain ⟨x, _, _, rfl⟩ := ih
     exact ⟨_, a, b, go0 _ x _ rfl⟩
  obtain ⟨c, c1, c2, rfl⟩ := this
  refine List.mem_map.mpr ⟨c.toNat, List.mem_range.mpr (by lia), ?_⟩
  rw [show ((c.toNat : Nat) : Int) = c by lia]
 ·intro h
  obtain ⟨k, hk, rfl⟩ := List.mem_map.mp h
  have := List.mem_range.mp hk
  have r := (Reach.base (ps := [0]) (lo := 0) (hi := (n : Int)) (s0 := (0, [0]))).far tr0 st0 (by decide) (by show (0 : Int) ≤ _; lia) (c := (k : Int)) (by lia) (by lia)
  rwa [go0 _ 0 _ rfl] at r
theorem sts_nd (n : Nat) : (sts n).Nodup := by
 unfold sts
 refine List.Pairwise.map _ (fun a b h => ?_) List.nodup_range
 intro z
 have := congrArg Prod.fst z
 simp at this
 exact h (by lia)
theorem sts_so (n : Nat) : (sts n).Pairwise fun a b => HT.pairLt b a = false := by
 unfold sts
 refine List.Pairwise.map _ (fun a b h => ?_) (List.pairwise_lt_range)
 unfold HT.pairLt
 have h' : (a : Int) < b := by lia
 rw [if_neg (by show ¬ (b : Int) = a; lia)]
 exact decide_eq_false (by show ¬ (b : Int) < a; lia)
theorem sts_len (n : Nat) : (sts n).length = n := by simp [sts]
theorem all0 : AllOf [0] 0 499 (0, [0]) (sts 500) := ⟨sts_nd _, sts_so _, fun s => (reach0 (n := 499)).symm, by rw [sts_len]; decide⟩
theorem many0 : Many [0] 0 500 (0, [0]) := ⟨sts 501, sts_nd _, fun s hs => (reach0 (n := 500)).mpr hs, by rw [sts_len]; decide⟩
abbrev pdSt (p : Int × List Int) : PyData := .tuple [.int p.1, .tuple (p.2.map PyData.int)]
theorem pd_itup {K : PySem.W.Frag} {H : Hp} {n : Nat} {a : Addr} {ns : List Int} (h : SqT K H a (iL ns)) : PdAt K H (n + 1) (.tuple (ns.map PyData.int)) (.ref a) := pd_tup h (paired_ints ns)
theorem pd_st {K : PySem.W.Frag} {H : Hp} {n : Nat} {a : Addr} {p : Int × List Int} (h : StAt H p a) : PdAt K H (n + 2) (pdSt p) (.ref a) := by
 obtain ⟨b, e1, e2⟩ := h
 exact pd_tup (SqT.of e1) (.cons pd_int (.cons (pd_itup (SqT.of e2)) .nil))
theorem pd_sts {K : PySem.W.Frag} {H : Hp} {n : Nat} {l : Addr} {ts : List Addr} {ms : List (Int × List Int)} (h : H l = some (.lst (ts.map V.ref))) (sa : StAll H ts ms) : PdAt K H (n + 3) (.list (ms.map pdSt)) (.ref l) := by
 refine pd_lst (SqL.of h) ?_
 clear h
 induction sa with
 | nil => exact .nil
 | cons a b ih => exact .cons (pd_st a) ih
end L2
namespace My
open PySem L2 M
local macro_rules | `(tactic| walk_at "s1") => `(tactic| first
 | with_reducible refine i_var rfl ?_
 | with_reducible refine i_I0 ?_
 | with_reducible refine iteF ?_
 | with_reducible refine iteNT ?_
 | with_reducible refine iteNF ?_
 | with_reducible refine iteT ?_
 | with_reducible refine i_truB ?_
 | with_reducible refine i_addI ?_
 | with_reducible refine i_U ?_
 | with_reducible refine i_isB ?_
 | with_reducible refine i_isNotB ?_
 | with_reducible refine i_eqI ?_
 | with_reducible refine i_neI ?_
 | with_reducible refine i_intB ?_
 | with_reducible refine i_abs ?_
 | with_reducible refine i_isiII ?_
 | with_reducible refine i_isiIB ?_
 | with_reducible refine i_isiIL ?_
 | with_reducible refine i_isiID ?_
 | with_reducible refine i_isiIT ?_
 | with_reducible refine i_isiBB ?_
 | with_reducible refine i_div (by lia) (by lia) ?_
 | with_reducible refine i_mod (by lia) ?_
 | with_reducible refine And.intro (szl (Nat.le_of_ble_eq_true rfl)) ?_
 | with_reducible refine ⟨_, rfl, ?_⟩)
local macro_rules | `(tactic| walk_at "un") => `(tactic| try dsimp only [tSeq, tAsg, gName, tOp, tUn, tTest, tB, tAnd, tOr, tNot, tAndV, tOrV, tNotV, tIf, tIfS, tRet, tRetN, tDrop, tNext, tCons, tNil, tCB, tCall, tMenu, tComp, tComp2, msk, List.zipWith, tDispS, tNotInS, sPutS, iZip2, iEnum, iZipT, tNoIf, tTru, tJoin, cxOf_K, tLst, tTup, tSl, tPart, tNoPart, tBM, tBM0, tChain, tC, tFor_eq, gTup, gLst, gCons, gNil, gSub, iList, iRng1, iRng2, iRng3, iTup, iZip3, tWhile, tRev, tRaise, tCallS, tTry, tAug, tPar, tNever, ipI, List.append_nil])
local macro_rules | `(tactic| walk_at "s") => `(tactic| (walk_at "un"; repeat walk_at "s1"))
abbrev BdOk (a b : String) (st : Stmt) (ps : List Str) : Prop := ∀ (kV doc pm : Value) (an : Option Addr) (cdv ct : Value) (us : List Value) (hl : us.length = ps.length), bindArgs (PySem.W.fnOf a b (defArgs st) (defBody st) (defScope st) .none kV doc pm an cdv ct) ⟨us, []⟩ = pure (ps.zip us)
theorem len1 {us : List Value} (h : us.length = 1) : ∃ a0 : Value, us = [a0] := by
 rcases us with _ | ⟨a0, us⟩ <;> simp at h
 subst h
 exact ⟨a0, rfl⟩
theorem len2 {us : List Value} (h : us.length = 2) : ∃ a0 a1 : Value, us = [a0, a1] := by
 rcases us with _ | ⟨a0, us⟩ <;> simp at h
 rcases us with _ | ⟨a1, us⟩ <;> simp at h
 subst h
 exact ⟨a0, a1, rfl⟩
theorem len3 {us : List Value} (h : us.length = 3) : ∃ a0 a1 a2 : Value, us = [a0, a1, a2] := by
 rcases us with _ | ⟨a0, us⟩ <;> simp at h
 rcases us with _ | ⟨a1, us⟩ <;> simp at h
 rcases us with _ | ⟨a2, us⟩ <;> simp at h
 subst h
 exact ⟨a0, a1, a2, rfl⟩
theorem len4 {us : List Value} (h : us.length = 4) : ∃ a0 a1 a2 a3 : Value, us = [a0, a1, a2, a3] := by
 rcases us with _ | ⟨a0, us⟩ <;> simp at h
 rcases us with _ | ⟨a1, us⟩ <;> simp at h
 rcases us with _ | ⟨a2, us⟩ <;> simp at h
 rcases us with _ | ⟨a3, us⟩ <;> simp at h
 subst h
 exact ⟨a0, a1, a2, a3, rfl⟩
theorem len5 {us : List Value} (h : us.length = 5) : ∃ a0 a1 a2 a3 a4 : Value, us = [a0, a1, a2, a3, a4] := by
 rcases us with _ | ⟨a0, us⟩ <;> simp at h
 rcases us with _ | ⟨a1, us⟩ <;> simp at h
 rcases us with _ | ⟨a2, us⟩ <;> simp at h
 rcases us with _ | ⟨a3, us⟩ <;> simp at h
 rcases us with _ | ⟨a4, us⟩ <;> simp at h
 subst h
 exact ⟨a0, a1, a2, a3, a4, rfl⟩
local macro_rules | `(tactic| walk_at "c") => `(tactic| exact ⟨rfl, rfl, rfl, by decide +kernel, rfl, by decide +kernel, by decide +kernel⟩)
def top (i : Nat) : Stmt := PySem.Challenge.pw_lugtrain_k38_ranges_and_stands_within.main.body.getD i (.Pass ⟨0, 0, 0, 0⟩)
abbrev s_is_train : Stmt := top 16
theorem sc_is_train : FnScope ["plays"] ["plays"] (defScope s_is_train) := by walk_at "c"
theorem bd_is_train : BdOk "is_train" "is_train" s_is_train ["plays"] := fun _ _ _ _ _ _ us hl => by obtain ⟨a0, rfl⟩ := len1 hl; rfl
abbrev s_refuse_no_train : Stmt := top 17
theorem sc_refuse_no_train : FnScope ["plays"] ["plays"] (defScope s_refuse_no_train) := by walk_at "c"
theorem bd_refuse_no_train : BdOk "refuse_no_train" "refuse_no_train" s_refuse_no_train ["plays"] := fun _ _ _ _ _ _ us hl => by obtain ⟨a0, rfl⟩ := len1 hl; rfl
abbrev s_keeps_plays : Stmt := top 18
theorem sc_keeps_plays : FnScope ["plays", "handle", "wheels", "ahead", "play", "at"] ["plays", "handle", "wheels"] (defScope s_keeps_plays) := by walk_at "c"
theorem bd_keeps_plays : BdOk "keeps_plays" "keeps_plays" s_keeps_plays ["plays", "handle", "wheels"] := fun _ _ _ _ _ _ us hl => by obtain ⟨a0, a1, a2, rfl⟩ := len3 hl; rfl
abbrev s_is_stand : Stmt := top 19
theorem sc_is_stand : FnScope ["plays", "handle", "wheels"] ["plays", "handle", "wheels"] (defScope s_is_stand) := by walk_at "c"
theorem bd_is_stand : BdOk "is_stand" "is_stand" s_is_stand ["plays", "handle", "wheels"] := fun _ _ _ _ _ _ us hl => by obtain ⟨a0, a1, a2, rfl⟩ := len3 hl; rfl
abbrev s_refuse_no_stand : Stmt := top 20
theorem sc_refuse_no_stand : FnScope ["plays", "handle", "wheels"] ["plays", "handle", "wheels"] (defScope s_refuse_no_stand) := by walk_at "c"
theorem bd_refuse_no_stand : BdOk "refuse_no_stand" "refuse_no_stand" s_refuse_no_stand ["plays", "handle", "wheels"] := fun _ _ _ _ _ _ us hl => by obtain ⟨a0, a1, a2, rfl⟩ := len3 hl; rfl
abbrev s_dragged : Stmt := top 21
theorem sc_dragged : FnScope ["play", "ahead", "at"] ["play", "ahead", "at"] (defScope s_dragged) := by walk_at "c"
theorem bd_dragged : BdOk "dragged" "dragged" s_dragged ["play", "ahead", "at"] := fun _ _ _ _ _ _ us hl => by obtain ⟨a0, a1, a2, rfl⟩ := len3 hl; rfl
abbrev s_all_dragged : Stmt := top 22
theorem sc_all_dragged : FnScope ["plays", "wheels", "place", "places", "ahead", "play", "at"] ["plays", "wheels", "place"] (defScope s_all_dragged) := by walk_at "c"
theorem bd_all_dragged : BdOk "all_dragged" "all_dragged" s_all_dragged ["plays", "wheels", "place"] := fun _ _ _ _ _ _ us hl => by obtain ⟨a0, a1, a2, rfl⟩ := len3 hl; rfl
abbrev s_depths_of : Stmt := top 24
theorem sc_depths_of : FnScope ["plays", "depths", "depth", "play"] ["plays"] (defScope s_depths_of) := by walk_at "c"
theorem bd_depths_of : BdOk "depths_of" "depths_of" s_depths_of ["plays"] := fun _ _ _ _ _ _ us hl => by obtain ⟨a0, rfl⟩ := len1 hl; rfl
abbrev s_refuse_no_bounds : Stmt := top 27
theorem sc_refuse_no_bounds : FnScope ["plays", "handle", "wheels", "low", "high"] ["plays", "handle", "wheels", "low", "high"] (defScope s_refuse_no_bounds) := by walk_at "c"
theorem bd_refuse_no_bounds : BdOk "refuse_no_bounds" "refuse_no_bounds" s_refuse_no_bounds ["plays", "handle", "wheels", "low", "high"] := fun _ _ _ _ _ _ us hl => by obtain ⟨a0, a1, a2, a3, a4, rfl⟩ := len5 hl; rfl
abbrev s_ranges_of : Stmt := top 28
theorem sc_ranges_of : FnScope ["plays", "handle", "wheels", "low", "high"] ["plays", "handle", "wheels", "low", "high"] (defScope s_ranges_of) := by walk_at "c"
theorem bd_ranges_of : BdOk "ranges_of" "ranges_of" s_ranges_of ["plays", "handle", "wheels", "low", "high"] := fun _ _ _ _ _ _ us hl => by obtain ⟨a0, a1, a2, a3, a4, rfl⟩ := len5 hl; rfl
abbrev s_stands_beside : Stmt := top 29
theorem sc_stands_beside : FnScope ["plays", "handle", "wheels", "low", "high"] ["plays", "handle", "wheels", "low", "high"] (defScope s_stands_beside) := by walk_at "c"
theorem bd_stands_beside : BdOk "stands_beside" "stands_beside" s_stands_beside ["plays", "handle", "wheels", "low", "high"] := fun _ _ _ _ _ _ us hl => by obtain ⟨a0, a1, a2, a3, a4, rfl⟩ := len5 hl; rfl
abbrev s_stands_within : Stmt := top 30
theorem sc_stands_within : FnScope ["plays", "handle", "wheels", "low", "high", "first", "found", "waiting", "at", "places", "stand"] ["plays", "handle", "wheels", "low", "high"] (defScope s_stands_within) := by walk_at "c"
theorem bd_stands_within : BdOk "stands_within" "stands_within" s_stands_within ["plays", "handle", "wheels", "low", "high"] := fun _ _ _ _ _ _ us hl => by obtain ⟨a0, a1, a2, a3, a4, rfl⟩ := len5 hl; rfl
abbrev s_law_cell_at : Stmt := top 32
theorem sc_law_cell_at : FnScope ["script", "k"] ["script", "k"] (defScope s_law_cell_at) := by walk_at "c"
theorem bd_law_cell_at : BdOk "_law_cell_at" "_law_cell_at" s_law_cell_at ["script", "k"] := fun _ _ _ _ _ _ us hl => by obtain ⟨a0, a1, rfl⟩ := len2 hl; rfl
abbrev s_law_draws : Stmt := top 33
theorem sc_law_draws : FnScope ["cell", "many", "base", "found", "rest", "stirred", "k"] ["cell", "many", "base"] (defScope s_law_draws) := by walk_at "c"
theorem bd_law_draws : BdOk "_law_draws" "_law_draws" s_law_draws ["cell", "many", "base"] := fun _ _ _ _ _ _ us hl => by obtain ⟨a0, a1, a2, rfl⟩ := len3 hl; rfl
abbrev s_law_whole : Stmt := top 34
theorem sc_law_whole : FnScope ["found"] ["found"] (defScope s_law_whole) := by walk_at "c"
theorem bd_law_whole : BdOk "_law_whole" "_law_whole" s_law_whole ["found"] := fun _ _ _ _ _ _ us hl => by obtain ⟨a0, rfl⟩ := len1 hl; rfl
abbrev s_law_a_train : Stmt := top 35
theorem sc_law_a_train : FnScope ["script", "heads", "many", "far", "picks", "plays", "wheels", "handle", "ahead", "k", "play", "side"] ["script"] (defScope s_law_a_train) := by walk_at "c"
theorem bd_law_a_train : BdOk "_law_a_train" "_law_a_train" s_law_a_train ["script"] := fun _ _ _ _ _ _ us hl => by obtain ⟨a0, rfl⟩ := len1 hl; rfl
abbrev s_law_a_all : Stmt := top 36
theorem sc_law_a_all : FnScope ["plays", "wheels", "place", "found", "ahead", "play", "at"] ["plays", "wheels", "place"] (defScope s_law_a_all) := by walk_at "c"
theorem bd_law_a_all : BdOk "_law_a_all" "_law_a_all" s_law_a_all ["plays", "wheels", "place"] := fun _ _ _ _ _ _ us hl => by obtain ⟨a0, a1, a2, rfl⟩ := len3 hl; rfl
abbrev s_law_a_kin : Stmt := top 37
theorem sc_law_a_kin : FnScope ["e", "kin"] ["e"] (defScope s_law_a_kin) := by walk_at "c"
theorem bd_law_a_kin : BdOk "_law_a_kin" "_law_a_kin" s_law_a_kin ["e"] := fun _ _ _ _ _ _ us hl => by obtain ⟨a0, rfl⟩ := len1 hl; rfl
abbrev s_law_due_kin : Stmt := top 38
theorem sc_law_due_kin : FnScope ["name", "names"] ["name"] (defScope s_law_due_kin) := by walk_at "c"
theorem bd_law_due_kin : BdOk "_law_due_kin" "_law_due_kin" s_law_due_kin ["name"] := fun _ _ _ _ _ _ us hl => by obtain ⟨a0, rfl⟩ := len1 hl; rfl
abbrev s_law_told : Stmt := top 39
theorem sc_law_told : FnScope ["door", "train", "low", "high", "plays", "handle", "wheels", "found", "kin", "e"] ["door", "train", "low", "high"] (defScope s_law_told) := by walk_at "c"
theorem bd_law_told : BdOk "_law_told" "_law_told" s_law_told ["door", "train", "low", "high"] := fun _ _ _ _ _ _ us hl => by obtain ⟨a0, a1, a2, a3, rfl⟩ := len4 hl; rfl
abbrev s_law_small : Stmt := top 40
theorem sc_law_small : FnScope ["script", "picks", "many", "plays", "handle", "wheels", "ahead", "k", "play"] ["script"] (defScope s_law_small) := by walk_at "c"
theorem bd_law_small : BdOk "_law_small" "_law_small" s_law_small ["script"] := fun _ _ _ _ _ _ us hl => by obtain ⟨a0, rfl⟩ := len1 hl; rfl
abbrev s_law_a_stands : Stmt := top 41
theorem sc_law_a_stands : FnScope ["train", "low", "high", "plays", "handle", "wheels", "rows", "known", "at", "place", "there"] ["train", "low", "high"] (defScope s_law_a_stands) := by walk_at "c"
theorem bd_law_a_stands : BdOk "_law_a_stands" "_law_a_stands" s_law_a_stands ["train", "low", "high"] := fun _ _ _ _ _ _ us hl => by obtain ⟨a0, a1, a2, rfl⟩ := len3 hl; rfl
abbrev s_law_by_depths : Stmt := top 42
theorem sc_law_by_depths : FnScope ["train", "low", "high", "plays", "handle", "wheels", "found", "depth", "play", "at"] ["train", "low", "high"] (defScope s_law_by_depths) := by walk_at "c"
theorem bd_law_by_depths : BdOk "_law_by_depths" "_law_by_depths" s_law_by_depths ["train", "low", "high"] := fun _ _ _ _ _ _ us hl => by obtain ⟨a0, a1, a2, rfl⟩ := len3 hl; rfl
abbrev s_law : Stmt := top 43
theorem sc_law : FnScope ["script", "train", "cell", "picks", "low", "high", "due", "found", "kin", "ranges", "other", "k", "places", "at", "odd", "door", "great", "span"] ["script"] (defScope s_law) := by walk_at "c"
structure Txt (mg : Str → Option Value) : Prop where
 z_ValueError : mg "ValueError" = none
 z_abs : mg "abs" = none
 z_bool : mg "bool" = none
 z_enumerate : mg "enumerate" = none
 z_int : mg "int" = none
 z_isinstance : mg "isinstance" = none
 z_len : mg "len" = none
 z_list : mg "list" = none
 z_max : mg "max" = none
 z_min : mg "min" = none
 z_range : mg "range" = none
 z_sorted : mg "sorted" = none
 z_sum : mg "sum" = none
 z_tuple : mg "tuple" = none
 z_zip : mg "zip" = none
 g_MOST_PLAYS : ∃ t, mg "MOST_PLAYS" = some (.int 12 t)
 g_MOST_STANDS : ∃ t, mg "MOST_STANDS" = some (.int 500 t)
structure Cls (K : PySem.W.Frag) (mg : Str → Option Value) where
 c_TrainError : Addr
 c_NoTrain : Addr
 c_NoStand : Addr
 c_NoPaper : Addr
 c_NoBox : Addr
 c_NoSwitch : Addr
 c_NoPlace : Addr
 c_NoTable : Addr
 c_NoText : Addr
 c_NoRow : Addr
 c_NoPiece : Addr
 c_NothingLeft : Addr
 c_TooMany : Addr
 m_TrainError : mg "TrainError" = some (.ref c_TrainError)
 m_NoTrain : mg "NoTrain" = some (.ref c_NoTrain)
 m_NoStand : mg "NoStand" = some (.ref c_NoStand)
 m_NoPaper : mg "NoPaper" = some (.ref c_NoPaper)
 m_NoBox : mg "NoBox" = some (.ref c_NoBox)
 m_NoSwitch : mg "NoSwitch" = some (.ref c_NoSwitch)
 m_NoPlace : mg "NoPlace" = some (.ref c_NoPlace)
 m_NoTable : mg "NoTable" = some (.ref c_NoTable)
 m_NoText : mg "NoText" = some (.ref c_NoText)
 m_NoRow : mg "NoRow" = some (.ref c_NoRow)
 m_NoPiece : mg "NoPiece" = some (.ref c_NoPiece)
 m_NothingLeft : mg "NothingLeft" = some (.ref c_NothingLeft)
 m_TooMany : mg "TooMany" = some (.ref c_TooMany)
 x_NoTrain : PySem.W.excIn K c_NoTrain [.type "ValueError", .type "Exception", .type "BaseException", .type "object"] "ValueError.__new__" = true
 e_NoTrain : PySem.W.exmOne K (.ref c_NoTrain) (.ref c_TrainError) = some true
 i_NoTrain_ga : PySem.W.findIn K (.ref c_NoTrain) "__getattribute__" = some (some (.builtin "BaseException.__getattribute__"))
 i_NoTrain_gt : PySem.W.findIn K (.ref c_NoTrain) "__getattr__" = some none
 i_NoTrain_mb : PySem.W.mroIn K c_NoTrain (.type "BaseException") = some true
 i_NoTrain_hd : PySem.W.hasDictIn K c_NoTrain = true
 i_NoTrain_ca : PySem.W.findIn K (.ref c_NoTrain) "__class__" = some (some (.builtin "object.__class__"))
 i_NoTrain_sp : PySem.W.specialIn K (.builtin "object.__class__") "__get__" = some (some (.builtin "getset_descriptor.__get__"))
 i_NoTrain_tk : PySem.W.takesIn K (.builtin "object.__class__") = some true
 i_NoTrain_mr : PySem.W.mroIn K c_NoTrain (.type "object") = some true
 k_NoTrain_NoTrain : PySem.W.kitOne K (.ref c_NoTrain) (.ref c_NoTrain) = some true
 k_NoTrain_NoStand : PySem.W.kitOne K (.ref c_NoTrain) (.ref c_NoStand) = some false
 k_NoTrain_NoPaper : PySem.W.kitOne K (.ref c_NoTrain) (.ref c_NoPaper) = some false
 k_NoTrain_NoBox : PySem.W.kitOne K (.ref c_NoTrain) (.ref c_NoBox) = some false
 k_NoTrain_NoSwitch : PySem.W.kitOne K (.ref c_NoTrain) (.ref c_NoSwitch) = some false
 k_NoTrain_NoPlace : PySem.W.kitOne K (.ref c_NoTrain) (.ref c_NoPlace) = some false
 k_NoTrain_NoTable : PySem.W.kitOne K (.ref c_NoTrain) (.ref c_NoTable) = some false
 k_NoTrain_NoText : PySem.W.kitOne K (.ref c_NoTrain) (.ref c_NoText) = some false
 k_NoTrain_NoRow : PySem.W.kitOne K (.ref c_NoTrain) (.ref c_NoRow) = some false
 k_NoTrain_NoPiece : PySem.W.kitOne K (.ref c_NoTrain) (.ref c_NoPiece) = some false
 k_NoTrain_NothingLeft : PySem.W.kitOne K (.ref c_NoTrain) (.ref c_NothingLeft) = some false
 k_NoTrain_TooMany : PySem.W.kitOne K (.ref c_NoTrain) (.ref c_TooMany) = some false
 k_NoTrain_ValueError : PySem.W.kitOne K (.ref c_NoTrain) (.type "ValueError") = some true
 x_NoStand : PySem.W.excIn K c_NoStand [.type "ValueError", .type "Exception", .type "BaseException", .type "object"] "ValueError.__new__" = true
 e_NoStand : PySem.W.exmOne K (.ref c_NoStand) (.ref c_TrainError) = some true
 i_NoStand_ga : PySem.W.findIn K (.ref c_NoStand) "__getattribute__" = some (some (.builtin "BaseException.__getattribute__"))
 i_NoStand_gt : PySem.W.findIn K (.ref c_NoStand) "__getattr__" = some none
 i_NoStand_mb : PySem.W.mroIn K c_NoStand (.type "BaseException") = some true
 i_NoStand_hd : PySem.W.hasDictIn K c_NoStand = true
 i_NoStand_ca : PySem.W.findIn K (.ref c_NoStand) "__class__" = some (some (.builtin "object.__class__"))
 i_NoStand_sp : PySem.W.specialIn K (.builtin "object.__class__") "__get__" = some (some (.builtin "getset_descriptor.__get__"))
 i_NoStand_tk : PySem.W.takesIn K (.builtin "object.__class__") = some true
 i_NoStand_mr : PySem.W.mroIn K c_NoStand (.type "object") = some true
 k_NoStand_NoTrain : PySem.W.kitOne K (.ref c_NoStand) (.ref c_NoTrain) = some false
 k_NoStand_NoStand : PySem.W.kitOne K (.ref c_NoStand) (.ref c_NoStand) = some true
 k_NoStand_NoPaper : PySem.W.kitOne K (.ref c_NoStand) (.ref c_NoPaper) = some false
 k_NoStand_NoBox : PySem.W.kitOne K (.ref c_NoStand) (.ref c_NoBox) = some false
 k_NoStand_NoSwitch : PySem.W.kitOne K (.ref c_NoStand) (.ref c_NoSwitch) = some false
 k_NoStand_NoPlace : PySem.W.kitOne K (.ref c_NoStand) (.ref c_NoPlace) = some false
 k_NoStand_NoTable : PySem.W.kitOne K (.ref c_NoStand) (.ref c_NoTable) = some false
 k_NoStand_NoText : PySem.W.kitOne K (.ref c_NoStand) (.ref c_NoText) = some false
 k_NoStand_NoRow : PySem.W.kitOne K (.ref c_NoStand) (.ref c_NoRow) = some false
 k_NoStand_NoPiece : PySem.W.kitOne K (.ref c_NoStand) (.ref c_NoPiece) = some false
 k_NoStand_NothingLeft : PySem.W.kitOne K (.ref c_NoStand) (.ref c_NothingLeft) = some false
 k_NoStand_TooMany : PySem.W.kitOne K (.ref c_NoStand) (.ref c_TooMany) = some false
 k_NoStand_ValueError : PySem.W.kitOne K (.ref c_NoStand) (.type "ValueError") = some true
 x_TooMany : PySem.W.excIn K c_TooMany [.type "ValueError", .type "Exception", .type "BaseException", .type "object"] "ValueError.__new__" = true
 e_TooMany : PySem.W.exmOne K (.ref c_TooMany) (.ref c_TrainError) = some true
 i_TooMany_ga : PySem.W.findIn K (.ref c_TooMany) "__getattribute__" = some (some (.builtin "BaseException.__getattribute__"))
 i_TooMany_gt : PySem.W.findIn K (.ref c_TooMany) "__getattr__" = some none
 i_TooMany_mb : PySem.W.mroIn K c_TooMany (.type "BaseException") = some true
 i_TooMany_hd : PySem.W.hasDictIn K c_TooMany = true
 i_TooMany_ca : PySem.W.findIn K (.ref c_TooMany) "__class__" = some (some (.builtin "object.__class__"))
 i_TooMany_sp : PySem.W.specialIn K (.builtin "object.__class__") "__get__" = some (some (.builtin "getset_descriptor.__get__"))
 i_TooMany_tk : PySem.W.takesIn K (.builtin "object.__class__") = some true
 i_TooMany_mr : PySem.W.mroIn K c_TooMany (.type "object") = some true
 k_TooMany_NoTrain : PySem.W.kitOne K (.ref c_TooMany) (.ref c_NoTrain) = some false
 k_TooMany_NoStand : PySem.W.kitOne K (.ref c_TooMany) (.ref c_NoStand) = some false
 k_TooMany_NoPaper : PySem.W.kitOne K (.ref c_TooMany) (.ref c_NoPaper) = some false
 k_TooMany_NoBox : PySem.W.kitOne K (.ref c_TooMany) (.ref c_NoBox) = some false
 k_TooMany_NoSwitch : PySem.W.kitOne K (.ref c_TooMany) (.ref c_NoSwitch) = some false
 k_TooMany_NoPlace : PySem.W.kitOne K (.ref c_TooMany) (.ref c_NoPlace) = some false
 k_TooMany_NoTable : PySem.W.kitOne K (.ref c_TooMany) (.ref c_NoTable) = some false
 k_TooMany_NoText : PySem.W.kitOne K (.ref c_TooMany) (.ref c_NoText) = some false
 k_TooMany_NoRow : PySem.W.kitOne K (.ref c_TooMany) (.ref c_NoRow) = some false
 k_TooMany_NoPiece : PySem.W.kitOne K (.ref c_TooMany) (.ref c_NoPiece) = some false
 k_TooMany_NothingLeft : PySem.W.kitOne K (.ref c_TooMany) (.ref c_NothingLeft) = some false
 k_TooMany_TooMany : PySem.W.kitOne K (.ref c_TooMany) (.ref c_TooMany) = some true
 k_TooMany_ValueError : PySem.W.kitOne K (.ref c_TooMany) (.type "ValueError") = some true
theorem Cls.exc_NoTrain {K : PySem.W.Frag} {mg : Str → Option Value} (Z : Cls K mg) : ExcCls K mg "NoTrain" Z.c_NoTrain [.type "ValueError", .type "Exception", .type "BaseException", .type "object"] "ValueError.__new__" := ⟨Z.m_NoTrain, Z.x_NoTrain⟩
theorem Cls.exc_NoStand {K : PySem.W.Frag} {mg : Str → Option Value} (Z : Cls K mg) : ExcCls K mg "NoStand" Z.c_NoStand [.type "ValueError", .type "Exception", .type "BaseException", .type "object"] "ValueError.__new__" := ⟨Z.m_NoStand, Z.x_NoStand⟩
theorem Cls.isi_NoStand {K : PySem.W.Frag} {mg : Str → Option Value} (Z : Cls K mg) : IsiCls K Z.c_NoStand := ⟨Z.i_NoStand_ga, Z.i_NoStand_gt, Z.i_NoStand_mb, Z.i_NoStand_hd, Z.i_NoStand_ca, Z.i_NoStand_sp, Z.i_NoStand_tk, Z.i_NoStand_mr⟩
theorem Cls.exc_TooMany {K : PySem.W.Frag} {mg : Str → Option Value} (Z : Cls K mg) : ExcCls K mg "TooMany" Z.c_TooMany [.type "ValueError", .type "Exception", .type "BaseException", .type "object"] "ValueError.__new__" := ⟨Z.m_TooMany, Z.x_TooMany⟩
theorem Cls.isi_TooMany {K : PySem.W.Frag} {mg : Str → Option Value} (Z : Cls K mg) : IsiCls K Z.c_TooMany := ⟨Z.i_TooMany_ga, Z.i_TooMany_gt, Z.i_TooMany_mb, Z.i_TooMany_hd, Z.i_TooMany_ca, Z.i_TooMany_sp, Z.i_TooMany_tk, Z.i_TooMany_mr⟩
section
variable {P : Program} {w : World} {K : PySem.W.Frag} {mg : Str → Option Value} {base : Heap}
structure NewI (H H' : Hp) (l : Addr) (xs : List Int) : Prop where
 fr : H l = none
 sm : Same H H'
 at_ : H' l = some (.lst (iL xs))
theorem NewI.app {H H' : Hp} {l : Addr} {xs : List Int} {x : Int} (N : NewI H H' l xs) : NewI H (upd H' l (.lst (iL xs ++ [V.int x]))) l (xs ++ [x]) :=
 ⟨N.fr, fun b o e => by rw [upd_ne (ne_of_none e N.fr)]; exact N.sm b o e, by rw [upd_same]; simp [iL]⟩
theorem NewI.more {H H' H2 : Hp} {l : Addr} {xs : List Int} (N : NewI H H' l xs) (s : Same H' H2) : NewI H H2 l xs := ⟨N.fr, N.sm.trans s, s _ _ N.at_⟩
def spLaw (K : PySem.W.Frag) : Sp := fun vs H Q _ => ∃ (a : Addr) (ns : List Int), vs = [.ref a] ∧ SqL K H a (ns.map V.int) ∧ ns.length ≤ 63 ∧ ∀ H', Q (.bl true) H'
theorem calm_of {x : Str} {k : Nat} {spE sp : Sp} (C : CalleeE P w K mg base x k spE) (h : ∀ vs H Q E, sp vs H Q E → spE vs H Q (fun _ _ _ => False)) : Callee P w K mg base x k sp := by
 obtain ⟨f, fd, ps, F, r⟩ := C
 refine ⟨f, fd, ps, ⟨fun vs H Q E hs => F.len vs H Q _ (h vs H Q E hs), fun A outer s H args us vs Q E hr he hb hv hs => codeAny_mono (F.run A outer s H args us vs Q _ hr he hb hv (h vs H Q E hs)) fun r s' z => ?_⟩, r⟩
 cases r with
 | ok x => cases x <;> exact z
 | error e =>
   obtain ⟨_, _, _, _, _, _, _, _, _, _, _, _, q⟩ := z
   exact q.elim
def Exs (E : XK) (H : Hp) (CT CS : Addr) (tr st : Prop) : Prop := (¬ tr → ∀ H', Same H H' → E (.ref CT) none H') ∧ (tr → ¬ st → ∀ H', Same H H' → E (.ref CS) none H')
theorem Exs.imp {E : XK} {H : Hp} {CT CS : Addr} {tr st st2 : Prop} (x : Exs E H CT CS tr st) (h : tr → st → st2) : Exs E H CT CS tr st2 := ⟨x.1, fun h1 h2 => x.2 h1 fun z => h2 (h h1 z)⟩
theorem Exs.no {H : Hp} {CT CS : Addr} {tr st : Prop} (h1 : tr) (h2 : st) : Exs (fun _ _ _ => False) H CT CS tr st := ⟨fun h => absurd h1 h, fun _ h => absurd h2 h⟩
def spCellAt (K : PySem.W.Frag) : Sp := fun vs H Q _ => ∃ (a : Addr) (ns : List Int) (k : Int), vs = [.ref a, .int k] ∧ SqL K H a (iL ns) ∧ 0 ≤ k ∧ ∀ v, Q (.int v) H
theorem ok_law_cell_at (T : Txt mg) (D : Def K mg "_law_cell_at" s_law_cell_at) : Callee P w K mg base "_law_cell_at" 1 (spCellAt K) := by
 refine D.ok sc_law_cell_at bd_law_cell_at (fun vs H Q E h => ?len) (fun f cdv A outer s H vs Q E hr h => ?body)
 case len => obtain ⟨a, ns, k, rfl, _⟩ := h; rfl
 case body =>
  obtain ⟨a, ns, kk, rfl, hS, h0, k⟩ := h
  have hu := hr.units
  refine ⟨_, (pss_cons (ps_if (pt_cmpR op_lt (pv 1) (pe_callB (call_lenK K) (by rfl) T.z_len bt_len (pa_cons (pv 0) pa_nil)) (nomark _))
 (pss_one (ps_ret (pe_ix (ix_K K) (pv 0) (pv 1) (by exact fun _ _ => rfl))))
 pss_nil)
 (pss_one (ps_ret pe_int))), ?_⟩
  walk_at "un"
  try clear hu
  walk_at "s"
  refine i_lenI hS ?_
  walk_at "s"
  walk_at "z19"
  ·walk_at "s"
   exact i_ixL hS h0 g (fun v _ _ => k v)
  ·walk_at "s"
   exact k 0
def spDraws : Sp := fun vs H Q _ => ∃ cell many bas : Int, vs = [.int cell, .int many, .int bas] ∧ 0 ≤ many ∧ many ≤ 5000 ∧ 0 < bas ∧ bas < 1073741824 ∧
 ∀ l H' xs, NewI H H' l xs → (xs.length : Int) = many → (∀ x ∈ xs, 0 ≤ x ∧ x < bas) → Q (.ref l) H'
theorem ok_law_draws (T : Txt mg) (D : Def K mg "_law_draws" s_law_draws) : Callee P w K mg base "_law_draws" 1 spDraws := by
 refine D.ok sc_law_draws bd_law_draws (fun vs H Q E h => ?len) (fun f cdv A outer s H vs Q E hr h => ?body)
 case len => obtain ⟨p, a, x, rfl, _⟩ := h; rfl
 case body =>
  obtain ⟨cell, many, bas, rfl, h1, h2, h3, h4, k⟩ := h
  refine ⟨_, (pss_cons (ps_set (i := 3) sc_law_draws.nd rfl (Or.inl rfl) (pe_lst pa_nil))
 (pss_cons (ps_set (i := 4) sc_law_draws.nd rfl (Or.inl rfl) (pe_op op_mulP (pv 0) (pe_callTy call_intK (by rfl) T.z_int bt_int (pa_cons (pe_cmpR op_ge (pv 0) (pe_powK (r := 1000000000000000000) (by decide)) (nomark _)) pa_nil))))
 (pss_cons (ps_set (i := 5) sc_law_draws.nd rfl (Or.inl rfl) (pe_op op_mod (pv 0) pe_int))
 (pss_cons (ps_for PassesOwn.never rfl (pi_range1 (by rfl) T.z_range (pa_cons (pe_op op_addP (pv 1) pe_int) pa_nil)) (pg_name (i := 6) sc_law_draws.nd rfl (Or.inl rfl))
 (pss_cons (ps_set (i := 5) sc_law_draws.nd rfl (Or.inl rfl) (pe_op op_mod (pe_op op_addP (pe_op op_addP (pe_op op_addP (pe_op op_mulP (pv 5) (pv 5)) (pe_op op_mulP pe_int (pv 5))) (pv 6)) pe_int) pe_int))
 (pss_one (ps_if (PW.pt (pw_and (pt_cmpR op_gt (pv 6) pe_int (nomark _)) (pw_and1 (pt_cmpR op_gt (pv 4) pe_int (nomark _)))))
 (pss_cons (ps_expr (pe_bmK K PySem.F.plainAttrs_list PySem.F.slot_list_append PySem.F.type_list_append mt_append (pv 3) (pa_cons (pe_op op_mod (pv 4) (pv 2)) pa_nil)))
 (pss_one (ps_set (i := 4) sc_law_draws.nd rfl (Or.inl rfl) (pe_op op_fdiv (pv 4) (pv 2)))))
 (pss_one (ps_if (pt_cmpR op_gt (pv 6) pe_int (nomark _))
 (pss_one (ps_expr (pe_bmK K PySem.F.plainAttrs_list PySem.F.slot_list_append PySem.F.type_list_append mt_append (pv 3) (pa_cons (pe_op op_mod (pe_op op_fdiv (pv 5) pe_int) (pv 2)) pa_nil))))
 pss_nil))))))
 (pss_one (ps_ret (pv 3))))))), ?_⟩
  walk_at "un"
  try clear hu
  refine ⟨szl (by decide), fun l hl => ?_⟩
  walk_at "s"
  refine i_mulI (cmul_r ?_ ?_) ?_
  ·split <;> decide
  ·split <;> decide
  generalize cell * _ = rest
  walk_at "s"
  have hst0 : 0 ≤ cell % 2305843009213693951 := Int.emod_nonneg _ (by decide)
  have hst1 : cell % 2305843009213693951 < 2305843009213693951 := Int.emod_lt_of_pos _ (by decide)
  generalize cell % 2305843009213693951 = stirred at *
  refine ⟨by lia, by lia, lp_range (fun i σ H2 => ∃ (rest stirred : Int) (kk : Option V) (xs : List Int), σ = [some (.int cell), some (.int many), some (.int bas), some (.ref l), some (.int rest), some (.int stirred), kk] ∧
   0 ≤ stirred ∧ stirred < 2305843009213693951 ∧ NewI H H2 l xs ∧ xs.length = i - 3 ∧ ∀ x ∈ xs, 0 ≤ x ∧ x < bas) ?_ ?_ ?_⟩
  ·exact ⟨rest, stirred, none, [], rfl, hst0, hst1, ⟨hl, same_upd hl, upd_same⟩, rfl, by simp⟩
  ·rintro i σ H2 hi ⟨rest, stirred, kk, xs, rfl, s0, s1, N, hx, hb⟩
   walk_at "s"
   refine i_mulI (cmul_l (by lia) (by lia)) ?_
   walk_at "s"
   refine i_mulI (cmul_l (by decide) (by decide)) ?_
   walk_at "s"
   have hst0 := Int.emod_nonneg (stirred * stirred + 48271 * stirred + (0 + (i : Int)) + 1) (show (2305843009213693951 : Int) ≠ 0 by decide)
   have hst1 := Int.emod_lt_of_pos (stirred * stirred + 48271 * stirred + (0 + (i : Int)) + 1) (show (0 : Int) < 2305843009213693951 by decide)
   generalize (stirred * stirred + 48271 * stirred + (0 + (i : Int)) + 1) % 2305843009213693951 = stirred2 at *
   have app : ∀ v, 3 ≤ i → 0 ≤ v → v < bas → ∀ rest2, ∃ (rest stirred : Int) (kk : Option V) (ys : List Int), [some (V.int cell), some (.int many), some (.int bas), some (.ref l), some (.int rest2), some (.int stirred2), some (V.int (0 + (i : Int)))] = [some (.int cell), some (.int many), some (.int bas), some (.ref l), some (.int rest), some (.int stirred), kk] ∧
    0 ≤ stirred ∧ stirred < 2305843009213693951 ∧ NewI H (upd H2 l (.lst (iL xs ++ [V.int v]))) l ys ∧ ys.length = i + 1 - 3 ∧ ∀ x ∈ ys, 0 ≤ x ∧ x < bas := by
    intro v hi3 hv0 hv1 rest2
    refine ⟨rest2, stirred2, some (V.int (0 + (i : Int))), xs ++ [v], rfl, hst0, hst1, N.app, ?_, ?_⟩
    ·simp; lia
    ·intro x hxm
     rcases List.mem_append.mp hxm with z | z
     ·exact hb x z
     ·simp at z; subst z; exact ⟨hv0, hv1⟩
   have lenx : xs.length ≤ 100000 := by lia
   refine i_if (fun g1 => ?_) (fun g1 => ?_)
   ·walk_at "s"
    refine i_if (fun g2 => ?_) (fun g2 => ?_)
    ·walk_at "s"
     refine ⟨.inl ⟨rfl, _, SqL.of N.at_⟩, ?_⟩
     walk_at "s"
     refine i_app N.at_ (szlt (by simpa [iL] using lenx)) ?_
     walk_at "s"
     exact app _ (by lia) (Int.emod_nonneg _ (by lia)) (Int.emod_lt_of_pos _ h3) _
    ·walk_at "s"
     refine i_if (fun g3 => ?_) (fun g3 => absurd g1 g3)
     walk_at "s"
     refine ⟨.inl ⟨rfl, _, SqL.of N.at_⟩, ?_⟩
     walk_at "s"
     refine i_app N.at_ (szlt (by simpa [iL] using lenx)) ?_
     exact app _ (by lia) (Int.emod_nonneg _ (by lia)) (Int.emod_lt_of_pos _ h3) _
   ·walk_at "s"
    refine i_if (fun g3 => absurd g3 g1) (fun g3 => ?_)
    exact ⟨rest, stirred2, _, xs, rfl, hst0, hst1, N, by lia, hb⟩
  ·rintro σ H2 ⟨rest, stirred, kk, xs, rfl, s0, s1, N, hx, hb⟩
   walk_at "s"
   exact k l H2 xs N (by lia) hb
abbrev bL (bs : List Bool) : List V := bs.map V.bl
theorem i_isx {H : Hp} {Q : VK} {e D C' : Addr} {b : Bool} (he : H e = some (.ext (ExcAt e (.ref D)))) (C : IsiCls K D) (hk : PySem.W.kitOne K (.ref D) (.ref C') = some b) (q : Q (.bl b) H) : rIsiX K [.ref e, .ref C'] H Q := ⟨e, D, _, _, b, rfl, fun _ h => h, he, C, hk, q⟩
theorem i_isxT {H : Hp} {Q : VK} {e D : Addr} {n : String} {b : Bool} (he : H e = some (.ext (ExcAt e (.ref D)))) (C : IsiCls K D) (hk : PySem.W.kitOne K (.ref D) (.type n) = some b) (q : Q (.bl b) H) : rIsiX K [.ref e, .ty n] H Q := ⟨e, D, _, _, b, rfl, fun _ h => h, he, C, hk, q⟩
theorem bt_ValueError : bootBuiltins "ValueError" = some (.type "ValueError") := by decide +kernel
structure KinF (Z : Cls K mg) (C : Addr) (b0 b1 b2 b3 b4 b5 b6 b7 b8 b9 b10 b11 : Bool) : Prop where
 isi : IsiCls K C
 f0 : PySem.W.kitOne K (.ref C) (.ref Z.c_NoTrain) = some b0
 f1 : PySem.W.kitOne K (.ref C) (.ref Z.c_NoStand) = some b1
 f2 : PySem.W.kitOne K (.ref C) (.ref Z.c_NoPaper) = some b2
 f3 : PySem.W.kitOne K (.ref C) (.ref Z.c_NoBox) = some b3
 f4 : PySem.W.kitOne K (.ref C) (.ref Z.c_NoSwitch) = some b4
 f5 : PySem.W.kitOne K (.ref C) (.ref Z.c_NoPlace) = some b5
 f6 : PySem.W.kitOne K (.ref C) (.ref Z.c_NoTable) = some b6
 f7 : PySem.W.kitOne K (.ref C) (.ref Z.c_NoText) = some b7
 f8 : PySem.W.kitOne K (.ref C) (.ref Z.c_NoRow) = some b8
 f9 : PySem.W.kitOne K (.ref C) (.ref Z.c_NoPiece) = some b9
 f10 : PySem.W.kitOne K (.ref C) (.ref Z.c_NothingLeft) = some b10
 f11 : PySem.W.kitOne K (.ref C) (.ref Z.c_TooMany) = some b11
 f12 : PySem.W.kitOne K (.ref C) (.type "ValueError") = some true
def spKinG (Z : Cls K mg) : Sp := fun vs H Q _ => ∃ (e C : Addr) (b0 b1 b2 b3 b4 b5 b6 b7 b8 b9 b10 b11 : Bool), vs = [.ref e] ∧ H e = some (.ext (ExcAt e (.ref C))) ∧ KinF Z C b0 b1 b2 b3 b4 b5 b6 b7 b8 b9 b10 b11 ∧ ∀ l H', Same H H' → H' l = some (.lst (bL [b0, b1, b2, b3, b4, b5, b6, b7, b8, b9, b10, b11, true])) → Q (.ref l) H'
theorem ok_law_a_kin (T : Txt mg) (Z : Cls K mg) (D : Def K mg "_law_a_kin" s_law_a_kin) : CalleeN P w K mg base "_law_a_kin" 1 (spKinG Z) := by
 refine Def.okN D sc_law_a_kin bd_law_a_kin (fun vs H Q E h => ?len) (fun f cdv A outer s H vs Q E hr h => ?body)
 case len => obtain ⟨e, C, b0, b1, b2, b3, b4, b5, b6, b7, b8, b9, b10, b11, rfl, _⟩ := h; rfl
 case body =>
  obtain ⟨e, C, b0, b1, b2, b3, b4, b5, b6, b7, b8, b9, b10, b11, rfl, hE, F, k⟩ := h
  refine ⟨_, (pss_cons (ps_set (i := 1) sc_law_a_kin.nd rfl (Or.inl rfl) (pe_lst (pa_cons (pe_callB (call_isinstanceX K) (by rfl) T.z_isinstance bt_isinstance (pa_cons (pv 0) (pa_cons (pe_globR Z.m_NoTrain (by rfl)) pa_nil))) (pa_cons (pe_callB (call_isinstanceX K) (by rfl) T.z_isinstance bt_isinstance (pa_cons (pv 0) (pa_cons (pe_globR Z.m_NoStand (by rfl)) pa_nil))) (pa_cons (pe_callB (call_isinstanceX K) (by rfl) T.z_isinstance bt_isinstance (pa_cons (pv 0) (pa_cons (pe_globR Z.m_NoPaper (by rfl)) pa_nil))) (pa_cons (pe_callB (call_isinstanceX K) (by rfl) T.z_isinstance bt_isinstance (pa_cons (pv 0) (pa_cons (pe_globR Z.m_NoBox (by rfl)) pa_nil))) pa_nil))))))
 (pss_cons (ps_set (i := 1) sc_law_a_kin.nd rfl (Or.inl rfl) (pe_op op_addP (pv 1) (pe_lst (pa_cons (pe_callB (call_isinstanceX K) (by rfl) T.z_isinstance bt_isinstance (pa_cons (pv 0) (pa_cons (pe_globR Z.m_NoSwitch (by rfl)) pa_nil))) (pa_cons (pe_callB (call_isinstanceX K) (by rfl) T.z_isinstance bt_isinstance (pa_cons (pv 0) (pa_cons (pe_globR Z.m_NoPlace (by rfl)) pa_nil))) (pa_cons (pe_callB (call_isinstanceX K) (by rfl) T.z_isinstance bt_isinstance (pa_cons (pv 0) (pa_cons (pe_globR Z.m_NoTable (by rfl)) pa_nil))) pa_nil))))))
 (pss_cons (ps_set (i := 1) sc_law_a_kin.nd rfl (Or.inl rfl) (pe_op op_addP (pv 1) (pe_lst (pa_cons (pe_callB (call_isinstanceX K) (by rfl) T.z_isinstance bt_isinstance (pa_cons (pv 0) (pa_cons (pe_globR Z.m_NoText (by rfl)) pa_nil))) (pa_cons (pe_callB (call_isinstanceX K) (by rfl) T.z_isinstance bt_isinstance (pa_cons (pv 0) (pa_cons (pe_globR Z.m_NoRow (by rfl)) pa_nil))) (pa_cons (pe_callB (call_isinstanceX K) (by rfl) T.z_isinstance bt_isinstance (pa_cons (pv 0) (pa_cons (pe_globR Z.m_NoPiece (by rfl)) pa_nil))) pa_nil))))))
 (pss_one (ps_ret (pe_op op_addP (pv 1) (pe_lst (pa_cons (pe_callB (call_isinstanceX K) (by rfl) T.z_isinstance bt_isinstance (pa_cons (pv 0) (pa_cons (pe_globR Z.m_NothingLeft (by rfl)) pa_nil))) (pa_cons (pe_callB (call_isinstanceX K) (by rfl) T.z_isinstance bt_isinstance (pa_cons (pv 0) (pa_cons (pe_globR Z.m_TooMany (by rfl)) pa_nil))) (pa_cons (pe_callB (call_isinstanceX K) (by rfl) T.z_isinstance bt_isinstance (pa_cons (pv 0) (pa_cons (pe_bltn (by rfl) T.z_ValueError bt_ValueError (show RelV (.ty "ValueError") _ from rfl)) pa_nil))) pa_nil)))))))))), ?_⟩
  walk_at "un"
  try clear hu
  walk_at "s"
  refine i_isx hE F.isi F.f0 ?_
  walk_at "s"
  refine i_isx hE F.isi F.f1 ?_
  walk_at "s"
  refine i_isx hE F.isi F.f2 ?_
  walk_at "s"
  refine i_isx hE F.isi F.f3 ?_
  walk_at "s"
  intro l1 h1
  have s1 : Same H _ := same_upd (o := .lst [.bl b0, .bl b1, .bl b2, .bl b3]) h1
  have e1 : upd H l1 (.lst [.bl b0, .bl b1, .bl b2, .bl b3]) l1 = some (.lst [.bl b0, .bl b1, .bl b2, .bl b3]) := upd_same
  generalize upd H l1 (.lst [.bl b0, .bl b1, .bl b2, .bl b3]) = H1 at *
  have hE1 := s1 _ _ hE
  walk_at "s"
  refine i_isx hE1 F.isi F.f4 ?_
  walk_at "s"
  refine i_isx hE1 F.isi F.f5 ?_
  walk_at "s"
  refine i_isx hE1 F.isi F.f6 ?_
  walk_at "s"
  intro l2 h2
  refine i_addL (a := l1) (b := l2) (same_upd h2 _ _ e1) upd_same (szl (by simp)) (fun l3 h3 => ?_)
  have s3 : Same H1 _ := (same_upd (o := .lst [.bl b4, .bl b5, .bl b6]) h2).trans (same_upd (o := .lst ([.bl b0, .bl b1, .bl b2, .bl b3] ++ [.bl b4, .bl b5, .bl b6])) h3)
  have e3 : upd (upd H1 l2 (.lst [.bl b4, .bl b5, .bl b6])) l3 (.lst ([.bl b0, .bl b1, .bl b2, .bl b3] ++ [.bl b4, .bl b5, .bl b6])) l3 = some (.lst ([.bl b0, .bl b1, .bl b2, .bl b3] ++ [.bl b4, .bl b5, .bl b6])) := upd_same
  generalize upd (upd H1 l2 (.lst [.bl b4, .bl b5, .bl b6])) l3 (.lst ([.bl b0, .bl b1, .bl b2, .bl b3] ++ [.bl b4, .bl b5, .bl b6])) = H3 at *
  have S3 := s1.trans s3
  have hE3 := S3 _ _ hE
  walk_at "s"
  refine i_isx hE3 F.isi F.f7 ?_
  walk_at "s"
  refine i_isx hE3 F.isi F.f8 ?_
  walk_at "s"
  refine i_isx hE3 F.isi F.f9 ?_
  walk_at "s"
  intro l4 h4
  refine i_addL (a := l3) (b := l4) (same_upd h4 _ _ e3) upd_same (szl (by simp)) (fun l5 h5 => ?_)
  generalize hx5 : ([.bl b0, .bl b1, .bl b2, .bl b3] ++ [.bl b4, .bl b5, .bl b6] ++ [.bl b7, .bl b8, .bl b9] : List V) = x5 at *
  have s5 : Same H3 _ := (same_upd (o := .lst [.bl b7, .bl b8, .bl b9]) h4).trans (same_upd (o := .lst x5) h5)
  have e5 : upd (upd H3 l4 (.lst [.bl b7, .bl b8, .bl b9])) l5 (.lst x5) l5 = some (.lst x5) := upd_same
  generalize upd (upd H3 l4 (.lst [.bl b7, .bl b8, .bl b9])) l5 (.lst x5) = H5 at *
  have S5 := S3.trans s5
  have hE5 := S5 _ _ hE
  walk_at "s"
  refine i_isx hE5 F.isi F.f10 ?_
  walk_at "s"
  refine i_isx hE5 F.isi F.f11 ?_
  walk_at "s"
  refine i_isxT hE5 F.isi F.f12 ?_
  walk_at "s"
  intro l6 h6
  refine i_addL (a := l5) (b := l6) (same_upd h6 _ _ e5) upd_same (szl (by rw [← hx5]; simp)) (fun l7 h7 => ?_)
  refine k l7 _ ((S5.trans (same_upd h6)).trans (same_upd h7)) ?_
  rw [upd_same, ← hx5]
  rfl
def kinNames : List Str := ["NoTrain", "NoStand", "NoPaper", "NoBox", "NoSwitch", "NoPlace", "NoTable", "NoText", "NoRow", "NoPiece", "NothingLeft", "TooMany"]
theorem pd_str {H : Hp} {n : Nat} {x : Str} (h : PyData.strOk x = true) : PdAt K H n (.str x) (.str x) := by cases n <;> exact ⟨rfl, h⟩
theorem i_eqS {H : Hp} {Q : VK} {x y : Str} (hx : PyData.strOk x = true) (hy : PyData.strOk y = true) (q : Q (.bl (x == y)) H) : rEqP K (.str x) (.str y) H Q := ⟨_, _, pd_str hx, pd_str hy, by simpa [PyData.eqv] using q⟩
theorem names_ok : kinNames.all PyData.strOk = true := by decide +kernel
def dueX (x : Str) : List Bool := kinNames.map (· == x) ++ [true]
def spDueKinG : Sp := fun vs H Q _ => ∃ x : Str, vs = [.str x] ∧ PyData.strOk x = true ∧ ∀ l H', Same H H' → H' l = some (.lst (bL (dueX x))) → Q (.ref l) H'
theorem ok_law_due_kin (T : Txt mg) (D : Def K mg "_law_due_kin" s_law_due_kin) : Callee P w K mg base "_law_due_kin" 1 spDueKinG := by
 refine D.ok sc_law_due_kin bd_law_due_kin (fun vs H Q E h => ?len) (fun f cdv A outer s H vs Q E hr h => ?body)
 case len => obtain ⟨x, rfl, _⟩ := h; rfl
 case body =>
  obtain ⟨nm, rfl, hnm, k⟩ := h
  have hu := hr.units
  refine ⟨_, (pss_cons (ps_set (i := 1) sc_law_due_kin.nd rfl (Or.inl rfl) (pe_lst (pa_cons pe_str (pa_cons pe_str (pa_cons pe_str (pa_cons pe_str (pa_cons pe_str (pa_cons pe_str (pa_cons pe_str (pa_cons pe_str (pa_cons pe_str pa_nil)))))))))))
 (pss_cons (ps_set (i := 1) sc_law_due_kin.nd rfl (Or.inl rfl) (pe_op op_addP (pv 1) (pe_lst (pa_cons pe_str (pa_cons pe_str (pa_cons pe_str pa_nil))))))
 (pss_one (ps_ret (pe_op op_addP (by exact pe_comp (N := ["one", "name"]) (fr := [none, some 0]) ⟨by rfl, by decide +kernel, by decide +kernel, (show ∀ y ∈ (_ : List (Str × NameKind)), y.2 = NameKind.free → (defScope s_law_due_kin).names.lookup y.1 = some .cell ∨ (defScope s_law_due_kin).names.lookup y.1 = some .free by decide +kernel), (fr_none (fr_some (by rfl) (by first | exact Or.inl rfl | exact Or.inr rfl) (by rfl) fr_nil))⟩ (by rfl) (pi_listK K (pv 1)) (fun _ _ _ _ => (pg_name (i := 0) (show List.Nodup (["one", "name"] : List Str) by decide) (by rfl) (by first | exact Or.inl rfl | exact Or.inr rfl))) (fun _ _ _ _ => pifs_nil) (fun _ _ _ _ => (pe_cmpR (op_eqK K hu) (pv 0) (pv 1) (nomark _))) (gw_name (by rfl))) (pe_lst (pa_cons pe_bl pa_nil))))))), ?_⟩
  walk_at "un"
  try clear hu
  walk_at "s"
  intro l1 h1
  walk_at "s"
  intro l2 h2
  refine i_addL (a := l1) (b := l2) (same_upd h2 _ _ upd_same) upd_same (szl (by simp)) (fun l3 h3 => ?_)
  have s3' : ∀ o, Same H (upd _ l3 o) := fun o => ((same_upd h1).trans (same_upd h2)).trans (same_upd (o := o) h3)
  generalize hH : upd _ l3 _ = H3
  have s3 : Same H H3 := by rw [← hH]; exact s3' _
  have e4 : H3 l3 = some (.lst (kinNames.map V.str)) := by rw [← hH, upd_same]; rfl
  walk_at "s"
  refine ⟨⟨_, SqL.of e4⟩, cp_list (xs := kinNames.map V.str) (fun i ys H4 => ys = bL ((kinNames.take i).map (· == nm)) ∧ i ≤ 12 ∧ H3 = H4) ⟨by simp [bL], Nat.zero_le _, rfl⟩ ?_ (szlt (by simp [kinNames])) ?_ ?_⟩
  ·rintro i ys H4 ⟨rfl, hi, rfl⟩
   exact ⟨SqL.of e4, by simp [bL]; lia⟩
  ·rintro i x ys H4 hx ⟨rfl, hi, rfl⟩
   rw [List.getElem?_map] at hx
   obtain ⟨z, hz, rfl⟩ := Option.map_eq_some_iff.mp hx
   have hil : i < kinNames.length := (List.getElem?_eq_some_iff.mp hz).1
   walk_at "s"
   refine i_eqS (List.all_eq_true.mp names_ok z (List.mem_of_getElem? hz)) hnm ?_
   refine ⟨?_, by simp [kinNames] at hil; lia, rfl⟩
   rw [take_snoc_get hz]
   simp [bL]
  ·rintro l5 ys H4 ⟨rfl, hi, rfl⟩ h5
   walk_at "s"
   intro l6 h6
   refine i_addL (a := l5) (b := l6) (same_upd h6 _ _ upd_same) upd_same (szl (by simp [bL, kinNames])) (fun l7 h7 => ?_)
   refine k l7 _ (((s3.trans (same_upd h5)).trans (same_upd h6)).trans (same_upd h7)) ?_
   rw [upd_same]
   rfl
def spIsTrain (K : PySem.W.Frag) : Sp := fun vs H Q _ => ∃ (a : Addr) (ps : List Int), vs = [.ref a] ∧ SqL K H a (iL ps) ∧ ∀ b : Bool, (b = true ↔ isTr ps) → Q (.bl b) H
theorem ok_is_train (T : Txt mg) (D : Def K mg "is_train" s_is_train) : Callee P w K mg base "is_train" 1 (spIsTrain K) := by
 refine D.ok sc_is_train bd_is_train (fun vs H Q E h => ?len) (fun f cdv A outer s H vs Q E hr h => ?body)
 case len => obtain ⟨a, ps, rfl, _⟩ := h; rfl
 case body =>
  obtain ⟨a, ps, rfl, hS, k⟩ := h
  refine ⟨_, (pss_one (ps_ret (pe_and (pe_chain op_le op_le pe_int (pe_callB (call_lenK K) (by rfl) T.z_len bt_len (pa_cons (pv 0) pa_nil)) (pe_globI T.g_MOST_PLAYS (by rfl))) (pe_one (pe_cmpR op_ge (pe_callB (call_minK K) (by rfl) T.z_min bt_min (pa_cons (pv 0) pa_nil)) pe_int (nomark _)))))), ?_⟩
  walk_at "un"
  try clear hu
  walk_at "s"
  refine i_lenI hS ?_
  walk_at "s"
  refine i_if (fun g1 => ?_) (fun g1 => ?_)
  ·walk_at "s"
   refine i_if (fun g2 => ?_) (fun g2 => ?_)
   ·walk_at "s"
    refine i_minL hS (by lia) (fun m hm hle => ?_)
    walk_at "s"
    refine k _ ⟨fun z => ⟨by lia, by lia, fun p hp => ?_⟩, fun z => ?_⟩
    ·have := hle p hp
     have := of_decide_eq_true z
     lia
    ·exact decide_eq_true (z.2.2 m hm)
   ·exact k _ ⟨fun z => (Bool.noConfusion z), fun z => absurd z.2.1 (by lia)⟩
  ·walk_at "s"
   exact k _ ⟨fun z => (Bool.noConfusion z), fun z => absurd z.1 (by lia)⟩
def spKeeps (K : PySem.W.Frag) : Sp := fun vs H Q _ => ∃ (a b : Addr) (ps xs : List Int) (hd : Int), vs = [.ref a, .int hd, .ref b] ∧ SqL K H a (iL ps) ∧ SqL K H b (iL xs) ∧ ∀ (r : Bool) H', (r = true ↔ keeps ps hd xs) → Same H H' → Q (.bl r) H'
theorem keeps_end {ps xs : List Int} {a : Int} : keeps (ps.drop (min ps.length xs.length)) a (xs.drop (min ps.length xs.length)) := by
 by_cases h : ps.length ≤ xs.length
 ·rw [Nat.min_eq_left h, List.drop_of_length_le (Nat.le_refl _)]; trivial
 ·rw [Nat.min_eq_right (by lia), List.drop_of_length_le (l := xs) (Nat.le_refl _)]
  cases ps.drop xs.length <;> trivial
theorem ok_keeps_plays (T : Txt mg) (D : Def K mg "keeps_plays" s_keeps_plays) : Callee P w K mg base "keeps_plays" 1 (spKeeps K) := by
 refine D.ok sc_keeps_plays bd_keeps_plays (fun vs H Q E h => ?len) (fun f cdv A outer s H vs Q E hr h => ?body)
 case len => obtain ⟨a, b, ps, xs, hd, rfl, _⟩ := h; rfl
 case body =>
  obtain ⟨a, b, ps, xs, hd, rfl, hA, hB, k⟩ := h
  refine ⟨_, (pss_cons (ps_set (i := 3) sc_keeps_plays.nd rfl (Or.inl rfl) (pv 1))
 (pss_cons (ps_for PassesOwn.never rfl (pi_zip2K K (by rfl) T.z_zip (pa_cons (pv 0) (pa_cons (pv 2) pa_nil))) (pg_tupK K 2 (pgs_cons (pg_name (i := 4) sc_keeps_plays.nd rfl (Or.inl rfl)) (pgs_cons (pg_name (i := 5) sc_keeps_plays.nd rfl (Or.inl rfl)) pgs_nil)))
 (pss_cons (ps_if (pt_cmpR op_gt (pe_callB call_absK (by rfl) T.z_abs bt_abs (pa_cons (pe_op op_sub (pv 5) (pv 3)) pa_nil)) (pv 4) (nomark _))
 (pss_one (ps_ret pe_bl))
 pss_nil)
 (pss_one (ps_set (i := 3) sc_keeps_plays.nd rfl (Or.inl rfl) (pv 5)))))
 (pss_one (ps_ret pe_bl)))), ?_⟩
  walk_at "un"
  try clear hu
  walk_at "s"
  refine ⟨_, _, rfl, ⟨_, hA⟩, ⟨_, hB⟩, lp_zip (xs := iL ps) (ys := iL xs) (fun i σ H2 => ∃ (ah : Int) (u v : Option V), σ = [some (.ref a), some (.int hd), some (.ref b), some (.int ah), u, v] ∧ Same H H2 ∧ (keeps ps hd xs ↔ keeps (ps.drop i) ah (xs.drop i))) ?_ ?_ ?_ ?_⟩
  ·exact ⟨hd, _, _, rfl, Same.refl _, Iff.rfl⟩
  ·rintro i σ H2 ⟨ah, u, v, rfl, sm, hk⟩
   exact ⟨sm.seq hA, sm.seq hB⟩
  ·rintro i x y t σ H2 hx hy ⟨ah, u, v, rfl, sm, hk⟩ ht
   rw [List.getElem?_map] at hx hy
   obtain ⟨p, hp, rfl⟩ := Option.map_eq_some_iff.mp hx
   obtain ⟨q, hq, rfl⟩ := Option.map_eq_some_iff.mp hy
   walk_at "s"
   walk_at "z21"
   walk_at "s"
   rw [dropc hp, dropc hq] at hk
   walk_at "z19"
   ·walk_at "s"
    refine k _ _ ⟨fun z => (Bool.noConfusion z), fun z => ?_⟩ (sm.trans (same_upd ht))
    have := (hk.mp z).1
    split at g <;> lia
   ·walk_at "s"
    refine ⟨q, _, _, rfl, sm.trans (same_upd ht), hk.trans ⟨fun z => z.2, fun z => ⟨?_, z⟩⟩⟩
    split at g <;> lia
  ·rintro σ H2 ⟨ah, u, v, rfl, sm, hk⟩
   walk_at "s"
   refine k _ _ ⟨fun _ => hk.mpr ?_, fun _ => rfl⟩ sm
   simp only [iL, List.length_map]
   exact keeps_end
def spDragged : Sp := fun vs H Q _ => ∃ p a x, vs = [.int p, .int a, .int x] ∧ Q (.int (drag p a x)) H
theorem ok_dragged (T : Txt mg) (D : Def K mg "dragged" s_dragged) : Callee P w K mg base "dragged" 1 spDragged := by
 refine D.ok sc_dragged bd_dragged (fun vs H Q E h => ?len) (fun f cdv A outer s H vs Q E hr h => ?body)
 case len => obtain ⟨p, a, x, rfl, _⟩ := h; rfl
 case body =>
  obtain ⟨p, a, x, rfl, k⟩ := h
  unfold drag at k
  refine ⟨_, (pss_cons (ps_if (pt_cmpR op_lt (pv 2) (pe_op op_sub (pv 1) (pv 0)) (nomark _))
 (pss_one (ps_ret (pe_op op_sub (pv 1) (pv 0))))
 pss_nil)
 (pss_cons (ps_if (pt_cmpR op_gt (pv 2) (pe_op op_addP (pv 1) (pv 0)) (nomark _))
 (pss_one (ps_ret (pe_op op_addP (pv 1) (pv 0))))
 pss_nil)
 (pss_one (ps_ret (pv 2))))), ?_⟩
  walk_at "un"
  try clear hu
  walk_at "s"
  refine i_if (fun h1 => ?_) (fun h1 => ?_)
  ·walk_at "s"
   rw [if_pos h1] at k; exact k
  ·walk_at "s"
   rw [if_neg h1] at k
   refine i_if (fun h2 => ?_) (fun h2 => ?_)
   ·walk_at "s"
    rw [if_pos h2] at k; exact k
   ·walk_at "s"
    rw [if_neg h2] at k; exact k
def spRefTrainE (K : PySem.W.Frag) (C : Addr) : Sp := fun vs H Q E => ∃ (a : Addr) (ps : List Int), vs = [.ref a] ∧ SqL K H a (iL ps) ∧ (isTr ps → Q .non H) ∧ (¬ isTr ps → E (.ref C) none H)
theorem ok_refuse_no_train (T : Txt mg) (Z : Cls K mg) (D : Def K mg "refuse_no_train" s_refuse_no_train) (C_is_train : Callee P w K mg base "is_train" 1 (spIsTrain K)) : CalleeE P w K mg base "refuse_no_train" 2 (spRefTrainE K Z.c_NoTrain) := by
 refine Def.okE D sc_refuse_no_train bd_refuse_no_train (fun vs H Q E h => ?len) (fun f cdv A outer s H vs Q E hr h => ?body)
 case len => obtain ⟨a, ps, rfl, _⟩ := h; rfl
 case body =>
  obtain ⟨a, ps, rfl, hS, k1, k2⟩ := h
  refine ⟨_, (pss_one (ps_if (pt_not (pt_truthK K (pe_callN C_is_train (hr.mono (by decide)) (by rfl) (pa_cons (pv 0) pa_nil))))
 (pss_one (ps_raise Z.exc_NoTrain PySem.F.excBase_ValueError (by rfl) (pa_cons pe_str pa_nil)))
 pss_nil)), ?_⟩
  walk_at "un"
  try clear hu
  walk_at "s"
  refine ⟨a, ps, rfl, hS, fun b hb => ?_⟩
  cases b with
  | true =>
    walk_at "s"
    exact k1 (hb.mp rfl)
  | false =>
    walk_at "s"
    exact ⟨by simp, k2 fun z => by have := hb.mpr z; cases this⟩
def spIsStandE (K : PySem.W.Frag) (C : Addr) : Sp := fun vs H Q E => ∃ (a b : Addr) (ps xs : List Int) (hd : Int), vs = [.ref a, .int hd, .ref b] ∧ SqL K H a (iL ps) ∧ SqL K H b (iL xs) ∧ (isTr ps → ∀ (r : Bool) H', (r = true ↔ stand ps hd xs) → Same H H' → Q (.bl r) H') ∧ (¬ isTr ps → E (.ref C) none H)
theorem ok_is_stand (T : Txt mg) (Z : Cls K mg) (D : Def K mg "is_stand" s_is_stand) (C_refuse_no_train : CalleeE P w K mg base "refuse_no_train" 2 (spRefTrainE K Z.c_NoTrain)) (C_keeps_plays : Callee P w K mg base "keeps_plays" 1 (spKeeps K)) : CalleeE P w K mg base "is_stand" 3 (spIsStandE K Z.c_NoTrain) := by
 refine Def.okE D sc_is_stand bd_is_stand (fun vs H Q E h => ?len) (fun f cdv A outer s H vs Q E hr h => ?body)
 case len => obtain ⟨a, b, ps, xs, hd, rfl, _⟩ := h; rfl
 case body =>
  obtain ⟨a, b, ps, xs, hd, rfl, hA, hB, k, k2⟩ := h
  have hu := hr.units
  refine ⟨_, (pss_cons (ps_expr (pe_callE C_refuse_no_train (hr.mono (by decide)) (by rfl) (pa_cons (pv 0) pa_nil)))
 (pss_one (ps_ret (pe_and (pe_cmpR (op_eqK K hu) (pe_callB (call_lenK K) (by rfl) T.z_len bt_len (pa_cons (pv 2) pa_nil)) (pe_callB (call_lenK K) (by rfl) T.z_len bt_len (pa_cons (pv 0) pa_nil)) (nomark _)) (pe_one (pe_callN C_keeps_plays (hr.mono (by decide)) (by rfl) (pa_cons (pv 0) (pa_cons (pv 1) (pa_cons (pv 2) pa_nil))))))))), ?_⟩
  walk_at "un"
  try clear hu
  walk_at "s"
  refine ⟨a, ps, rfl, hA, fun ht => ?_, k2⟩
  have k := k ht
  walk_at "s"
  refine i_lenI hB ?_
  walk_at "s"
  refine i_lenI hA ?_
  walk_at "s"
  walk_at "z19"
  ·walk_at "s"
   exact ⟨a, b, ps, xs, hd, rfl, hA, hB, fun r H' hr' sm => k r H' (hr'.trans ⟨fun z => ⟨by lia, z⟩, fun z => z.2⟩) sm⟩
  ·exact k _ _ ⟨fun z => (Bool.noConfusion z), fun z => absurd z.1 (by lia)⟩ (Same.refl _)
def spDepthsE (K : PySem.W.Frag) (C : Addr) : Sp := fun vs H Q E => ∃ (a : Addr) (ps : List Int), vs = [.ref a] ∧ SqL K H a (iL ps) ∧ (isTr ps → ∀ l H', NewI H H' l (depths 0 ps) → Q (.ref l) H') ∧ (¬ isTr ps → E (.ref C) none H)
theorem ok_depths_of (T : Txt mg) (Z : Cls K mg) (D : Def K mg "depths_of" s_depths_of) (C_refuse_no_train : CalleeE P w K mg base "refuse_no_train" 2 (spRefTrainE K Z.c_NoTrain)) : CalleeE P w K mg base "depths_of" 3 (spDepthsE K Z.c_NoTrain) := by
 refine Def.okE D sc_depths_of bd_depths_of (fun vs H Q E h => ?len) (fun f cdv A outer s H vs Q E hr h => ?body)
 case len => obtain ⟨a, ps, rfl, _⟩ := h; rfl
 case body =>
  obtain ⟨a, ps, rfl, hA, k, k2⟩ := h
  refine ⟨_, (pss_cons (ps_expr (pe_callE C_refuse_no_train (hr.mono (by decide)) (by rfl) (pa_cons (pv 0) pa_nil)))
 (pss_cons (ps_set (i := 1) sc_depths_of.nd rfl (Or.inl rfl) (pe_lst pa_nil))
 (pss_cons (ps_set (i := 2) sc_depths_of.nd rfl (Or.inl rfl) pe_int)
 (pss_cons (ps_for PassesOwn.leaving rfl (pi_listK K (pv 0)) (pg_name (i := 3) sc_depths_of.nd rfl (Or.inl rfl))
 (pss_cons (ps_aug (i := 2) sc_depths_of.nd rfl (Or.inl rfl) (pv 3) ip_add)
 (pss_one (ps_expr (pe_bmK K PySem.F.plainAttrs_list PySem.F.slot_list_append PySem.F.type_list_append mt_append (pv 1) (pa_cons (pv 2) pa_nil))))))
 (pss_one (ps_ret (pv 1))))))), ?_⟩
  walk_at "un"
  try clear hu
  walk_at "s"
  refine ⟨a, ps, rfl, hA, fun ht => ?_, k2⟩
  have k := k ht
  walk_at "s"
  intro l hl
  walk_at "s"
  have s2 : Same H (upd H l (.lst [])) := same_upd hl
  have h12 := ht.2.1
  refine ⟨⟨_, s2.seq hA⟩, lp_ints (ns := ps) (fun i σ H2 => ∃ (u : Option V) (dn : List Int) (dd : Int), σ = [some (.ref a), some (.ref l), some (.int dd), u] ∧ NewI H H2 l dn ∧ dn.length = i ∧ depths 0 ps = dn ++ depths dd (ps.drop i)) ?_ ?_ ?_ ?_⟩
  ·exact ⟨_, [], 0, rfl, ⟨hl, s2, upd_same⟩, rfl, rfl⟩
  ·rintro i σ H2 _ ⟨u, dn, dd, rfl, N, hi, hd⟩
   exact N.sm.seq hA
  ·rintro i x σ H2 hxi ⟨u, dn, dd, rfl, N, hi, hd⟩
   have hil : i < ps.length := (List.getElem?_eq_some_iff.mp hxi).1
   walk_at "s"
   refine ⟨_, _, rfl, rfl, ?_⟩
   walk_at "s"
   refine ⟨.inl ⟨rfl, _, SqL.of N.at_⟩, ?_⟩
   walk_at "s"
   refine i_app N.at_ (szlt (by simp [iL]; lia)) ?_
   refine ⟨_, dn ++ [dd + x], dd + x, rfl, N.app, by simp; lia, ?_⟩
   rw [hd, dropc hxi, depths]; simp
  ·rintro σ H2 ⟨u, dn, dd, rfl, N, hi, hd⟩
   walk_at "s"
   rw [List.drop_of_length_le (Nat.le_refl _), depths, List.append_nil] at hd
   rw [hd] at k
   exact k l H2 N
theorem pdb (bs : List Bool) {H : Hp} {n : Nat} : Paired (PdAt K H n) (bs.map PyData.bool) (bL bs) := by
 induction bs with
 | nil => exact .nil
 | cons b bs ih => exact .cons pd_bl ih
def spRefStandE (K : PySem.W.Frag) (CT CS : Addr) : Sp := fun vs H Q E => ∃ (a b : Addr) (ps xs : List Int) (hd : Int), vs = [.ref a, .int hd, .ref b] ∧ SqL K H a (iL ps) ∧ SqL K H b (iL xs) ∧ (isTr ps → stand ps hd xs → ∀ H', Same H H' → Q .non H') ∧ Exs E H CT CS (isTr ps) (stand ps hd xs)
theorem ok_refuse_no_stand (T : Txt mg) (Z : Cls K mg) (D : Def K mg "refuse_no_stand" s_refuse_no_stand) (C_is_stand : CalleeE P w K mg base "is_stand" 3 (spIsStandE K Z.c_NoTrain)) : CalleeE P w K mg base "refuse_no_stand" 4 (spRefStandE K Z.c_NoTrain Z.c_NoStand) := by
 refine Def.okE D sc_refuse_no_stand bd_refuse_no_stand (fun vs H Q E h => ?len) (fun f cdv A outer s H vs Q E hr h => ?body)
 case len => obtain ⟨a, b, ps, xs, hd, rfl, _⟩ := h; rfl
 case body =>
  obtain ⟨a, b, ps, xs, hd, rfl, hA, hB, k, x⟩ := h
  refine ⟨_, (pss_one (ps_if (pt_not (pt_truthK K (pe_callE C_is_stand (hr.mono (by decide)) (by rfl) (pa_cons (pv 0) (pa_cons (pv 1) (pa_cons (pv 2) pa_nil))))))
 (pss_one (ps_raise Z.exc_NoStand PySem.F.excBase_ValueError (by rfl) (pa_cons pe_str pa_nil)))
 pss_nil)), ?_⟩
  walk_at "un"
  try clear hu
  walk_at "s"
  refine ⟨a, b, ps, xs, hd, rfl, hA, hB, fun ht r H' hr' sm => ?_, fun hn => x.1 hn _ (Same.refl _)⟩
  cases r with
  | true =>
    walk_at "s"
    exact k ht (hr'.mp rfl) H' sm
  | false =>
    walk_at "s"
    exact ⟨by simp, x.2 ht (fun z => by have := hr'.mpr z; cases this) H' sm⟩
def spRefStand (K : PySem.W.Frag) : Sp := fun vs H Q _ => ∃ (a b : Addr) (ps xs : List Int) (hd : Int), vs = [.ref a, .int hd, .ref b] ∧ SqL K H a (iL ps) ∧ SqL K H b (iL xs) ∧ isTr ps ∧ stand ps hd xs ∧ ∀ H', Same H H' → Q .non H'
theorem calm_refuse_no_stand {CT CS : Addr} (C : CalleeE P w K mg base "refuse_no_stand" 4 (spRefStandE K CT CS)) : Callee P w K mg base "refuse_no_stand" 4 (spRefStand K) :=
 calm_of C fun vs H Q E ⟨a, b, ps, xs, hd, h1, h2, h3, h4, h5, h6⟩ => ⟨a, b, ps, xs, hd, h1, h2, h3, fun _ _ => h6, Exs.no h4 h5⟩
def spDepths (K : PySem.W.Frag) : Sp := fun vs H Q _ => ∃ (a : Addr) (ps : List Int), vs = [.ref a] ∧ SqL K H a (iL ps) ∧ isTr ps ∧ ∀ l H', NewI H H' l (depths 0 ps) → Q (.ref l) H'
theorem calm_depths_of {CT : Addr} (C : CalleeE P w K mg base "depths_of" 3 (spDepthsE K CT)) : Callee P w K mg base "depths_of" 3 (spDepths K) :=
 calm_of C fun vs H Q E ⟨a, ps, h1, h2, h3, h4⟩ => ⟨a, ps, h1, h2, fun _ => h4, fun z => absurd h3 z⟩
def spAllDrT (K : PySem.W.Frag) : Sp := fun vs H Q _ => ∃ (a b : Addr) (ps xs : List Int) (c : Int), vs = [.ref a, .ref b, .int c] ∧ SqL K H a (iL ps) ∧ H b = some (.tup (iL xs)) ∧ ps.length ≤ 12 ∧ (∀ p ∈ ps, 0 ≤ p) ∧ ∀ l H', NewI H H' l (dragAll ps xs c) → Q (.ref l) H'
theorem ok_all_dragged (T : Txt mg) (D : Def K mg "all_dragged" s_all_dragged) (C_dragged : Callee P w K mg base "dragged" 1 spDragged) : Callee P w K mg base "all_dragged" 2 (spAllDrT K) := by
 refine D.ok sc_all_dragged bd_all_dragged (fun vs H Q E h => ?len) (fun f cdv A outer s H vs Q E hr h => ?body)
 case len => obtain ⟨a, b, ps, xs, c, rfl, _⟩ := h; rfl
 case body =>
  obtain ⟨a, b, ps, xs, c, rfl, hA, hB, h12, hp0, k⟩ := h
  refine ⟨_, (pss_cons (ps_set (i := 3) sc_all_dragged.nd rfl (Or.inl rfl) (pe_lst pa_nil))
 (pss_cons (ps_set (i := 4) sc_all_dragged.nd rfl (Or.inl rfl) (pv 2))
 (pss_cons (ps_for PassesOwn.never rfl (pi_zipTK K (by rfl) T.z_zip (pa_cons (pv 0) (pa_cons (pv 1) pa_nil))) (pg_tupK K 2 (pgs_cons (pg_name (i := 5) sc_all_dragged.nd rfl (Or.inl rfl)) (pgs_cons (pg_name (i := 6) sc_all_dragged.nd rfl (Or.inl rfl)) pgs_nil)))
 (pss_cons (ps_set (i := 4) sc_all_dragged.nd rfl (Or.inl rfl) (pe_callN C_dragged (hr.mono (by decide)) (by rfl) (pa_cons (pv 5) (pa_cons (pv 4) (pa_cons (pv 6) pa_nil)))))
 (pss_one (ps_expr (pe_bmK K PySem.F.plainAttrs_list PySem.F.slot_list_append PySem.F.type_list_append mt_append (pv 3) (pa_cons (pv 4) pa_nil))))))
 (pss_one (ps_ret (pv 3)))))), ?_⟩
  walk_at "un"
  try clear hu
  walk_at "s"
  intro l hl
  walk_at "s"
  have s1 : Same H (upd H l (.lst [])) := same_upd hl
  walk_at "z3"
  ·exact ⟨c, _, _, [], rfl, ⟨hl, s1, upd_same⟩, by simp, rfl, rfl⟩
  ·rintro i σ H2 ⟨ah, u, v, dn, rfl, N, hl12, hi, hk⟩
   exact ⟨N.sm.seq hA, SqT.of (N.sm _ _ hB)⟩
  ·rintro i x y t σ H2 hx hy ⟨ah, u, v, dn, rfl, N, hl12, hi, hk⟩ ht
   rw [List.getElem?_map] at hx hy
   obtain ⟨p, hp, rfl⟩ := Option.map_eq_some_iff.mp hx
   obtain ⟨q, hq, rfl⟩ := Option.map_eq_some_iff.mp hy
   have hpl : i < ps.length := (List.getElem?_eq_some_iff.mp hp).1
   walk_at "s"
   walk_at "z21"
   walk_at "s"
   refine ⟨p, ah, q, rfl, ?_⟩
   rw [dropc hp, dropc hq] at hk
   have N2 := N.more (same_upd (o := .tup [.int p, .int q]) ht)
   walk_at "s"
   refine ⟨.inl ⟨rfl, _, SqL.of N2.at_⟩, ?_⟩
   walk_at "s"
   refine i_app N2.at_ (szlt (by simp [iL]; lia)) ?_
   refine ⟨_, _, _, dn ++ [drag p ah q], rfl, N2.app, by simp; lia, by simp; lia, ?_⟩
   rw [hk, dragAll]; simp
  ·rintro σ H2 ⟨ah, u, v, dn, rfl, N, hl12, hi, hk⟩
   walk_at "s"
   have e : dragAll ps xs c = dn := by
    rw [hk]
    simp only [iL, List.length_map]
    by_cases h : ps.length ≤ xs.length
    ·rw [Nat.min_eq_left h, List.drop_of_length_le (Nat.le_refl _), dragAll_nil, List.append_nil]
    ·rw [Nat.min_eq_right (by lia), List.drop_of_length_le (l := xs) (Nat.le_refl _), dragAll_nil2, List.append_nil]
   rw [e] at k
   exact k l H2 N
def spRefBoundsE (K : PySem.W.Frag) (CT CS : Addr) : Sp := fun vs H Q E => ∃ (a b : Addr) (ps xs : List Int) (hd lo hi : Int), vs = [.ref a, .int hd, .ref b, .int lo, .int hi] ∧ SqL K H a (iL ps) ∧ SqL K H b (iL xs) ∧ (isTr ps → stand ps hd xs → lo ≤ hd → hd ≤ hi → ∀ H', Same H H' → Q .non H') ∧ Exs E H CT CS (isTr ps) (stand ps hd xs ∧ lo ≤ hd ∧ hd ≤ hi)
theorem ok_refuse_no_bounds (T : Txt mg) (Z : Cls K mg) (D : Def K mg "refuse_no_bounds" s_refuse_no_bounds) (C_refuse_no_stand : CalleeE P w K mg base "refuse_no_stand" 4 (spRefStandE K Z.c_NoTrain Z.c_NoStand)) : CalleeE P w K mg base "refuse_no_bounds" 5 (spRefBoundsE K Z.c_NoTrain Z.c_NoStand) := by
 refine Def.okE D sc_refuse_no_bounds bd_refuse_no_bounds (fun vs H Q E h => ?len) (fun f cdv A outer s H vs Q E hr h => ?body)
 case len => obtain ⟨a, b, ps, xs, hd, lo, hi, rfl, _⟩ := h; rfl
 case body =>
  obtain ⟨a, b, ps, xs, hd, lo, hi, rfl, hA, hB, k, x⟩ := h
  refine ⟨_, (pss_cons (ps_expr (pe_callE C_refuse_no_stand (hr.mono (by decide)) (by rfl) (pa_cons (pv 0) (pa_cons (pv 1) (pa_cons (pv 2) pa_nil)))))
 (pss_one (ps_if (pt_not (pt_chain op_le op_le (pv 3) (pv 1) (pv 4)))
 (pss_one (ps_raise Z.exc_NoStand PySem.F.excBase_ValueError (by rfl) (pa_cons pe_str pa_nil)))
 pss_nil))), ?_⟩
  walk_at "un"
  try clear hu
  walk_at "s"
  refine ⟨a, b, ps, xs, hd, rfl, hA, hB, fun ht hs H1 s1 => ?_, x.imp fun _ z => z.1⟩
  walk_at "s"
  walk_at "z19"
  ·walk_at "s"
   refine i_ifn (fun g2 => ?_) (fun g2 => ?_)
   ·walk_at "s"
    exact ⟨by simp, x.2 ht (fun z => g2 z.2.2) _ s1⟩
   ·walk_at "s"
    exact k ht hs g g2 _ s1
  ·walk_at "s"
   exact ⟨by simp, x.2 ht (fun z => g z.2.1) _ s1⟩
def bes (ps : List Int) (s : Int × List Int) (lo hi : Int) (cs : List Int) : List (Int × List Int) := (cs.filter fun c => decide (lo ≤ c ∧ c ≤ hi)).map (goTo ps s)
def spBeside : Sp := fun vs H Q _ => ∃ (a b : Addr) (ps ws : List Int) (hd lo hi : Int), vs = [.ref a, .int hd, .ref b, .int lo, .int hi] ∧ H a = some (.lst (iL ps)) ∧ H b = some (.tup (iL ws)) ∧ ps.length ≤ 12 ∧ (∀ p ∈ ps, 0 ≤ p) ∧
 ∀ l ts H', H l = none → Same H H' → H' l = some (.lst (ts.map V.ref)) → StAll H' ts (bes ps (hd, ws) lo hi [hd - 1, hd + 1]) → Q (.ref l) H'
theorem ok_stands_beside (T : Txt mg) (D : Def K mg "stands_beside" s_stands_beside) (C_all_dragged : Callee P w K mg base "all_dragged" 2 (spAllDrT K)) : Callee P w K mg base "stands_beside" 3 spBeside := by
 refine D.ok sc_stands_beside bd_stands_beside (fun vs H Q E h => ?len) (fun f cdv A outer s H vs Q E hr h => ?body)
 case len => obtain ⟨a, b, ps, ws, hd, lo, hi, rfl, _⟩ := h; rfl
 case body =>
  obtain ⟨a, b, ps, ws, hd, lo, hi, rfl, hA, hB, h12, hp0, k⟩ := h
  have hu := hr.units
  refine ⟨_, (pss_one (ps_ret (by exact pe_comp (N := ["place", "plays", "wheels", "low", "high"]) (fr := [none, some 0, some 2, some 3, some 4]) ⟨by rfl, by decide +kernel, by decide +kernel, (show ∀ y ∈ (_ : List (Str × NameKind)), y.2 = NameKind.free → (defScope s_stands_beside).names.lookup y.1 = some .cell ∨ (defScope s_stands_beside).names.lookup y.1 = some .free by decide +kernel), (fr_none (fr_some (by rfl) (by first | exact Or.inl rfl | exact Or.inr rfl) (by rfl) (fr_some (by rfl) (by first | exact Or.inl rfl | exact Or.inr rfl) (by rfl) (fr_some (by rfl) (by first | exact Or.inl rfl | exact Or.inr rfl) (by rfl) (fr_some (by rfl) (by first | exact Or.inl rfl | exact Or.inr rfl) (by rfl) fr_nil)))))⟩ (by rfl) (pi_tupK K (pe_tup (pa_cons (pe_op op_sub (pv 1) pe_int) (pa_cons (pe_op op_addP (pv 1) pe_int) pa_nil)))) (fun _ _ _ _ => (pg_name (i := 0) (show List.Nodup (["place", "plays", "wheels", "low", "high"] : List Str) by decide) (by rfl) (by first | exact Or.inl rfl | exact Or.inr rfl))) (fun _ _ _ _ => (pifs_one (pt_chain op_le op_le (pv 3) (pv 0) (pv 4)))) (fun _ _ _ _ => (pe_tup (pa_cons (pv 0) (pa_cons (pe_callTy (call_tupleK K) (by rfl) T.z_tuple bt_tuple (pa_cons (pe_callN C_all_dragged (hr.mono (by decide)) (by rfl) (pa_cons (pv 1) (pa_cons (pv 2) (pa_cons (pv 0) pa_nil)))) pa_nil)) pa_nil)))) (gw_name (by rfl))))), ?_⟩
  walk_at "un"
  try clear hu
  walk_at "s"
  intro p hp
  have s1 : Same H _ := same_upd (o := .tup [.int (hd - 1), .int (hd + 1)]) hp
  have e1 : upd H p (.tup [.int (hd - 1), .int (hd + 1)]) p = some (.tup [.int (hd - 1), .int (hd + 1)]) := upd_same
  generalize upd H p (.tup [.int (hd - 1), .int (hd + 1)]) = H1 at *
  refine ⟨_, rfl, ⟨_, SqT.of e1⟩, cp_tup (xs := [.int (hd - 1), .int (hd + 1)]) (fun i ys H2 => ∃ ts : List Addr, ys = ts.map V.ref ∧ Same H1 H2 ∧ StAll H2 ts (bes ps (hd, ws) lo hi ([hd - 1, hd + 1].take i)) ∧ ts.length ≤ i) ⟨[], rfl, Same.refl _, .nil, Nat.le_refl _⟩ ?_ (szlt (by simp)) ?_ ?_⟩
  ·rintro i ys H2 ⟨ts, rfl, sm, _, hl⟩
   exact ⟨SqT.of (sm _ _ e1), by simpa using hl⟩
  ·rintro i x ys H2 hx ⟨ts, rfl, sm, sa, hl⟩
   have hx' : ∃ z : Int, x = .int z ∧ [hd - 1, hd + 1].take (i + 1) = [hd - 1, hd + 1].take i ++ [z] := by
    match i, hx with
    | 0, hx => exact ⟨_, (by simpa using hx.symm), rfl⟩
    | 1, hx => exact ⟨_, (by simpa using hx.symm), rfl⟩
    | i + 2, hx => simp at hx
   obtain ⟨z, rfl, hz⟩ := hx'
   have besT : lo ≤ z → z ≤ hi → bes ps (hd, ws) lo hi ([hd - 1, hd + 1].take (i + 1)) = bes ps (hd, ws) lo hi ([hd - 1, hd + 1].take i) ++ [(z, dragAll ps ws z)] := fun g g2 => by
    rw [hz]
    unfold bes
    rw [List.filter_append, List.map_append]
    simp [g, g2, goTo]
   have besF : ¬ (lo ≤ z ∧ z ≤ hi) → bes ps (hd, ws) lo hi ([hd - 1, hd + 1].take (i + 1)) = bes ps (hd, ws) lo hi ([hd - 1, hd + 1].take i) := fun g => by
    rw [hz]
    unfold bes
    rw [List.filter_append, List.map_append]
    rw [show List.filter (fun c => decide (lo ≤ c ∧ c ≤ hi)) [z] = [] by simp [g]]
    simp
   walk_at "s"
   walk_at "z19"
   ·walk_at "s"
    refine i_if (fun g2 => ?_) (fun g2 => ?_)
    ·walk_at "s"
     refine ⟨a, b, ps, ws, z, rfl, SqL.of (sm _ _ (s1 _ _ hA)), sm _ _ (s1 _ _ hB), h12, hp0, fun l3 H3 N3 => ?_⟩
     walk_at "s"
     refine i_tupL (SqL.of N3.at_) (fun l4 h4 => ?_)
     have s4 : Same H3 _ := same_upd (o := .tup (iL (dragAll ps ws z))) h4
     have e4 : upd H3 l4 (.tup (iL (dragAll ps ws z))) l4 = some (.tup (iL (dragAll ps ws z))) := upd_same
     generalize upd H3 l4 (.tup (iL (dragAll ps ws z))) = H4 at *
     walk_at "s"
     intro l5 h5
     have s5 : Same H4 _ := same_upd (o := .tup [.int z, .ref l4]) h5
     have S5 := N3.sm.trans (s4.trans s5)
     refine ⟨ts ++ [l5], by simp, sm.trans S5, ?_, by simp; lia⟩
     rw [besT g g2]
     exact (sa.more S5).snoc ⟨l4, upd_same, s5 _ _ e4⟩
    ·exact ⟨ts, rfl, sm, by rw [besF fun z => g2 z.2]; exact sa, by lia⟩
   ·walk_at "s"
    exact ⟨sm, by rw [besF fun z => g z.1]; exact sa, by lia⟩
  ·rintro l ys H2 ⟨ts, rfl, sm, sa, hl⟩ hl2
   exact k l ts _ ((s1.trans sm).free hl2) ((s1.trans sm).trans (same_upd hl2)) upd_same (sa.more (same_upd hl2))
def PrAll (H : Hp) (ts : List Addr) (ms : List (Int × Int)) : Prop := Paired (fun t (p : Int × Int) => H t = some (.tup [.int p.1, .int p.2])) ts ms
theorem PrAll.more {H H' : Hp} (s : Same H H') : ∀ {ts : List Addr} {ms : List (Int × Int)}, PrAll H ts ms → PrAll H' ts ms
 | _, _, .nil => .nil
 | _, _, .cons a b => .cons (s _ _ a) (PrAll.more s b)
theorem PrAll.snoc {H : Hp} {t : Addr} {p : Int × Int} : ∀ {ts : List Addr} {ms : List (Int × Int)}, PrAll H ts ms → H t = some (.tup [.int p.1, .int p.2]) → PrAll H (ts ++ [t]) (ms ++ [p])
 | _, _, .nil, h => .cons h .nil
 | _, _, .cons a b, h => .cons a (PrAll.snoc b h)
theorem PrAll.len {H : Hp} : ∀ {ts : List Addr} {ms : List (Int × Int)}, PrAll H ts ms → ts.length = ms.length
 | _, _, .nil => rfl
 | _, _, .cons a b => by simp [PrAll.len b]
theorem PrAll.get {H : Hp} : ∀ {ts : List Addr} {ms : List (Int × Int)} {i : Nat} {p : Int × Int}, PrAll H ts ms → ms[i]? = some p → ∃ t, ts[i]? = some t ∧ H t = some (.tup [.int p.1, .int p.2])
 | _, _, _, _, .nil, h => by simp at h
 | _, _, 0, _, .cons a b, h => by
   simp at h
   subst h
   exact ⟨_, rfl, a⟩
 | _, _, i + 1, _, .cons a b, h => by simpa using PrAll.get b (by simpa using h)
theorem PrAll.up {H : Hp} {l : Addr} {vs us : List V} : ∀ {ts : List Addr} {ms : List (Int × Int)}, PrAll H ts ms → H l = some (.lst us) → PrAll (upd H l (.lst vs)) ts ms
 | _, _, .nil, _ => .nil
 | _, _, .cons a b, h => .cons (by rw [upd_ne fun z => by rw [z, h] at a; cases a]; exact a) (PrAll.up b h)
theorem zw_take {α β γ : Type} {f : α → β → γ} {xs : List α} {ys : List β} {i : Nat} {x : α} {y : β} (hx : xs[i]? = some x) (hy : ys[i]? = some y) : List.zipWith f (xs.take (i + 1)) (ys.take (i + 1)) = List.zipWith f (xs.take i) (ys.take i) ++ [f x y] := by
 have h1 := (List.getElem?_eq_some_iff.mp hx).1
 have h2 := (List.getElem?_eq_some_iff.mp hy).1
 rw [take_snoc_get hx, take_snoc_get hy, List.zipWith_append (by simp; lia)]
 rfl
def spRangesX (K : PySem.W.Frag) (CT CS : Addr) : Sp := fun vs H Q E => ∃ (a b : Addr) (ps xs : List Int) (hd lo hi : Int), vs = [.ref a, .int hd, .ref b, .int lo, .int hi] ∧ SqL K H a (iL ps) ∧ SqL K H b (iL xs) ∧ (isTr ps → stand ps hd xs → lo ≤ hd → hd ≤ hi → ∀ l ts H', Same H H' → H' l = some (.lst (ts.map V.ref)) → PrAll H' ts (rngs lo hi ps xs) → Q (.ref l) H') ∧ Exs E H CT CS (isTr ps) (stand ps hd xs ∧ lo ≤ hd ∧ hd ≤ hi)
theorem ok_ranges_of (T : Txt mg) (Z : Cls K mg) (D : Def K mg "ranges_of" s_ranges_of) (C_refuse_no_bounds : CalleeE P w K mg base "refuse_no_bounds" 5 (spRefBoundsE K Z.c_NoTrain Z.c_NoStand)) (C_depths_of : Callee P w K mg base "depths_of" 3 (spDepths K)) : CalleeE P w K mg base "ranges_of" 6 (spRangesX K Z.c_NoTrain Z.c_NoStand) := by
 refine Def.okE D sc_ranges_of bd_ranges_of (fun vs H Q E h => ?len) (fun f cdv A outer s H vs Q E hr h => ?body)
 case len => obtain ⟨a, b, ps, xs, hd, lo, hi, rfl, _⟩ := h; rfl
 case body =>
  obtain ⟨a, b, ps, xs, hd, lo, hi, rfl, hA, hB, k, x⟩ := h
  have hu := hr.units
  refine ⟨_, (pss_cons (ps_expr (pe_callE C_refuse_no_bounds (hr.mono (by decide)) (by rfl) (pa_cons (pv 0) (pa_cons (pv 1) (pa_cons (pv 2) (pa_cons (pv 3) (pa_cons (pv 4) pa_nil)))))))
 (pss_one (ps_ret (by exact pe_comp (N := ["depth", "at", "low", "high"]) (fr := [none, none, some 3, some 4]) ⟨by rfl, by decide +kernel, by decide +kernel, (show ∀ y ∈ (_ : List (Str × NameKind)), y.2 = NameKind.free → (defScope s_ranges_of).names.lookup y.1 = some .cell ∨ (defScope s_ranges_of).names.lookup y.1 = some .free by decide +kernel), (fr_none (fr_none (fr_some (by rfl) (by first | exact Or.inl rfl | exact Or.inr rfl) (by rfl) (fr_some (by rfl) (by first | exact Or.inl rfl | exact Or.inr rfl) (by rfl) fr_nil))))⟩ (by rfl) (pi_zip2K K (by rfl) T.z_zip (pa_cons (pe_callN C_depths_of (hr.mono (by decide)) (by rfl) (pa_cons (pv 0) pa_nil)) (pa_cons (pv 2) pa_nil))) (fun _ _ _ _ => (pg_tupK K 2 (pgs_cons (pg_name (i := 0) (show List.Nodup (["depth", "at", "low", "high"] : List Str) by decide) (by rfl) (by first | exact Or.inl rfl | exact Or.inr rfl)) (pgs_cons (pg_name (i := 1) (show List.Nodup (["depth", "at", "low", "high"] : List Str) by decide) (by rfl) (by first | exact Or.inl rfl | exact Or.inr rfl)) pgs_nil)))) (fun _ _ _ _ => pifs_nil) (fun _ _ _ _ => (pe_tup (pa_cons (pe_callB (call_minK K) (by rfl) T.z_min bt_min (pa_cons (pv 1) (pa_cons (pe_op op_addP (pv 2) (pv 0)) pa_nil))) (pa_cons (pe_callB (call_maxK K) (by rfl) T.z_max bt_max (pa_cons (pv 1) (pa_cons (pe_op op_sub (pv 3) (pv 0)) pa_nil))) pa_nil)))) (gw_tup (gws_cons (gw_name (by rfl)) (gws_cons (gw_name (by rfl)) gws_nil))))))), ?_⟩
  walk_at "un"
  try clear hu
  walk_at "s"
  refine ⟨a, b, ps, xs, hd, lo, hi, rfl, hA, hB, fun ht hs g1 g2 H1 s1 => ?_, x⟩
  have k := k ht hs g1 g2
  walk_at "s"
  refine ⟨a, ps, rfl, s1.seq hA, ht, fun l2 H2 N2 => ?_⟩
  have S2 := s1.trans N2.sm
  have h12 := ht.2.1
  have hxl := hs.1
  have hdl := depths_length ps 0
  walk_at "s"
  refine ⟨_, _, rfl, ⟨_, SqL.of N2.at_⟩, ⟨_, S2.seq hB⟩, cp_zip (xs := iL (depths 0 ps)) (ys := iL xs) (fun i ys H3 => ∃ ts : List Addr, ys = ts.map V.ref ∧ Same H2 H3 ∧ PrAll H3 ts (List.zipWith (fun d x => (min x (lo + d), max x (hi - d))) ((depths 0 ps).take i) (xs.take i)) ∧ ts.length = i) ⟨[], rfl, Same.refl _, .nil, rfl⟩ ?_ (szlt (by simp [iL, depths_length]; lia)) ?_ ?_⟩
  ·rintro i ys H3 ⟨ts, rfl, s3, _, hl⟩
   exact ⟨SqL.of (s3 _ _ N2.at_), (S2.trans s3).seq hB, by simp; lia⟩
  ·rintro i x y tt ys H3 hx hy ⟨ts, rfl, s3, pa, hl⟩ htt
   unfold iL at hx hy
   rw [List.getElem?_map] at hx hy
   obtain ⟨u, hu', rfl⟩ := Option.map_eq_some_iff.mp hx
   obtain ⟨v, hv', rfl⟩ := Option.map_eq_some_iff.mp hy
   walk_at "s"
   walk_at "z21"
   walk_at "s"
   refine i_min2 ?_
   rintro m1 rfl
   walk_at "s"
   refine i_max2 ?_
   rintro m2 rfl
   walk_at "s"
   intro t2 h2
   have s5 := (same_upd (o := .tup [.int u, .int v]) htt).trans (same_upd (o := .tup [.int (min v (lo + u)), .int (max v (hi - u))]) h2)
   refine ⟨ts ++ [t2], by simp, s3.trans s5, ?_, by simp; lia⟩
   rw [zw_take hu' hv']
   exact (pa.more s5).snoc upd_same
  ·rintro l4 ys H3 ⟨ts, rfl, s3, pa, hl⟩ h4
   refine k l4 ts _ (S2.trans (s3.trans (same_upd h4))) upd_same ?_
   have e : min (iL (depths 0 ps)).length (iL xs).length = xs.length := by simp [iL]; lia
   rw [e, List.take_of_length_le (by lia), List.take_of_length_le (Nat.le_refl _)] at pa
   exact pa.more (same_upd h4)
theorem ifT {b : Bool} {A B : Prop} (e : b = true) (h : A) : if b = true then A else B := by rw [if_pos e]; exact h
theorem ifF {b : Bool} {A B : Prop} (e : b = false) (h : B) : if b = true then A else B := by rw [if_neg (by rw [e]; exact Bool.false_ne_true)]; exact h
theorem bes_mem {ps : List Int} {s : Int × List Int} {lo hi : Int} {c : Int} (h1 : lo ≤ c) (h2 : c ≤ hi) (h : c = s.1 - 1 ∨ c = s.1 + 1) : goTo ps s c ∈ bes ps s lo hi [s.1 - 1, s.1 + 1] := by
 unfold bes
 refine List.mem_map.mpr ⟨c, List.mem_filter.mpr ⟨?_, by simp [h1, h2]⟩, rfl⟩
 rcases h with rfl | rfl <;> simp
theorem bes_reach {ps : List Int} {s s0 p : Int × List Int} {lo hi : Int} (r : Reach ps lo hi s0 s) (h : p ∈ bes ps s lo hi [s.1 - 1, s.1 + 1]) : Reach ps lo hi s0 p := by
 unfold bes at h
 obtain ⟨c, hc, rfl⟩ := List.mem_map.mp h
 obtain ⟨h1, h2⟩ := List.mem_filter.mp hc
 simp at h1 h2
 exact r.step h2.1 h2.2 h1
theorem bes_len {ps : List Int} {s : Int × List Int} {lo hi a b : Int} : (bes ps s lo hi [a, b]).length ≤ 2 := by
 unfold bes
 rw [List.length_map]
 exact List.length_filter_le _ _
def spWithin (CT CS CM : Addr) : Sp := fun vs H Q E => ∃ (a b : Addr) (ps ws : List Int) (hd lo hi : Int), vs = [.ref a, .int hd, .ref b, .int lo, .int hi] ∧ H a = some (.lst (iL ps)) ∧ H b = some (.lst (iL ws)) ∧
 (isTr ps → stand ps hd ws → lo ≤ hd → hd ≤ hi → (∀ l ts ms H', Same H H' → H' l = some (.lst (ts.map V.ref)) → StAll H' ts ms → AllOf ps lo hi (hd, ws) ms → Q (.ref l) H') ∧ (Many ps lo hi (hd, ws) → ∀ H', Same H H' → E (.ref CM) none H')) ∧ Exs E H CT CS (isTr ps) (stand ps hd ws ∧ lo ≤ hd ∧ hd ≤ hi)
theorem ok_stands_within (T : Txt mg) (Z : Cls K mg) (D : Def K mg "stands_within" s_stands_within) (C_refuse_no_bounds : CalleeE P w K mg base "refuse_no_bounds" 5 (spRefBoundsE K Z.c_NoTrain Z.c_NoStand)) (C_stands_beside : Callee P w K mg base "stands_beside" 3 spBeside) : CalleeE P w K mg base "stands_within" 6 (spWithin Z.c_NoTrain Z.c_NoStand Z.c_TooMany) := by
 refine Def.okE D sc_stands_within bd_stands_within (fun vs H Q E h => ?len) (fun f cdv A outer s H vs Q E hr h => ?body)
 case len => obtain ⟨a, b, ps, ws, hd, lo, hi, rfl, _⟩ := h; rfl
 case body =>
  obtain ⟨a, b, ps, ws, hd, lo, hi, rfl, hA, hB, k, x⟩ := h
  have hu := hr.units
  refine ⟨_, (pss_cons (ps_expr (pe_callE C_refuse_no_bounds (hr.mono (by decide)) (by rfl) (pa_cons (pv 0) (pa_cons (pv 1) (pa_cons (pv 2) (pa_cons (pv 3) (pa_cons (pv 4) pa_nil)))))))
 (pss_cons (ps_set (i := 5) sc_stands_within.nd rfl (Or.inl rfl) (pe_tup (pa_cons (pv 1) (pa_cons (pe_callTy (call_tupleK K) (by rfl) T.z_tuple bt_tuple (pa_cons (pv 2) pa_nil)) pa_nil))))
 (pss_cons (ps_set (i := 6) sc_stands_within.nd rfl (Or.inl rfl) (pe_dispSK P w hu (pv 5) pe_bl))
 (pss_cons (ps_set (i := 7) sc_stands_within.nd rfl (Or.inl rfl) (pe_lst (pa_cons (pv 5) pa_nil)))
 (pss_cons (ps_while PassesOwn.leaving (pt_truthK K (pv 7))
 (pss_cons (ps_asg (pe_bm0K K PySem.F.plainAttrs_list PySem.F.slot_list_pop PySem.F.type_list_pop mt_pop (pv 7)) (pg_tupK K 2 (pgs_cons (pg_name (i := 8) sc_stands_within.nd rfl (Or.inl rfl)) (pgs_cons (pg_name (i := 9) sc_stands_within.nd rfl (Or.inl rfl)) pgs_nil))))
 (pss_cons (ps_for PassesOwn.leaving rfl (pi_listK K (pe_callN C_stands_beside (hr.mono (by decide)) (by rfl) (pa_cons (pv 0) (pa_cons (pv 8) (pa_cons (pv 9) (pa_cons (pv 3) (pa_cons (pv 4) pa_nil))))))) (pg_name (i := 10) sc_stands_within.nd rfl (Or.inl rfl))
 (pss_one (ps_if (pt_cmp (pc_notinSK P w hu (pv 10) (pv 6)))
 (pss_cons (ps_dputSK P w hu (pv 6) (pv 10) pe_bl (by rfl))
 (pss_one (ps_expr (pe_bmK K PySem.F.plainAttrs_list PySem.F.slot_list_append PySem.F.type_list_append mt_append (pv 7) (pa_cons (pv 10) pa_nil)))))
 pss_nil)))
 (pss_one (ps_if (pt_cmpR op_gt (pe_callB (call_lenSK P w) (by rfl) T.z_len bt_len (pa_cons (pv 6) pa_nil)) (pe_globI T.g_MOST_STANDS (by rfl)) (nomark _))
 (pss_one (ps_raise Z.exc_TooMany PySem.F.excBase_ValueError (by rfl) (pa_cons pe_str pa_nil)))
 pss_nil)))))
 (pss_one (ps_ret (pe_callB (call_sortedSK P w hu rfl rfl) (by rfl) T.z_sorted bt_sorted (pa_cons (pv 6) pa_nil))))))))), ?_⟩
  walk_at "un"
  try clear hu
  walk_at "s"
  refine ⟨a, b, ps, ws, hd, lo, hi, rfl, SqL.of hA, SqL.of hB, fun ht hs g1 g2 H1 s1 => ?_, x⟩
  obtain ⟨k, kx⟩ := k ht hs g1 g2
  walk_at "s"
  refine i_tupL (SqL.of (s1 _ _ hB)) (fun b2 h2 => ?_)
  walk_at "s"
  intro t3 h3
  have s3 : Same H _ := (s1.trans (same_upd (o := .tup (iL ws)) h2)).trans (same_upd (o := .tup [.int hd, .ref b2]) h3)
  have et : upd (upd H1 b2 (.tup (iL ws))) t3 (.tup [.int hd, .ref b2]) t3 = some (.tup [.int hd, .ref b2]) := upd_same
  have eb : upd (upd H1 b2 (.tup (iL ws))) t3 (.tup [.int hd, .ref b2]) b2 = some (.tup (iL ws)) := same_upd h3 _ _ upd_same
  generalize upd (upd H1 b2 (.tup (iL ws))) t3 (.tup [.int hd, .ref b2]) = H3 at *
  clear h2 h3 s1
  intro d hdn
  have s4 : Same H3 _ := same_upd (o := DSt P w d []) hdn
  walk_at "s"
  refine ⟨rfl, t3, (hd, ws), rfl, upd_same, ⟨b2, s4 _ _ et, s4 _ _ eb⟩, ?_⟩
  have s5 : Same H3 (upd (upd H3 d (DSt P w d [])) d (DSt P w d [((hd, ws), t3)])) := fun b o e => by
   have nb : b ≠ d := fun z => by rw [z, hdn] at e; cases e
   rw [upd_ne nb, upd_ne nb]
   exact e
  have e5 : upd (upd H3 d (DSt P w d [])) d (DSt P w d [((hd, ws), t3)]) d = some (DSt P w d [((hd, ws), t3)]) := upd_same
  have hdH : H d = none := s3.free hdn
  generalize upd (upd H3 d (DSt P w d [])) d (DSt P w d [((hd, ws), t3)]) = H5 at *
  clear s4
  walk_at "s"
  intro l hl
  have s6 : Same H5 _ := same_upd (o := .lst [.ref t3]) hl
  have e6 : upd H5 l (.lst [.ref t3]) l = some (.lst [.ref t3]) := upd_same
  generalize upd H5 l (.lst [.ref t3]) = H6 at *
  have S6 := s3.trans (s5.trans s6)
  have hlH : H l = none := (s3.trans s5).free hl
  have W0 : Wkg P w H6 d l ps lo hi (hd, ws) none [((hd, ws), t3)] [t3] [(hd, ws)] := by
   have z : StAt H6 (hd, ws) t3 := ⟨b2, s6 _ _ (s5 _ _ et), s6 _ _ (s5 _ _ eb)⟩
   exact ⟨s6 _ _ e5, e6, .cons z .nil, by simpa using z, by simp, by simpa using Reach.base, by simp, by simp, by simp, by simp⟩
  clear et eb s5 s6 e5 e6 hl hdn s3
  walk_at "s"
  refine ⟨fun m σ H7 => ∃ (u8 u9 u10 : Option V) (xs : List ((Int × List Int) × Addr)) (wts : List Addr) (wms : List (Int × List Int)), σ = [some (.ref a), some (.int hd), some (.ref b), some (.int lo), some (.int hi), some (.ref t3), some (.ref d), some (.ref l), u8, u9, u10] ∧ (∀ b o, H b = some o → H7 b = some o) ∧ Wkg P w H7 d l ps lo hi (hd, ws) none xs wts wms ∧ xs.length ≤ 500 ∧ m = 3 * (502 - xs.length) + wts.length, ?_, ?_⟩
  ·exact ⟨_, _, _, _, _, _, _, rfl, S6, W0, by simp, rfl⟩
  ·rintro m σ H7 ⟨u8, u9, u10, xs, wts, wms, rfl, S7, W7, h500, hm⟩
   walk_at "s"
   refine i_truL (SqL.of W7.ll) ?_
   walk_at "s"
   rcases List.eq_nil_or_concat wts with rfl | ⟨wts', t, rfl⟩
   ·refine ifF (by rfl) ?_
    walk_at "s"
    refine ⟨d, xs, rfl, W7.dd, W7.ks, fun l9 ts ms h9 sa pm so => ?_⟩
    exact k l9 ts ms _ (fun b o e => same_upd h9 _ _ (S7 b o e)) upd_same (sa.more (same_upd h9)) (W7.allOf pm so h500)
   ·refine ifT (by simp) ?_
    rw [List.concat_eq_append] at hm W7
    refine ⟨fun σ H8 => ∃ (u8 u9 u10 : Option V) (xs2 : List ((Int × List Int) × Addr)) (wts : List Addr) (wms : List (Int × List Int)), σ = [some (.ref a), some (.int hd), some (.ref b), some (.int lo), some (.int hi), some (.ref t3), some (.ref d), some (.ref l), u8, u9, u10] ∧ (∀ b o, H b = some o → H8 b = some o) ∧ Wkg P w H8 d l ps lo hi (hd, ws) none xs2 wts wms ∧ xs2.length ≤ 500 ∧ 3 * (502 - xs2.length) + wts.length < m, fun σ' H' z => ?_, ?_⟩
    ·obtain ⟨u8, u9, u10, xs2, wts2, wms2, z1, z2, z3, z4, z5⟩ := z
     exact ⟨_, z5, u8, u9, u10, xs2, wts2, wms2, z1, z2, z3, z4, rfl⟩
    walk_at "s"
    refine ⟨.inl ⟨rfl, _, SqL.of W7.ll⟩, ?_⟩
    walk_at "s"
    have e7 := W7.ll
    rw [List.map_append] at e7
    refine i_popS (xs := wts'.map V.ref) (y := .ref t) e7 ?_
    obtain ⟨wms', p, rfl, sp, hpk, W8⟩ := W7.pop
    have S8 : ∀ b o, H b = some o → upd H7 l (.lst (wts'.map V.ref)) b = some o := fun b o e => by
     rw [upd_ne (ne_of_none e hlH)]
     exact S7 b o e
    generalize upd H7 l (.lst (wts'.map V.ref)) = H8 at *
    clear W7 S7 e7
    obtain ⟨bp, ep1, ep2⟩ := sp
    have hrp := W8.rc p hpk
    walk_at "s"
    refine ⟨_, _, rfl, SqT.of ep1, rfl, _, _, rfl, _, _, rfl, rfl, ?_⟩
    walk_at "s"
    refine ⟨a, bp, ps, p.2, p.1, lo, hi, rfl, S8 _ _ hA, ep2, ht.2.1, ht.2.2, fun l9 ts H9 hl9 s9 e9 sa9 => ?_⟩
    have W9 := W8.more s9
    have S9 : ∀ b o, H b = some o → H9 b = some o := fun b o e => s9 _ _ (S8 b o e)
    have nd9 : l9 ≠ d := fun z => by rw [z, W8.dd] at hl9; cases hl9
    have nl9 : l9 ≠ l := fun z => by rw [z, W8.ll] at hl9; cases hl9
    have hl2 : ts.length ≤ 2 := by rw [sa9.len]; exact bes_len
    rw [List.length_append] at hm
    simp only [List.length_singleton] at hm
    have hbs : ∀ q ∈ bes ps (p.1, p.2) lo hi [p.1 - 1, p.1 + 1], Reach ps lo hi (hd, ws) q := fun q hq => bes_reach hrp hq
    generalize hB9 : bes ps (p.1, p.2) lo hi [p.1 - 1, p.1 + 1] = bs at *
    clear W8 S8 s9 hl9
    walk_at "s"
    refine ⟨⟨_, SqL.of e9⟩, lp_list (xs := ts.map V.ref) (fun i σ H10 => ∃ (u8 u9 u10 : Option V) (xs2 : List ((Int × List Int) × Addr)) (wts : List Addr) (wms : List (Int × List Int)), σ = [some (.ref a), some (.int hd), some (.ref b), some (.int lo), some (.int hi), some (.ref t3), some (.ref d), some (.ref l), u8, u9, u10] ∧ (∀ b o, H b = some o → H10 b = some o) ∧ Wkg P w H10 d l ps lo hi (hd, ws) (some p) xs2 wts wms ∧ xs2.length ≤ xs.length + i ∧ 3 * (502 - xs2.length) + wts.length < m ∧ H10 l9 = some (.lst (ts.map V.ref)) ∧ StAll H10 ts bs ∧ ∀ j q, j < i → bs[j]? = some q → q ∈ xs2.map (·.1)) ?_ ?_ ?_ ?_⟩
    ·exact ⟨_, _, _, xs, wts', wms', rfl, S9, W9, by lia, by lia, e9, sa9, fun j q h => absurd h (by lia)⟩
    ·rintro i σ H10 _ ⟨u8, u9, u10, xs2, wts, wms, rfl, S10, W10, hx2, hm2, e10, sa10, hin⟩
     exact SqL.of e10
    ·rintro i y σ H10 hy ⟨u8, u9, u10, xs2, wts, wms, rfl, S10, W10, hx2, hm2, e10, sa10, hin⟩
     rw [List.getElem?_map] at hy
     obtain ⟨ty, hty, rfl⟩ := Option.map_eq_some_iff.mp hy
     obtain ⟨q, hq, sq⟩ := sa10.get hty
     have hi2 : i < 2 := by have := (List.getElem?_eq_some_iff.mp hty).1; lia
     walk_at "s"
     refine ⟨ty, d, q, xs2, rfl, rfl, W10.dd, W10.ks, sq, ?_⟩
     walk_at "s"
     by_cases hqk : q ∈ xs2.map (·.1)
     ·refine ifF (by simp [hqk]) ?_
      walk_at "s"
      refine ⟨_, _, _, xs2, wts, wms, rfl, S10, W10, by lia, hm2, e10, sa10, fun j q' hj hq' => ?_⟩
      by_cases hji : j < i
      ·exact hin j q' hji hq'
      ·obtain rfl : j = i := by lia
       rw [hq] at hq'
       cases hq'
       exact hqk
     ·refine ifT (by simp [hqk]) ?_
      walk_at "s"
      refine ⟨rfl, ty, d, q, xs2, rfl, rfl, W10.dd, W10.ks, sq, hqk, szlt (by lia), ?_⟩
      have W11 := W10.put sq hqk (hbs q (List.mem_of_getElem? hq))
      have hll : upd H10 d (DSt P w d (xs2 ++ [(q, ty)])) l = some (.lst (wts.map V.ref)) := by rw [upd_ne (Ne.symm W10.dl)]; exact W10.ll
      walk_at "s"
      refine ⟨.inl ⟨rfl, _, SqL.of hll⟩, ?_⟩
      walk_at "s"
      have hwl := W10.wl
      refine i_app hll (szlt (by simp; lia)) ?_
      rw [show wts.map V.ref ++ [V.ref ty] = (wts ++ [ty]).map V.ref by simp]
      refine ⟨_, _, _, _, _, _, rfl, fun b o e => ?_, W11, by simp; lia, by simp; lia, ?_, ?_, fun j q' hj hq' => ?_⟩
      ·rw [upd_ne (ne_of_none e hlH), upd_ne (ne_of_none e hdH)]
       exact S10 b o e
      ·rw [upd_ne nl9, upd_ne nd9]
       exact e10
      ·exact sa10.imp fun q b z => (z.upd W10.dd fun _ e => by cases e).upd hll fun _ e => by cases e
      ·rw [List.map_append]
       by_cases hji : j < i
       ·exact List.mem_append_left _ (hin j q' hji hq')
       ·obtain rfl : j = i := by lia
        rw [hq] at hq'
        cases hq'
        exact List.mem_append_right _ (by simp)
    ·rintro σ H10 ⟨u8, u9, u10, xs2, wts, wms, rfl, S10, W10, hx2, hm2, e10, sa10, hin⟩
     have W12 := W10.shut fun c c1 c2 c3 => by
      have hmem : goTo ps p c ∈ bs := by rw [← hB9]; exact bes_mem (s := (p.1, p.2)) c1 c2 c3
      obtain ⟨j, hj⟩ := List.mem_iff_getElem?.mp hmem
      have hjl := (List.getElem?_eq_some_iff.mp hj).1
      exact hin j _ (by rw [List.length_map, sa10.len]; exact hjl) hj
     walk_at "s"
     refine ⟨d, xs2, rfl, W12.dd, ?_⟩
     walk_at "s"
     walk_at "z19"
     ·walk_at "s"
      exact ⟨by simp, kx (W12.many (by lia)) _ S10⟩
     ·walk_at "s"
      exact ⟨_, _, _, xs2, wts, wms, rfl, S10, W12, by lia, hm2⟩
theorem ok_law_a_all (T : Txt mg) (D : Def K mg "_law_a_all" s_law_a_all) : Callee P w K mg base "_law_a_all" 1 (spAllDrT K) := by
 refine D.ok sc_law_a_all bd_law_a_all (fun vs H Q E h => ?len) (fun f cdv A outer s H vs Q E hr h => ?body)
 case len => obtain ⟨a, b, ps, xs, c, rfl, _⟩ := h; rfl
 case body =>
  obtain ⟨a, b, ps, xs, c, rfl, hA, hB, h12, hp0, k⟩ := h
  refine ⟨_, (pss_cons (ps_set (i := 3) sc_law_a_all.nd rfl (Or.inl rfl) (pe_lst pa_nil))
 (pss_cons (ps_set (i := 4) sc_law_a_all.nd rfl (Or.inl rfl) (pv 2))
 (pss_cons (ps_for PassesOwn.never rfl (pi_zipTK K (by rfl) T.z_zip (pa_cons (pv 0) (pa_cons (pv 1) pa_nil))) (pg_tupK K 2 (pgs_cons (pg_name (i := 5) sc_law_a_all.nd rfl (Or.inl rfl)) (pgs_cons (pg_name (i := 6) sc_law_a_all.nd rfl (Or.inl rfl)) pgs_nil)))
 (pss_join (ps_if (pt_cmpR op_lt (pv 6) (pe_op op_sub (pv 4) (pv 5)) (nomark _))
 (pss_one (ps_set (i := 6) sc_law_a_all.nd rfl (Or.inl rfl) (pe_op op_sub (pv 4) (pv 5))))
 pss_nil)
 (pss_join (ps_if (pt_cmpR op_gt (pv 6) (pe_op op_addP (pv 4) (pv 5)) (nomark _))
 (pss_one (ps_set (i := 6) sc_law_a_all.nd rfl (Or.inl rfl) (pe_op op_addP (pv 4) (pv 5))))
 pss_nil)
 (pss_cons (ps_expr (pe_bmK K PySem.F.plainAttrs_list PySem.F.slot_list_append PySem.F.type_list_append mt_append (pv 3) (pa_cons (pv 6) pa_nil)))
 (pss_one (ps_set (i := 4) sc_law_a_all.nd rfl (Or.inl rfl) (pv 6)))))))
 (pss_one (ps_ret (pv 3)))))), ?_⟩
  walk_at "un"
  try clear hu
  walk_at "s"
  intro l hl
  walk_at "s"
  have s1 : Same H (upd H l (.lst [])) := same_upd hl
  walk_at "z3"
  ·exact ⟨c, _, _, [], rfl, ⟨hl, s1, upd_same⟩, by simp, rfl, rfl⟩
  ·rintro i σ H2 ⟨ah, u, v, dn, rfl, N, hl12, hi, hk⟩
   exact ⟨N.sm.seq hA, SqT.of (N.sm _ _ hB)⟩
  ·rintro i x y t σ H2 hx hy ⟨ah, u, v, dn, rfl, N, hl12, hi, hk⟩ ht
   rw [List.getElem?_map] at hx hy
   obtain ⟨p, hp, rfl⟩ := Option.map_eq_some_iff.mp hx
   obtain ⟨q, hq, rfl⟩ := Option.map_eq_some_iff.mp hy
   have hpl : i < ps.length := (List.getElem?_eq_some_iff.mp hp).1
   have p0 := hp0 p (List.mem_of_getElem? hp)
   walk_at "s"
   walk_at "z21"
   rw [dropc hp, dropc hq] at hk
   have N2 := N.more (same_upd (o := .tup [.int p, .int q]) ht)
   generalize upd H2 t (.tup [.int p, .int q]) = H3 at *
   refine ⟨fun σ H4 => ∃ y1 : Int, σ = [some (.ref a), some (.ref b), some (.int c), some (.ref l), some (.int ah), some (.int p), some (.int y1)] ∧ y1 = (if q < ah - p then ah - p else q) ∧ H4 = H3, ?_, ?_⟩
   ·walk_at "s"
    walk_at "z19"
    ·walk_at "s"
     exact ⟨(if_pos g).symm, rfl⟩
    ·exact ⟨q, rfl, (if_neg g).symm, rfl⟩
   ·rintro σ H4 ⟨y1, rfl, hy1, rfl⟩
    walk_at "s"
    refine ⟨fun σ H5 => σ = [some (.ref a), some (.ref b), some (.int c), some (.ref l), some (.int ah), some (.int p), some (.int (drag p ah q))] ∧ H5 = H4, ?_, ?_⟩
    ·walk_at "s"
     walk_at "z19"
     ·walk_at "s"
      refine ⟨?_, rfl⟩
      have e : drag p ah q = ah + p := by unfold drag; split at hy1 <;> (repeat' split) <;> lia
      rw [e]; rfl
     ·refine ⟨?_, rfl⟩
      have e : drag p ah q = y1 := by unfold drag; split at hy1 <;> (repeat' split) <;> lia
      rw [e]
    ·rintro σ H5 ⟨rfl, rfl⟩
     walk_at "s"
     refine ⟨.inl ⟨rfl, _, SqL.of N2.at_⟩, ?_⟩
     walk_at "s"
     refine i_app N2.at_ (szlt (by simp [iL]; lia)) ?_
     walk_at "s"
     refine ⟨_, _, _, dn ++ [drag p ah q], rfl, N2.app, by simp; lia, by simp; lia, ?_⟩
     rw [hk, dragAll]; simp
  ·rintro σ H2 ⟨ah, u, v, dn, rfl, N, hl12, hi, hk⟩
   walk_at "s"
   have e : dragAll ps xs c = dn := by
    rw [hk]
    simp only [iL, List.length_map]
    by_cases h : ps.length ≤ xs.length
    ·rw [Nat.min_eq_left h, List.drop_of_length_le (Nat.le_refl _), dragAll_nil, List.append_nil]
    ·rw [Nat.min_eq_right (by lia), List.drop_of_length_le (l := xs) (Nat.le_refl _), dragAll_nil2, List.append_nil]
   rw [e] at k
   exact k l H2 N
def spByDepths : Sp := fun vs H Q _ => ∃ (t a b : Addr) (ps xs : List Int) (hd lo hi : Int), vs = [.ref t, .int lo, .int hi] ∧ H t = some (.tup [.ref a, .int hd, .ref b]) ∧ H a = some (.lst (iL ps)) ∧ H b = some (.lst (iL xs)) ∧ ps.length ≤ 12 ∧ ∀ l ts H', Same H H' → H' l = some (.lst (ts.map V.ref)) → PrAll H' ts (rngs lo hi ps xs) → Q (.ref l) H'
theorem ok_law_by_depths (T : Txt mg) (D : Def K mg "_law_by_depths" s_law_by_depths) : Callee P w K mg base "_law_by_depths" 1 spByDepths := by
 refine D.ok sc_law_by_depths bd_law_by_depths (fun vs H Q E h => ?len) (fun f cdv A outer s H vs Q E hr h => ?body)
 case len => obtain ⟨t, a, b, ps, xs, hd, lo, hi, rfl, _⟩ := h; rfl
 case body =>
  obtain ⟨t, a, b, ps, xs, hd, lo, hi, rfl, hT, hA, hB, h12, k⟩ := h
  refine ⟨_, (pss_cons (ps_asg (pv 0) (pg_tupK K 3 (pgs_cons (pg_name (i := 3) sc_law_by_depths.nd rfl (Or.inl rfl)) (pgs_cons (pg_name (i := 4) sc_law_by_depths.nd rfl (Or.inl rfl)) (pgs_cons (pg_name (i := 5) sc_law_by_depths.nd rfl (Or.inl rfl)) pgs_nil)))))
 (pss_cons (ps_set (i := 6) sc_law_by_depths.nd rfl (Or.inl rfl) (pe_lst pa_nil))
 (pss_cons (ps_set (i := 7) sc_law_by_depths.nd rfl (Or.inl rfl) pe_int)
 (pss_cons (ps_for PassesOwn.never rfl (pi_zip2K K (by rfl) T.z_zip (pa_cons (pv 3) (pa_cons (pv 5) pa_nil))) (pg_tupK K 2 (pgs_cons (pg_name (i := 8) sc_law_by_depths.nd rfl (Or.inl rfl)) (pgs_cons (pg_name (i := 9) sc_law_by_depths.nd rfl (Or.inl rfl)) pgs_nil)))
 (pss_cons (ps_set (i := 7) sc_law_by_depths.nd rfl (Or.inl rfl) (pe_op op_addP (pv 7) (pv 8)))
 (pss_one (ps_expr (pe_bmK K PySem.F.plainAttrs_list PySem.F.slot_list_append PySem.F.type_list_append mt_append (pv 6) (pa_cons (pe_tup (pa_cons (pe_callB (call_minK K) (by rfl) T.z_min bt_min (pa_cons (pv 9) (pa_cons (pe_op op_addP (pv 1) (pv 7)) pa_nil))) (pa_cons (pe_callB (call_maxK K) (by rfl) T.z_max bt_max (pa_cons (pv 9) (pa_cons (pe_op op_sub (pv 2) (pv 7)) pa_nil))) pa_nil))) pa_nil))))))
 (pss_one (ps_ret (pv 6))))))), ?_⟩
  walk_at "un"
  try clear hu
  walk_at "s"
  refine ⟨_, _, rfl, SqT.of hT, rfl, _, _, rfl, _, _, rfl, _, _, rfl, rfl, ?_⟩
  walk_at "s"
  intro l hl
  walk_at "s"
  have s1 : Same H (upd H l (.lst [])) := same_upd hl
  refine ⟨_, _, rfl, ⟨_, SqL.of (s1 _ _ hA)⟩, ⟨_, SqL.of (s1 _ _ hB)⟩, lp_zip (xs := iL ps) (ys := iL xs) (fun i σ H2 => ∃ (dp : Int) (u v : Option V) (ts : List Addr) (dn : List (Int × Int)), σ = [some (.ref t), some (.int lo), some (.int hi), some (.ref a), some (.int hd), some (.ref b), some (.ref l), some (.int dp), u, v] ∧ (∀ q o, H q = some o → H2 q = some o) ∧ H2 l = some (.lst (ts.map V.ref)) ∧ PrAll H2 ts dn ∧ dn.length = i ∧ rngs lo hi ps xs = dn ++ List.zipWith (fun d x => (min x (lo + d), max x (hi - d))) (depths dp (ps.drop i)) (xs.drop i)) ?_ ?_ ?_ ?_⟩
  ·exact ⟨0, _, _, [], [], rfl, s1, upd_same, .nil, rfl, rfl⟩
  ·rintro i σ H2 ⟨dp, u, v, ts, dn, rfl, S2, e2, pa, hi2, hk⟩
   exact ⟨SqL.of (S2 _ _ hA), SqL.of (S2 _ _ hB)⟩
  ·rintro i x y tt σ H2 hx hy ⟨dp, u, v, ts, dn, rfl, S2, e2, pa, hi2, hk⟩ htt
   unfold iL at hx hy
   rw [List.getElem?_map] at hx hy
   obtain ⟨p, hp, rfl⟩ := Option.map_eq_some_iff.mp hx
   obtain ⟨q, hq, rfl⟩ := Option.map_eq_some_iff.mp hy
   have hpl : i < ps.length := (List.getElem?_eq_some_iff.mp hp).1
   rw [dropc hp, dropc hq, depths, List.zipWith_cons_cons] at hk
   walk_at "s"
   walk_at "z21"
   have s3 : Same H2 _ := same_upd (o := .tup [.int p, .int q]) htt
   generalize upd H2 tt (.tup [.int p, .int q]) = H3 at *
   walk_at "s"
   refine ⟨.inl ⟨rfl, _, SqL.of (s3 _ _ e2)⟩, ?_⟩
   walk_at "s"
   refine i_min2 ?_
   rintro m1 rfl
   walk_at "s"
   refine i_max2 ?_
   rintro m2 rfl
   walk_at "s"
   intro t4 h4
   have s4 : Same H3 _ := same_upd (o := .tup [.int (min q (lo + (dp + p))), .int (max q (hi - (dp + p)))]) h4
   have e4 : upd H3 t4 (.tup [.int (min q (lo + (dp + p))), .int (max q (hi - (dp + p)))]) t4 = some (.tup [.int (min q (lo + (dp + p))), .int (max q (hi - (dp + p)))]) := upd_same
   generalize upd H3 t4 (.tup [.int (min q (lo + (dp + p))), .int (max q (hi - (dp + p)))]) = H4 at *
   have hll := s4 _ _ (s3 _ _ e2)
   have htl := pa.len
   refine i_app hll (szlt (by simp; lia)) ?_
   have pa4 := (pa.more (s3.trans s4)).snoc (p := (min q (lo + (dp + p)), max q (hi - (dp + p)))) e4
   refine ⟨_, _, _, ts ++ [t4], _, rfl, fun b o e => ?_, by rw [upd_same]; simp, pa4.up hll, by simp; lia, by rw [hk]; simp⟩
   rw [upd_ne (ne_of_none e hl)]
   exact s4 _ _ (s3 _ _ (S2 b o e))
  ·rintro σ H2 ⟨dp, u, v, ts, dn, rfl, S2, e2, pa, hi2, hk⟩
   walk_at "s"
   have e : rngs lo hi ps xs = dn := by
    rw [hk]
    simp only [iL, List.length_map]
    by_cases h : ps.length ≤ xs.length
    ·rw [Nat.min_eq_left h, List.drop_of_length_le (Nat.le_refl _)]; simp [depths]
    ·rw [Nat.min_eq_right (by lia), List.drop_of_length_le (l := xs) (Nat.le_refl _)]; simp
   rw [← e] at pa
   exact k l ts H2 S2 e2 pa
def TOut (ps ws : List Int) (hd lo hi door : Int) (H : Hp) (v : V) (bs : List Bool) : Prop :=
 (lo ≤ hd ∧ hd ≤ hi ∧ door = 0 ∧ bs = [] ∧ ∃ l ts, v = .ref l ∧ H l = some (.lst (ts.map V.ref)) ∧ PrAll H ts (rngs lo hi ps ws)) ∨
 (lo ≤ hd ∧ hd ≤ hi ∧ door ≠ 0 ∧ bs = [] ∧ ∃ l ts ms, v = .ref l ∧ H l = some (.lst (ts.map V.ref)) ∧ StAll H ts ms ∧ AllOf ps lo hi (hd, ws) ms) ∨
 (lo ≤ hd ∧ hd ≤ hi ∧ door ≠ 0 ∧ v = .non ∧ bs = dueX "TooMany" ∧ Many ps lo hi (hd, ws)) ∨ (¬ (lo ≤ hd ∧ hd ≤ hi) ∧ v = .non ∧ bs = dueX "NoStand")
theorem TOut.more {ps ws : List Int} {hd lo hi door : Int} {H H' : Hp} {v : V} {bs : List Bool} (h : TOut ps ws hd lo hi door H v bs) (s : Same H H') : TOut ps ws hd lo hi door H' v bs := by
 rcases h with ⟨a, b, c, d, l, ts, e1, e2, e3⟩ | ⟨a, b, c, d, l, ts, ms, e1, e2, e3, e4⟩ | h | h
 ·exact .inl ⟨a, b, c, d, l, ts, e1, s _ _ e2, e3.more s⟩
 ·exact .inr (.inl ⟨a, b, c, d, l, ts, ms, e1, s _ _ e2, e3.more s, e4⟩)
 ·exact .inr (.inr (.inl h))
 ·exact .inr (.inr (.inr h))
theorem kin_S (Z : Cls K mg) : KinF Z Z.c_NoStand false true false false false false false false false false false false := ⟨Z.isi_NoStand, Z.k_NoStand_NoTrain, Z.k_NoStand_NoStand, Z.k_NoStand_NoPaper, Z.k_NoStand_NoBox, Z.k_NoStand_NoSwitch, Z.k_NoStand_NoPlace, Z.k_NoStand_NoTable, Z.k_NoStand_NoText, Z.k_NoStand_NoRow, Z.k_NoStand_NoPiece, Z.k_NoStand_NothingLeft, Z.k_NoStand_TooMany, Z.k_NoStand_ValueError⟩
theorem kin_M (Z : Cls K mg) : KinF Z Z.c_TooMany false false false false false false false false false false false true := ⟨Z.isi_TooMany, Z.k_TooMany_NoTrain, Z.k_TooMany_NoStand, Z.k_TooMany_NoPaper, Z.k_TooMany_NoBox, Z.k_TooMany_NoSwitch, Z.k_TooMany_NoPlace, Z.k_TooMany_NoTable, Z.k_TooMany_NoText, Z.k_TooMany_NoRow, Z.k_TooMany_NoPiece, Z.k_TooMany_NothingLeft, Z.k_TooMany_TooMany, Z.k_TooMany_ValueError⟩
theorem due_S : dueX "NoStand" = [false, true, false, false, false, false, false, false, false, false, false, false, true] := by decide +kernel
theorem due_M : dueX "TooMany" = [false, false, false, false, false, false, false, false, false, false, false, true, true] := by decide +kernel
def spTold38 : Sp := fun vs H Q _ => ∃ (t a b : Addr) (ps ws : List Int) (hd lo hi door : Int), vs = [.int door, .ref t, .int lo, .int hi] ∧ H t = some (.tup [.ref a, .int hd, .ref b]) ∧ H a = some (.lst (iL ps)) ∧ H b = some (.lst (iL ws)) ∧ isTr ps ∧ stand ps hd ws ∧
 ∀ t' v lk bs H', Same H H' → H' t' = some (.tup [v, .ref lk]) → H' lk = some (.lst (bL bs)) → TOut ps ws hd lo hi door H' v bs → Q (.ref t') H'
theorem ok_law_told (T : Txt mg) (Z : Cls K mg) (D : Def K mg "_law_told" s_law_told) (C_ranges_of : CalleeE P w K mg base "ranges_of" 6 (spRangesX K Z.c_NoTrain Z.c_NoStand)) (C_stands_within : CalleeE P w K mg base "stands_within" 6 (spWithin Z.c_NoTrain Z.c_NoStand Z.c_TooMany)) (C_law_a_kin : CalleeN P w K mg base "_law_a_kin" 1 (spKinG Z)) : Callee P w K mg base "_law_told" 7 spTold38 := by
 refine D.ok sc_law_told bd_law_told (fun vs H Q E h => ?len) (fun f cdv A outer s H vs Q E hr h => ?body)
 case len => obtain ⟨t, a, b, ps, ws, hd, lo, hi, door, rfl, _⟩ := h; rfl
 case body =>
  obtain ⟨t, a, b, ps, ws, hd, lo, hi, door, rfl, hT, hA, hB, ht, hs, k⟩ := h
  have hu := hr.units
  refine ⟨_, (pss_cons (ps_asg (pv 1) (pg_tupK K 3 (pgs_cons (pg_name (i := 4) sc_law_told.nd rfl (Or.inl rfl)) (pgs_cons (pg_name (i := 5) sc_law_told.nd rfl (Or.inl rfl)) (pgs_cons (pg_name (i := 6) sc_law_told.nd rfl (Or.inl rfl)) pgs_nil)))))
 (pss_cons (ps_set (i := 7) sc_law_told.nd rfl (Or.inl rfl) pe_non)
 (pss_cons (ps_set (i := 8) sc_law_told.nd rfl (Or.inl rfl) (pe_lst pa_nil))
 (pss_join (ps_try (TC := Z.c_TrainError) (j := 9) rfl rfl rfl Z.m_TrainError (by rfl) sc_law_told.nd rfl rfl rfl (fun pins ξ Ex hp => (pss_one (ps_if (pt_cmpR (op_eqK K hu) (pv 0) pe_int (nomark _))
 (pss_one (ps_set (i := 7) sc_law_told.nd rfl (Or.inl rfl) (pe_callS C_ranges_of (hr.mono (by decide)) (by rfl) hp (pa_cons (pv 4) (pa_cons (pv 5) (pa_cons (pv 6) (pa_cons (pv 2) (pa_cons (pv 3) pa_nil))))))))
 (pss_one (ps_set (i := 7) sc_law_told.nd rfl (Or.inl rfl) (pe_callS C_stands_within (hr.mono (by decide)) (by rfl) hp (pa_cons (pv 4) (pa_cons (pv 5) (pa_cons (pv 6) (pa_cons (pv 2) (pa_cons (pv 3) pa_nil))))))))))) (fun pins e => (pss_one (ps_set (i := 8) sc_law_told.nd rfl (Or.inl rfl) (pe_callC C_law_a_kin ((hr.mono (by decide)).noted _) (by rfl) (pa_cons (pv 9) pa_nil))))))
 (pss_one (ps_ret (pe_tup (pa_cons (pv 7) (pa_cons (pv 8) pa_nil))))))))), ?_⟩
  walk_at "un"
  try clear hu
  walk_at "s"
  refine ⟨_, _, rfl, SqT.of hT, rfl, _, _, rfl, _, _, rfl, _, _, rfl, rfl, ?_⟩
  walk_at "s"
  intro l1 h1
  have s1 : Same H _ := same_upd (o := .lst []) h1
  have e1 : upd H l1 (.lst []) l1 = some (.lst []) := upd_same
  generalize upd H l1 (.lst []) = H1 at *
  walk_at "s"
  refine ⟨fun σ H8 => ∃ (v : V) (lk : Addr) (bs : List Bool) (u : Option V), σ = [some (.int door), some (.ref t), some (.int lo), some (.int hi), some (.ref a), some (.int hd), some (.ref b), some v, some (.ref lk), u] ∧ Same H H8 ∧ H8 lk = some (.lst (bL bs)) ∧ TOut ps ws hd lo hi door H8 v bs, ?_, ?_⟩
  ·walk_at "s"
   walk_at "z19"
   ·walk_at "s"
    refine ⟨a, b, ps, ws, hd, lo, hi, rfl, SqL.of (s1 _ _ hA), SqL.of (s1 _ _ hB), fun _ _ g1 g2 l8 ts H8 s8 e8 pa => ?_, ⟨fun hn H8 s8 => absurd ht hn, fun _ hn H8 s8 => ?_⟩⟩
    ·walk_at "s"
     exact ⟨_, l1, [], _, rfl, s1.trans s8, s8 _ _ e1, .inl ⟨g1, g2, g, rfl, l8, ts, rfl, e8, pa⟩⟩
    ·refine ⟨Z.e_NoStand, fun e he => ?_⟩
     walk_at "s"
     refine ⟨e, _, _, _, _, _, _, _, _, _, _, _, _, _, rfl, upd_same, kin_S Z, fun lk H9 s9 hk => ?_⟩
     exact ⟨_, lk, _, _, rfl, (s1.trans s8).trans ((same_upd he).trans s9), hk, .inr (.inr (.inr ⟨fun z => hn ⟨hs, z⟩, rfl, due_S.symm⟩))⟩
   ·walk_at "s"
    refine ⟨a, b, ps, ws, hd, lo, hi, rfl, s1 _ _ hA, s1 _ _ hB, fun _ _ g1 g2 => ⟨fun l8 ts ms H8 s8 e8 sa al => ?_, fun mn H8 s8 => ?_⟩, ⟨fun hn H8 s8 => absurd ht hn, fun _ hn H8 s8 => ?_⟩⟩
    ·walk_at "s"
     exact ⟨_, l1, [], _, rfl, s1.trans s8, s8 _ _ e1, .inr (.inl ⟨g1, g2, g, rfl, l8, ts, ms, rfl, e8, sa, al⟩)⟩
    ·refine ⟨Z.e_TooMany, fun e he => ?_⟩
     walk_at "s"
     refine ⟨e, _, _, _, _, _, _, _, _, _, _, _, _, _, rfl, upd_same, kin_M Z, fun lk H9 s9 hk => ?_⟩
     exact ⟨_, lk, _, _, rfl, (s1.trans s8).trans ((same_upd he).trans s9), hk, .inr (.inr (.inl ⟨g1, g2, g, rfl, due_M.symm, mn⟩))⟩
    ·refine ⟨Z.e_NoStand, fun e he => ?_⟩
     walk_at "s"
     refine ⟨e, _, _, _, _, _, _, _, _, _, _, _, _, _, rfl, upd_same, kin_S Z, fun lk H9 s9 hk => ?_⟩
     exact ⟨_, lk, _, _, rfl, (s1.trans s8).trans ((same_upd he).trans s9), hk, .inr (.inr (.inr ⟨fun z => hn ⟨hs, z⟩, rfl, due_S.symm⟩))⟩
  rintro σ H8 ⟨v, lk, bs, u, rfl, s8, hk, hg⟩
  walk_at "s"
  intro t9 h9
  exact k t9 v lk bs _ (s8.trans (same_upd h9)) upd_same (same_upd h9 _ _ hk) (hg.more (same_upd h9))
def DOut (ps ws : List Int) (hd lo hi : Int) (H : Hp) (v : V) : Prop := (v = .non ∧ Many ps lo hi (hd, ws)) ∨ ∃ l ts ms, v = .ref l ∧ H l = some (.lst (ts.map V.ref)) ∧ StAll H ts ms ∧ AllOf ps lo hi (hd, ws) ms
theorem DOut.more {ps ws : List Int} {hd lo hi : Int} {H H' : Hp} {v : V} (h : DOut ps ws hd lo hi H v) (s : Same H H') : DOut ps ws hd lo hi H' v := by
 rcases h with h | ⟨l, ts, ms, e1, e2, e3, e4⟩
 ·exact .inl h
 ·exact .inr ⟨l, ts, ms, e1, s _ _ e2, e3.more s, e4⟩
def spLawStands : Sp := fun vs H Q _ => ∃ (t a b : Addr) (ps ws : List Int) (hd lo hi : Int), vs = [.ref t, .int lo, .int hi] ∧ H t = some (.tup [.ref a, .int hd, .ref b]) ∧ H a = some (.lst (iL ps)) ∧ H b = some (.lst (iL ws)) ∧ isTr ps ∧ stand ps hd ws ∧ lo ≤ hd ∧ hd ≤ hi ∧ -1000 ≤ lo ∧ hi ≤ 1000 ∧ hi - lo ≤ 600 ∧
 ∀ v H', Same H H' → DOut ps ws hd lo hi H' v → Q v H'
theorem ok_law_a_stands (T : Txt mg) (D : Def K mg "_law_a_stands" s_law_a_stands) (C_law_a_all : Callee P w K mg base "_law_a_all" 1 (spAllDrT K)) : Callee P w K mg base "_law_a_stands" 2 spLawStands := by
 refine D.ok sc_law_a_stands bd_law_a_stands (fun vs H Q E h => ?len) (fun f cdv A outer s H vs Q E hr h => ?body)
 case len => obtain ⟨t, a, b, ps, ws, hd, lo, hi, rfl, _⟩ := h; rfl
 case body =>
  obtain ⟨t, a, b, ps, ws, hd, lo, hi, rfl, hT, hA, hB, ht, hs, g1, g2, q1, q2, q3, k⟩ := h
  have hu := hr.units
  refine ⟨_, (pss_cons (ps_asg (pv 0) (pg_tupK K 3 (pgs_cons (pg_name (i := 3) sc_law_a_stands.nd rfl (Or.inl rfl)) (pgs_cons (pg_name (i := 4) sc_law_a_stands.nd rfl (Or.inl rfl)) (pgs_cons (pg_name (i := 5) sc_law_a_stands.nd rfl (Or.inl rfl)) pgs_nil)))))
 (pss_cons (ps_set (i := 6) sc_law_a_stands.nd rfl (Or.inl rfl) (pe_lst (pa_cons (pe_tup (pa_cons (pv 4) (pa_cons (pe_callTy (call_tupleK K) (by rfl) T.z_tuple bt_tuple (pa_cons (pv 5) pa_nil)) pa_nil))) pa_nil)))
 (pss_cons (ps_set (i := 7) sc_law_a_stands.nd rfl (Or.inl rfl) (pe_dispSK P w hu (pe_ix (ix_K K) (pv 6) pe_int (by exact fun _ _ => rfl)) pe_bl))
 (pss_cons (ps_set (i := 8) sc_law_a_stands.nd rfl (Or.inl rfl) pe_int)
 (pss_cons (ps_while PassesOwn.never (PW.pt (pw_and (pt_cmpR op_lt (pv 8) (pe_callB (call_lenK K) (by rfl) T.z_len bt_len (pa_cons (pv 6) pa_nil)) (nomark _)) (pw_and1 (pt_cmpR op_le (pe_callB (call_lenK K) (by rfl) T.z_len bt_len (pa_cons (pv 6) pa_nil)) pe_int (nomark _)))))
 (pss_cons (ps_for PassesOwn.never rfl (pi_range2 (by rfl) T.z_range (pa_cons (pv 1) (pa_cons (pe_op op_addP (pv 2) pe_int) pa_nil))) (pg_name (i := 9) sc_law_a_stands.nd rfl (Or.inl rfl))
 (pss_cons (ps_set (i := 10) sc_law_a_stands.nd rfl (Or.inl rfl) (pe_tup (pa_cons (pv 9) (pa_cons (pe_callTy (call_tupleK K) (by rfl) T.z_tuple bt_tuple (pa_cons (pe_callN C_law_a_all (hr.mono (by decide)) (by rfl) (pa_cons (pv 3) (pa_cons (pe_ix (ix_K K) (pe_ix (ix_K K) (pv 6) (pv 8) (by exact fun _ _ => rfl)) pe_int (by exact fun _ _ => rfl)) (pa_cons (pv 9) pa_nil)))) pa_nil)) pa_nil))))
 (pss_one (ps_if (pt_cmp (pc_notinSK P w hu (pv 10) (pv 7)))
 (pss_cons (ps_dputSK P w hu (pv 7) (pv 10) pe_bl (by rfl))
 (pss_one (ps_expr (pe_bmK K PySem.F.plainAttrs_list PySem.F.slot_list_append PySem.F.type_list_append mt_append (pv 6) (pa_cons (pv 10) pa_nil)))))
 pss_nil))))
 (pss_one (ps_set (i := 8) sc_law_a_stands.nd rfl (Or.inl rfl) (pe_op op_addP (pv 8) pe_int)))))
 (pss_one (ps_ret (pe_ifExp (pt_cmpR op_gt (pe_callB (call_lenK K) (by rfl) T.z_len bt_len (pa_cons (pv 6) pa_nil)) pe_int (nomark _)) pe_non (pe_callB (call_sortedSLK K hu) (by rfl) T.z_sorted bt_sorted (pa_cons (pv 6) pa_nil)))))))))), ?_⟩
  walk_at "un"
  try clear hu
  walk_at "s"
  refine ⟨_, _, rfl, SqT.of hT, rfl, _, _, rfl, _, _, rfl, _, _, rfl, rfl, ?_⟩
  walk_at "s"
  refine i_tupL (SqL.of hB) (fun b2 h2 => ?_)
  walk_at "s"
  intro t3 h3
  have s3 : Same H _ := (same_upd (o := .tup (iL ws)) h2).trans (same_upd (o := .tup [.int hd, .ref b2]) h3)
  have et : upd (upd H b2 (.tup (iL ws))) t3 (.tup [.int hd, .ref b2]) t3 = some (.tup [.int hd, .ref b2]) := upd_same
  have eb : upd (upd H b2 (.tup (iL ws))) t3 (.tup [.int hd, .ref b2]) b2 = some (.tup (iL ws)) := same_upd h3 _ _ upd_same
  generalize upd (upd H b2 (.tup (iL ws))) t3 (.tup [.int hd, .ref b2]) = H3 at *
  clear h2 h3
  walk_at "s"
  intro l hl
  have s4 : Same H3 _ := same_upd (o := .lst [.ref t3]) hl
  have e4 : upd H3 l (.lst [.ref t3]) l = some (.lst [.ref t3]) := upd_same
  have hlH : H l = none := s3.free hl
  generalize upd H3 l (.lst [.ref t3]) = H4 at *
  replace et := s4 _ _ et
  replace eb := s4 _ _ eb
  have S4 := s3.trans s4
  clear s3 s4 hl
  walk_at "s"
  intro d hdn
  have s5 : Same H4 _ := same_upd (o := DSt P w d []) hdn
  walk_at "s"
  refine i_ixN (SqL.of (s5 _ _ e4)) (by decide) rfl ?_
  walk_at "s"
  refine ⟨rfl, t3, (hd, ws), rfl, upd_same, ⟨b2, s5 _ _ et, s5 _ _ eb⟩, ?_⟩
  have s6 : Same H4 (upd (upd H4 d (DSt P w d [])) d (DSt P w d [((hd, ws), t3)])) := fun b o e => by
   have nb : b ≠ d := fun z => by rw [z, hdn] at e; cases e
   rw [upd_ne nb, upd_ne nb]
   exact e
  have e6 : upd (upd H4 d (DSt P w d [])) d (DSt P w d [((hd, ws), t3)]) d = some (DSt P w d [((hd, ws), t3)]) := upd_same
  have hdH : H d = none := S4.free hdn
  generalize upd (upd H4 d (DSt P w d [])) d (DSt P w d [((hd, ws), t3)]) = H6 at *
  have S6 := S4.trans s6
  have R0 : Rkg P w H6 d l ps lo hi (hd, ws) [((hd, ws), t3)] := by
   have z : StAt H6 (hd, ws) t3 := ⟨b2, s6 _ _ et, s6 _ _ eb⟩
   exact ⟨e6, s6 _ _ e4, by simpa using z, by simp, by simpa using Reach.base, by simp⟩
  clear et eb s5 s6 e4 e6 hdn S4
  walk_at "s"
  refine ⟨fun m σ H7 => ∃ (u9 u10 : Option V) (xs : List ((Int × List Int) × Addr)) (n : Nat), σ = [some (.ref t), some (.int lo), some (.int hi), some (.ref a), some (.int hd), some (.ref b), some (.ref l), some (.ref d), some (.int n), u9, u10] ∧ (∀ b o, H b = some o → H7 b = some o) ∧ Rkg P w H7 d l ps lo hi (hd, ws) xs ∧ Cld ps lo hi xs n ∧ n ≤ xs.length ∧ xs.length ≤ 1200 ∧ m = 2000 - n, ?_, ?_⟩
  ·exact ⟨_, _, _, _, 0, rfl, S6, R0, fun j x h => absurd h (by lia), by simp, by simp, rfl⟩
  ·rintro m σ H7 ⟨u9, u10, xs, n, rfl, S7, R7, hcl, hn, hx, hm⟩
   have hlen : ((xs.map (·.2)).map V.ref).length = xs.length := by simp
   walk_at "s"
   refine i_len (SqL.of R7.ll) ?_
   rw [hlen]
   walk_at "s"
   refine i_if (fun gn => ?_) (fun gn => ?_)
   ·walk_at "s"
    refine i_len (SqL.of R7.ll) ?_
    rw [hlen]
    walk_at "s"
    refine i_if (fun g5 => ?_) (fun g5 => ?_)
    ·obtain ⟨cur, hcur⟩ : ∃ x, xs[n]? = some x := ⟨_, List.getElem?_eq_getElem (by lia)⟩
     refine ⟨fun σ H8 => ∃ (u9 u10 : Option V) (xs : List ((Int × List Int) × Addr)), σ = [some (.ref t), some (.int lo), some (.int hi), some (.ref a), some (.int hd), some (.ref b), some (.ref l), some (.ref d), some (.int ((n : Int) + 1)), u9, u10] ∧ (∀ b o, H b = some o → H8 b = some o) ∧ Rkg P w H8 d l ps lo hi (hd, ws) xs ∧ Cld ps lo hi xs (n + 1) ∧ n + 1 ≤ xs.length ∧ xs.length ≤ 1200, fun σ' H' z => ?_, ?_⟩
     ·obtain ⟨u9, u10, xs2, z1, z2, z3, z4, z5, z6⟩ := z
      exact ⟨_, by lia, u9, u10, xs2, n + 1, by rw [z1]; simp, z2, z3, z4, z5, z6, rfl⟩
     walk_at "s"
     refine ⟨_, _, rfl, ⟨by lia, by lia, by lia, by lia⟩, lp_range (fun i σ H8 => ∃ (u9 u10 : Option V) (xs2 : List ((Int × List Int) × Addr)), σ = [some (.ref t), some (.int lo), some (.int hi), some (.ref a), some (.int hd), some (.ref b), some (.ref l), some (.ref d), some (.int n), u9, u10] ∧ (∀ b o, H b = some o → H8 b = some o) ∧ Rkg P w H8 d l ps lo hi (hd, ws) xs2 ∧ xs <+: xs2 ∧ xs2.length ≤ xs.length + i ∧ ∀ c, lo ≤ c → c < lo + i → goTo ps cur.1 c ∈ xs2.map (·.1)) ?_ ?_ ?_⟩
     ·exact ⟨_, _, xs, rfl, S7, R7, List.prefix_refl _, by lia, fun c c1 c2 => absurd c2 (by lia)⟩
     ·rintro i σ H8 hi8 ⟨u9, u10, xs2, rfl, S8, R8, pre, hl8, hin⟩
      have hcur2 : xs2[n]? = some cur := by
       obtain ⟨r, rfl⟩ := pre
       rw [List.getElem?_append_left (by lia)]
       exact hcur
      obtain ⟨bc, ec1, ec2⟩ := R8.ks cur (List.mem_of_getElem? hcur2)
      have hrc : Reach ps lo hi (hd, ws) cur.1 := R8.rc _ (List.mem_map.mpr ⟨cur, List.mem_of_getElem? hcur2, rfl⟩)
      walk_at "s"
      refine i_ixN (SqL.of R8.ll) (by lia) (v := .ref cur.2) (by simp [hcur2]) ?_
      walk_at "s"
      refine i_ixT (SqT.of ec1) (by decide) rfl ?_
      walk_at "s"
      refine ⟨a, bc, ps, cur.1.2, _, rfl, SqL.of (S8 _ _ hA), ec2, ht.2.1, ht.2.2, fun l9 H9 N9 => ?_⟩
      generalize hpl : lo + (i : Int) = pl at *
      walk_at "s"
      refine i_tupL (SqL.of N9.at_) (fun b10 h10 => ?_)
      walk_at "s"
      intro t11 h11
      have s11 : Same H8 _ := N9.sm.trans ((same_upd (o := .tup (iL (dragAll ps cur.1.2 pl))) h10).trans (same_upd (o := .tup [.int pl, .ref b10]) h11))
      have st11 : StAt (upd (upd H9 b10 (.tup (iL (dragAll ps cur.1.2 pl)))) t11 (.tup [.int pl, .ref b10])) (goTo ps cur.1 pl) t11 := ⟨b10, upd_same, same_upd h11 _ _ upd_same⟩
      generalize upd (upd H9 b10 (.tup (iL (dragAll ps cur.1.2 pl)))) t11 (.tup [.int pl, .ref b10]) = H11 at *
      have R11 := R8.more s11
      have S11 : ∀ b o, H b = some o → H11 b = some o := fun b o e => s11 _ _ (S8 b o e)
      have hrq : Reach ps lo hi (hd, ws) (goTo ps cur.1 pl) := hrc.far ht hs g1 g2 (by lia) (by lia)
      have hnow : ∀ c, c < lo + ((i + 1 : Nat) : Int) → ¬ c < pl → c = pl := fun c c1 c2 => by lia
      generalize hq : goTo ps cur.1 pl = q at *
      clear R8 S8 s11 N9 h10 h11 ec1 ec2
      walk_at "s"
      refine ⟨t11, d, q, xs2, rfl, rfl, R11.dd, R11.ks, st11, ?_⟩
      walk_at "s"
      by_cases hqk : q ∈ xs2.map (·.1)
      ·refine ifF (by simp [hqk]) ?_
       walk_at "s"
       refine ⟨_, _, xs2, rfl, S11, R11, pre, by lia, fun c c1 c2 => ?_⟩
       by_cases hc : c < pl
       ·exact hin c c1 hc
       ·rw [hnow c c2 hc, hq]
        exact hqk
      ·refine ifT (by simp [hqk]) ?_
       walk_at "s"
       refine ⟨rfl, t11, d, q, xs2, rfl, rfl, R11.dd, R11.ks, st11, hqk, szlt (by lia), ?_⟩
       have R12 := R11.put st11 hqk hrq
       have hll : upd H11 d (DSt P w d (xs2 ++ [(q, t11)])) l = some (.lst ((xs2.map (·.2)).map V.ref)) := by rw [upd_ne (Ne.symm R11.dl)]; exact R11.ll
       walk_at "s"
       refine ⟨.inl ⟨rfl, _, SqL.of hll⟩, ?_⟩
       walk_at "s"
       refine i_app hll (szlt (by simp; lia)) ?_
       rw [show (xs2.map (·.2)).map V.ref ++ [V.ref t11] = ((xs2 ++ [(q, t11)]).map (·.2)).map V.ref by simp]
       refine ⟨_, _, _, rfl, fun b o e => ?_, R12, pre.trans (List.prefix_append _ _), by simp; lia, fun c c1 c2 => ?_⟩
       ·rw [upd_ne (ne_of_none e hlH), upd_ne (ne_of_none e hdH)]
        exact S11 b o e
       ·rw [List.map_append]
        by_cases hc : c < pl
        ·exact List.mem_append_left _ (hin c c1 hc)
        ·rw [hnow c c2 hc, hq]
         exact List.mem_append_right _ (by simp)
     ·rintro σ H8 ⟨u9, u10, xs2, rfl, S8, R8, pre, hl8, hin⟩
      walk_at "s"
      have hpl := pre.length_le
      refine ⟨_, _, xs2, rfl, S8, R8, fun j x hj hx2 c c1 c2 => ?_, by lia, by lia⟩
      by_cases hjn : j < n
      ·obtain ⟨y, hy⟩ : ∃ y, xs[j]? = some y := ⟨_, List.getElem?_eq_getElem (by lia)⟩
       obtain ⟨r, rfl⟩ := pre
       rw [List.getElem?_append_left (by lia), hy] at hx2
       cases hx2
       rw [List.map_append]
       exact List.mem_append_left _ (hcl j x hjn hy c c1 c2)
      ·obtain rfl : j = n := by lia
       obtain ⟨r, rfl⟩ := pre
       rw [List.getElem?_append_left (by lia), hcur] at hx2
       cases hx2
       exact hin c c1 (by lia)
    ·walk_at "s"
     refine i_len (SqL.of R7.ll) ?_
     rw [hlen]
     walk_at "s"
     refine i_if (fun g => ?_) (fun g => absurd g (by lia))
     exact k _ _ S7 (.inl ⟨rfl, R7.many (by lia)⟩)
   ·walk_at "s"
    refine i_len (SqL.of R7.ll) ?_
    rw [hlen]
    walk_at "s"
    walk_at "z19"
    ·exact k _ _ S7 (.inl ⟨rfl, R7.many (by lia)⟩)
    ·walk_at "s"
     obtain rfl : n = xs.length := by lia
     refine ⟨l, xs.map (·.2), xs.map (·.1), rfl, SqL.of R7.ll, StAll.of R7.ks, fun l9 ts ms h9 sa pm so => ?_⟩
     exact k _ _ (fun b o e => same_upd h9 _ _ (S7 b o e)) (.inr ⟨l9, ts, ms, rfl, upd_same, sa.more (same_upd h9), R7.allOf hcl pm so (by lia)⟩)
def spSmall (K : PySem.W.Frag) : Sp := fun vs H Q _ => ∃ (a : Addr) (ns : List Int), vs = [.ref a] ∧ SqL K H a (iL ns) ∧ ∀ t lp lw ps ws hd H', Same H H' → H' t = some (.tup [.ref lp, .int hd, .ref lw]) → H' lp = some (.lst (iL ps)) → H' lw = some (.lst (iL ws)) → isTr ps → stand ps hd ws → -4 ≤ hd → hd ≤ 4 → Q (.ref t) H'
theorem ok_law_small (T : Txt mg) (D : Def K mg "_law_small" s_law_small) (C_law_draws : Callee P w K mg base "_law_draws" 1 spDraws) (C_law_cell_at : Callee P w K mg base "_law_cell_at" 1 (spCellAt K)) : Callee P w K mg base "_law_small" 2 (spSmall K) := by
 refine D.ok sc_law_small bd_law_small (fun vs H Q E h => ?len) (fun f cdv A outer s H vs Q E hr h => ?body)
 case len => obtain ⟨a, ns, rfl, _⟩ := h; rfl
 case body =>
  obtain ⟨a, ns, rfl, hS, k⟩ := h
  have hu := hr.units
  refine ⟨_, (pss_cons (ps_set (i := 1) sc_law_small.nd rfl (Or.inl rfl) (pe_callN C_law_draws (hr.mono (by decide)) (by rfl) (pa_cons (pe_callN C_law_cell_at (hr.mono (by decide)) (by rfl) (pa_cons (pv 0) (pa_cons pe_int pa_nil))) (pa_cons pe_int (pa_cons pe_int pa_nil)))))
 (pss_cons (ps_set (i := 2) sc_law_small.nd rfl (Or.inl rfl) (pe_op op_addP pe_int (pe_op op_mod (pe_ix (ix_K K) (pv 1) pe_int (by exact fun _ _ => rfl)) pe_int)))
 (pss_cons (by exact ps_setC (i := 3) sc_law_small.nd rfl (Or.inl rfl) (N := ["pick"]) (fr := [none]) ⟨by rfl, by decide +kernel, by decide +kernel, (show ∀ y ∈ (_ : List (Str × NameKind)), y.2 = NameKind.free → (defScope s_law_small).names.lookup y.1 = some .cell ∨ (defScope s_law_small).names.lookup y.1 = some .free by decide +kernel), (fr_none fr_nil)⟩ (by rfl) (pi_listK K (pe_slice (sl_listK K) (pv 1) po_none (po_some (pv 2)))) (fun _ _ _ _ => (pg_name (i := 0) (show List.Nodup (["pick"] : List Str) by decide) (by rfl) (by first | exact Or.inl rfl | exact Or.inr rfl))) (fun _ _ _ _ => pifs_nil) (fun _ _ _ _ => (pe_op op_mod (pv 0) pe_int)) (gw_name (by rfl)))
 (pss_join (ps_if (pt_cmpR (op_eqK K hu) (pe_op op_mod (pe_ix (ix_K K) (pv 1) pe_int (by exact fun _ _ => rfl)) pe_int) pe_int (nomark _))
 (pss_cons (ps_set (i := 2) sc_law_small.nd rfl (Or.inl rfl) (pe_op op_addP pe_int (pe_op op_mod (pe_ix (ix_K K) (pv 1) pe_int (by exact fun _ _ => rfl)) pe_int)))
 (pss_one (by exact ps_setC (i := 3) sc_law_small.nd rfl (Or.inl rfl) (N := ["pick"]) (fr := [none]) ⟨by rfl, by decide +kernel, by decide +kernel, (show ∀ y ∈ (_ : List (Str × NameKind)), y.2 = NameKind.free → (defScope s_law_small).names.lookup y.1 = some .cell ∨ (defScope s_law_small).names.lookup y.1 = some .free by decide +kernel), (fr_none fr_nil)⟩ (by rfl) (pi_listK K (pe_slice (sl_listK K) (pv 1) (po_some pe_int) (po_some (pe_op op_addP pe_int (pv 2))))) (fun _ _ _ _ => (pg_name (i := 0) (show List.Nodup (["pick"] : List Str) by decide) (by rfl) (by first | exact Or.inl rfl | exact Or.inr rfl))) (fun _ _ _ _ => pifs_nil) (fun _ _ _ _ => (pe_op op_mod (pv 0) pe_int)) (gw_name (by rfl)))))
 pss_nil)
 (pss_cons (ps_set (i := 4) sc_law_small.nd rfl (Or.inl rfl) (pe_op op_sub (pe_op op_mod (pe_ix (ix_K K) (pv 1) pe_int (by exact fun _ _ => rfl)) pe_int) pe_int))
 (pss_cons (ps_set (i := 5) sc_law_small.nd rfl (Or.inl rfl) (pe_lst pa_nil))
 (pss_cons (ps_set (i := 6) sc_law_small.nd rfl (Or.inl rfl) (pv 4))
 (pss_cons (ps_for PassesOwn.never rfl (pi_enumerate1K K (by rfl) T.z_enumerate (pa_cons (pv 3) pa_nil)) (pg_tupK K 2 (pgs_cons (pg_name (i := 7) sc_law_small.nd rfl (Or.inl rfl)) (pgs_cons (pg_name (i := 8) sc_law_small.nd rfl (Or.inl rfl)) pgs_nil)))
 (pss_cons (ps_set (i := 6) sc_law_small.nd rfl (Or.inl rfl) (pe_op op_sub (pe_op op_addP (pv 6) (pe_op op_mod (pe_ix (ix_K K) (pv 1) (pe_op op_addP pe_int (pv 7)) (by exact fun _ _ => rfl)) (pe_op op_addP (pe_op op_mulP pe_int (pv 8)) pe_int))) (pv 8)))
 (pss_one (ps_expr (pe_bmK K PySem.F.plainAttrs_list PySem.F.slot_list_append PySem.F.type_list_append mt_append (pv 5) (pa_cons (pv 6) pa_nil))))))
 (pss_one (ps_ret (pe_tup (pa_cons (pv 3) (pa_cons (pv 4) (pa_cons (pv 5) pa_nil)))))))))))))), ?_⟩
  walk_at "un"
  try clear hu
  walk_at "s"
  refine ⟨a, ns, 2, rfl, hS, by decide, fun c2 => ?_⟩
  walk_at "s"
  refine ⟨c2, 40, 1000, rfl, by decide, by decide, by decide, by decide, fun lq H1 pk N1 l1 b1 => ?_⟩
  have s1 := N1.sm
  have e1 := N1.at_
  clear N1
  walk_at "s"
  refine i_ixL (SqL.of e1) (by lia) (by lia) (fun v12 _ m12 => ?_)
  walk_at "s"
  have r1 := Int.emod_nonneg v12 (show (4 : Int) ≠ 0 by decide)
  have r2 := Int.emod_lt_of_pos v12 (show (0 : Int) < 4 by decide)
  refine i_slTo (SqL.of e1) (by lia) (fun lx hlx => ?_)
  generalize hpx : pk.take (1 + v12 % 4).toNat = px at *
  have hpl : px.length = (1 + v12 % 4).toNat := by rw [← hpx, List.length_take]; lia
  have s2 : Same H1 _ := same_upd (o := .lst (iL px)) hlx
  have e2 : upd H1 lx (.lst (iL px)) lx = some (.lst (iL px)) := upd_same
  generalize upd H1 lx (.lst (iL px)) = H2 at *
  refine ⟨_, rfl, ⟨_, SqL.of e2⟩, cp_list (xs := iL px) (fun i ys H3 => ys = iL ((px.take i).map (· % 4)) ∧ H2 = H3) ⟨rfl, rfl⟩ ?_ (szlt (by simp [iL]; lia)) ?_ ?_⟩
  ·rintro i ys H3 ⟨rfl, rfl⟩
   exact ⟨SqL.of e2, by simp [iL]; lia⟩
  ·rintro i x ys H3 hx ⟨rfl, rfl⟩
   unfold iL at hx
   rw [List.getElem?_map] at hx
   obtain ⟨q, hq, rfl⟩ := Option.map_eq_some_iff.mp hx
   walk_at "s"
   refine ⟨?_, rfl⟩
   rw [take_snoc_get hq]
   simp [iL]
  rintro lp ys H3 ⟨rfl, rfl⟩ hlp
  rw [show (iL px).length = px.length by simp [iL], List.take_of_length_le (Nat.le_refl _)]
  have s3 : Same H1 _ := s2.trans (same_upd (o := .lst (iL (px.map (· % 4)))) hlp)
  have e3 : upd H2 lp (.lst (iL (px.map (· % 4)))) lp = some (.lst (iL (px.map (· % 4)))) := upd_same
  generalize upd H2 lp (.lst (iL (px.map (· % 4)))) = H3 at *
  clear s2 e2 hlx hlp
  walk_at "s"
  refine ⟨fun σ H4 => ∃ (m : Int) (lp : Addr) (ps : List Int), σ = [some (.ref a), some (.ref lq), some (.int m), some (.ref lp), none, none, none, none, none] ∧ Same H1 H4 ∧ H4 lp = some (.lst (iL ps)) ∧ isTr ps, ?_, ?_⟩
  ·walk_at "s"
   refine i_ixL (SqL.of (s3 _ _ e1)) (by lia) (by lia) (fun v0 _ m0 => ?_)
   walk_at "s"
   walk_at "z19"
   ·walk_at "s"
    refine i_ixL (SqL.of (s3 _ _ e1)) (by lia) (by lia) (fun w12 _ _ => ?_)
    walk_at "s"
    have r3 := Int.emod_nonneg w12 (show (8 : Int) ≠ 0 by decide)
    have r4 := Int.emod_lt_of_pos w12 (show (0 : Int) < 8 by decide)
    refine i_slMid (SqL.of (s3 _ _ e1)) (by lia) (by lia) (fun ly hly => ?_)
    generalize hpy : (pk.drop (14 : Int).toNat).take ((14 + (5 + w12 % 8)).toNat - (14 : Int).toNat) = py at *
    have hpm : py.length = (5 + w12 % 8).toNat := by rw [← hpy, List.length_take, List.length_drop]; lia
    have s4 : Same H3 _ := same_upd (o := .lst (iL py)) hly
    have e4 : upd H3 ly (.lst (iL py)) ly = some (.lst (iL py)) := upd_same
    generalize upd H3 ly (.lst (iL py)) = H4 at *
    refine ⟨_, rfl, ⟨_, SqL.of e4⟩, cp_list (xs := iL py) (fun i ys H5 => ys = iL ((py.take i).map (· % 2)) ∧ H4 = H5) ⟨rfl, rfl⟩ ?_ (szlt (by simp [iL]; lia)) ?_ ?_⟩
    ·rintro i ys H5 ⟨rfl, rfl⟩
     exact ⟨SqL.of e4, by simp [iL]; lia⟩
    ·rintro i x ys H5 hx ⟨rfl, rfl⟩
     unfold iL at hx
     rw [List.getElem?_map] at hx
     obtain ⟨q, hq, rfl⟩ := Option.map_eq_some_iff.mp hx
     walk_at "s"
     refine ⟨?_, rfl⟩
     rw [take_snoc_get hq]
     simp [iL]
    rintro lr ys H5 ⟨rfl, rfl⟩ hlr
    rw [show (iL py).length = py.length by simp [iL], List.take_of_length_le (Nat.le_refl _)]
    refine ⟨_, lr, py.map (· % 2), rfl, s3.trans (s4.trans (same_upd hlr)), upd_same, by simp; lia, by simp; lia, fun p hp => ?_⟩
    obtain ⟨q, _, rfl⟩ := List.mem_map.mp hp
    exact Int.emod_nonneg q (by decide)
   ·walk_at "s"
    refine ⟨_, lp, px.map (· % 4), rfl, s3, e3, by simp; lia, by simp; lia, fun p hp => ?_⟩
    obtain ⟨q, _, rfl⟩ := List.mem_map.mp hp
    exact Int.emod_nonneg q (by decide)
  rintro σ H4 ⟨m, lp, ps, rfl, s4, e4, ht⟩
  have hp1 := ht.1
  have hp2 := ht.2.1
  clear s3 e3 hpl hpx
  walk_at "s"
  refine i_ixL (SqL.of (s4 _ _ e1)) (by lia) (by lia) (fun v13 _ _ => ?_)
  walk_at "s"
  have r5 := Int.emod_nonneg v13 (show (9 : Int) ≠ 0 by decide)
  have r6 := Int.emod_lt_of_pos v13 (show (0 : Int) < 9 by decide)
  generalize hhd : v13 % 9 - 4 = hd at *
  intro lw hlw
  walk_at "s"
  refine ⟨⟨_, same_upd hlw _ _ e4⟩, lp_enum (xs := iL ps) (fun i σ H5 => ∃ (u v : Option V) (wn : List Int), σ = [some (.ref a), some (.ref lq), some (.int m), some (.ref lp), some (.int hd), some (.ref lw), some (.int (lastOf hd wn)), u, v] ∧ NewI H4 H5 lw wn ∧ wn.length = i ∧ keeps (ps.take i) hd wn) ?_ ?_ ?_ ?_⟩
  ·exact ⟨_, _, [], rfl, ⟨hlw, same_upd hlw, upd_same⟩, rfl, by simp [keeps]⟩
  ·rintro i σ H5 ⟨u, v, wn, rfl, N, hl, hk⟩
   exact SqL.of (N.sm _ _ e4)
  ·rintro i x tt σ H5 hx ⟨u, v, wn, rfl, N, hl, hk⟩ htt
   unfold iL at hx
   rw [List.getElem?_map] at hx
   obtain ⟨p, hp, rfl⟩ := Option.map_eq_some_iff.mp hx
   have hil := (List.getElem?_eq_some_iff.mp hp).1
   have hp0 := ht.2.2 p (List.mem_of_getElem? hp)
   walk_at "s"
   walk_at "z21"
   have N2 := N.more (same_upd (o := .tup [.int i, .int p]) htt)
   generalize upd H5 tt (.tup [.int i, .int p]) = H6 at *
   walk_at "s"
   refine i_ixL (SqL.of (N2.sm _ _ (s4 _ _ e1))) (by lia) (by lia) (fun z _ _ => ?_)
   walk_at "s"
   refine i_mulI (cmul_l (by decide) (by decide)) ?_
   walk_at "s"
   refine ⟨.inl ⟨rfl, _, SqL.of N2.at_⟩, ?_⟩
   walk_at "s"
   refine i_app N2.at_ (szlt (by simp [iL]; lia)) ?_
   have r7 := Int.emod_nonneg z (show 2 * p + 1 ≠ 0 by lia)
   have r8 := Int.emod_lt_of_pos z (show 0 < 2 * p + 1 by lia)
   refine ⟨_, _, wn ++ [lastOf hd wn + z % (2 * p + 1) - p], by rw [lastOf_snoc]; rfl, N2.app, by simp; lia, ?_⟩
   rw [take_snoc_get hp]
   exact keeps_snoc _ _ _ (by rw [List.length_take]; lia) hk (by lia) (by lia)
  ·rintro σ H5 ⟨u, v, wn, rfl, N, hl, hk⟩
   walk_at "s"
   intro t6 h6
   rw [show (iL ps).length = ps.length by simp [iL]] at hl hk
   rw [List.take_of_length_le (Nat.le_refl _)] at hk
   exact k t6 lp lw ps wn hd _ (s1.trans (s4.trans (N.sm.trans (same_upd h6)))) upd_same (same_upd h6 _ _ (N.sm _ _ e4)) (same_upd h6 _ _ N.at_) ht ⟨hl, hk⟩ (by lia) (by lia)
def spWhole : Sp := fun vs H Q _ => ∃ i, vs = [.int i] ∧ Q (.bl true) H
theorem ok_law_whole (T : Txt mg) (D : Def K mg "_law_whole" s_law_whole) : Callee P w K mg base "_law_whole" 1 spWhole := by
 refine D.ok sc_law_whole bd_law_whole (fun vs H Q E h => ?len) (fun f cdv A outer s H vs Q E hr h => ?body)
 case len => obtain ⟨i, rfl, _⟩ := h; rfl
 case body =>
  obtain ⟨i, rfl, k⟩ := h
  refine ⟨_, (pss_one (ps_ret (pe_and (pe_callB (call_isinstanceK K) (by rfl) T.z_isinstance bt_isinstance (pa_cons (pv 0) (pa_cons (pe_bltn (by rfl) T.z_int bt_int (show RelV (.ty "int") _ from rfl)) pa_nil))) (pe_one (pe_not (pe_callB (call_isinstanceK K) (by rfl) T.z_isinstance bt_isinstance (pa_cons (pv 0) (pa_cons (pe_bltn (by rfl) T.z_bool bt_bool (show RelV (.ty "bool") _ from rfl)) pa_nil)))))))), ?_⟩
  walk_at "un"
  try clear hu
  walk_at "s"
  exact k
def spTrain (K : PySem.W.Frag) : Sp := fun vs H Q _ => ∃ (a : Addr) (ns : List Int), vs = [.ref a] ∧ SqL K H a (iL ns) ∧
 ∀ t lp lw ps ws hd H', H t = none → NewI H H' lp ps → NewI H H' lw ws → lp ≠ lw → H' t = some (.tup [.ref lp, .int hd, .ref lw]) → isTr ps → stand ps hd ws → Q (.ref t) H'
theorem ok_law_a_train (T : Txt mg) (D : Def K mg "_law_a_train" s_law_a_train) (C_law_draws : Callee P w K mg base "_law_draws" 1 spDraws) (C_law_cell_at : Callee P w K mg base "_law_cell_at" 1 (spCellAt K)) : Callee P w K mg base "_law_a_train" 2 (spTrain K) := by
 refine D.ok sc_law_a_train bd_law_a_train (fun vs H Q E h => ?len) (fun f cdv A outer s H vs Q E hr h => ?body)
 case len => obtain ⟨a, ns, rfl, _⟩ := h; rfl
 case body =>
  obtain ⟨a, ns, rfl, hS, k⟩ := h
  refine ⟨_, (pss_cons (ps_set (i := 1) sc_law_a_train.nd rfl (Or.inl rfl) (pe_callN C_law_draws (hr.mono (by decide)) (by rfl) (pa_cons (pe_callN C_law_cell_at (hr.mono (by decide)) (by rfl) (pa_cons (pv 0) (pa_cons pe_int pa_nil))) (pa_cons pe_int (pa_cons pe_int pa_nil)))))
 (pss_cons (ps_set (i := 2) sc_law_a_train.nd rfl (Or.inl rfl) (pe_menu (pa_cons (pe_op op_addP pe_int (pe_op op_mod (pe_ix (ix_K K) (pv 1) pe_int (by exact fun _ _ => rfl)) pe_int)) (pa_cons (pe_op op_addP pe_int (pe_op op_mod (pe_ix (ix_K K) (pv 1) pe_int (by exact fun _ _ => rfl)) pe_int)) (pa_cons pe_int pa_nil))) (pe_op op_mod (pe_ix (ix_K K) (pv 1) pe_int (by exact fun _ _ => rfl)) pe_int) (by exact fun _ _ => rfl)))
 (pss_cons (ps_set (i := 3) sc_law_a_train.nd rfl (Or.inl rfl) (pe_menu (pa_cons pe_int (pa_cons pe_int (pa_cons (pe_powK (r := 100000000000000000000) (by decide)) (pa_cons pe_int pa_nil)))) (pe_op op_mod (pe_ix (ix_K K) (pv 1) pe_int (by exact fun _ _ => rfl)) pe_int) (by exact fun _ _ => rfl)))
 (pss_cons (ps_set (i := 4) sc_law_a_train.nd rfl (Or.inl rfl) (pe_callN C_law_draws (hr.mono (by decide)) (by rfl) (pa_cons (pe_callN C_law_cell_at (hr.mono (by decide)) (by rfl) (pa_cons (pv 0) (pa_cons pe_int pa_nil))) (pa_cons pe_int (pa_cons (pe_powK (r := 1000000000) (by decide)) pa_nil)))))
 (pss_cons (ps_set (i := 5) sc_law_a_train.nd rfl (Or.inl rfl) (pe_lst pa_nil))
 (pss_cons (ps_set (i := 6) sc_law_a_train.nd rfl (Or.inl rfl) (pe_lst pa_nil))
 (pss_cons (ps_set (i := 7) sc_law_a_train.nd rfl (Or.inl rfl) (pe_op op_mulP (pe_op op_sub (pe_ix (ix_K K) (pv 1) pe_int (by exact fun _ _ => rfl)) pe_int) (pe_menu (pa_cons pe_int (pa_cons pe_int (pa_cons (pe_powK (r := 1000000000000000000000000) (by decide)) pa_nil))) (pe_op op_mod (pe_ix (ix_K K) (pv 1) pe_int (by exact fun _ _ => rfl)) pe_int) (by exact fun _ _ => rfl))))
 (pss_cons (ps_set (i := 8) sc_law_a_train.nd rfl (Or.inl rfl) (pv 7))
 (pss_cons (ps_for PassesOwn.never rfl (pi_range1 (by rfl) T.z_range (pa_cons (pv 2) pa_nil)) (pg_name (i := 9) sc_law_a_train.nd rfl (Or.inl rfl))
 (pss_cons (ps_set (i := 10) sc_law_a_train.nd rfl (Or.inl rfl) (pe_op op_mod (pe_op op_mulP (pe_ix (ix_K K) (pv 4) (pv 9) (by exact fun _ _ => rfl)) (pe_op op_addP (pe_powK (r := 1000000000000) (by decide)) pe_int)) (pe_op op_addP (pv 3) pe_int)))
 (pss_join (ps_if (pt_cmpR op_gt (pe_op op_mod (pe_ix (ix_K K) (pv 4) (pv 9) (by exact fun _ _ => rfl)) pe_int) pe_int (nomark _))
 (pss_one (ps_set (i := 10) sc_law_a_train.nd rfl (Or.inl rfl) (pe_op op_mod (pe_ix (ix_K K) (pv 4) (pv 9) (by exact fun _ _ => rfl)) (pe_op op_addP (pv 3) pe_int))))
 pss_nil)
 (pss_cons (ps_set (i := 11) sc_law_a_train.nd rfl (Or.inl rfl) (pe_menu (pa_cons (pe_op op_sub pe_int (pv 10)) (pa_cons (pv 10) (pa_cons (pe_op op_sub (pe_op op_mod (pe_op op_mulP (pe_ix (ix_K K) (pv 4) (pe_op op_addP pe_int (pv 9)) (by exact fun _ _ => rfl)) (pe_op op_addP (pe_powK (r := 1000000000000) (by decide)) pe_int)) (pe_op op_addP (pe_op op_mulP pe_int (pv 10)) pe_int)) (pv 10)) pa_nil))) (pe_op op_mod (pe_ix (ix_K K) (pv 4) (pe_op op_addP pe_int (pv 9)) (by exact fun _ _ => rfl)) pe_int) (by exact fun _ _ => rfl)))
 (pss_cons (ps_expr (pe_bmK K PySem.F.plainAttrs_list PySem.F.slot_list_append PySem.F.type_list_append mt_append (pv 5) (pa_cons (pv 10) pa_nil)))
 (pss_cons (ps_set (i := 8) sc_law_a_train.nd rfl (Or.inl rfl) (pe_op op_addP (pv 8) (pv 11)))
 (pss_one (ps_expr (pe_bmK K PySem.F.plainAttrs_list PySem.F.slot_list_append PySem.F.type_list_append mt_append (pv 6) (pa_cons (pv 8) pa_nil))))))))))
 (pss_one (ps_ret (pe_tup (pa_cons (pv 5) (pa_cons (pv 7) (pa_cons (pv 6) pa_nil))))))))))))))), ?_⟩
  walk_at "un"
  try clear hu
  walk_at "s"
  refine ⟨a, ns, 0, rfl, hS, by decide, fun c0 => ?_⟩
  walk_at "s"
  refine ⟨c0, 6, 1000, rfl, by decide, by decide, by decide, by decide, fun lh H1 hs N1 l1 b1 => ?_⟩
  have q1 := SqL.of (K := K) N1.at_
  walk_at "s"
  refine i_ixL q1 (by lia) (by lia) (fun v0 _ m0 => ?_)
  walk_at "s"
  refine i_ixL q1 (by lia) (by lia) (fun v0' _ m0' => ?_)
  walk_at "s"
  refine i_ixL q1 (by lia) (by lia) (fun v1 _ m1 => ?_)
  walk_at "s"
  have e1 := Int.emod_nonneg v0 (show (12 : Int) ≠ 0 by decide)
  have e2 := Int.emod_lt_of_pos v0 (show (0 : Int) < 12 by decide)
  have e3 := Int.emod_nonneg v0' (show (4 : Int) ≠ 0 by decide)
  have e4 := Int.emod_lt_of_pos v0' (show (0 : Int) < 4 by decide)
  refine i_menu3 (Int.emod_nonneg _ (by decide)) (Int.emod_lt_of_pos _ (by decide)) (fun many hm => ?_)
  have hmany : 1 ≤ many ∧ many ≤ 12 := by lia
  clear hm e1 e2 e3 e4
  walk_at "s"
  refine i_ixL q1 (by lia) (by lia) (fun v2 _ m2 => ?_)
  walk_at "s"
  refine i_menu4 (Int.emod_nonneg _ (by decide)) (Int.emod_lt_of_pos _ (by decide)) (fun far hf => ?_)
  have hfar : 0 ≤ far := by lia
  clear hf
  walk_at "s"
  refine ⟨a, ns, 1, rfl, N1.sm.seq hS, by decide, fun c1 => ?_⟩
  walk_at "s"
  refine ⟨c1, 36, 1000000000, rfl, by decide, by decide, by decide, by decide, fun lq H2 pk N2 l2 b2 => ?_⟩
  have q2 := SqL.of (K := K) N2.at_
  have q1' := N2.sm.seq q1
  walk_at "s"
  intro lp hp
  walk_at "s"
  intro lw hw
  walk_at "s"
  have s3 : Same H2 (upd (upd H2 lp (.lst [])) lw (.lst [])) := (same_upd hp).trans (same_upd hw)
  refine i_ixL (s3.seq q1') (by lia) (by lia) (fun v3 _ m3 => ?_)
  have hb3 := b1 _ m3
  walk_at "s"
  refine i_ixL (s3.seq q1') (by lia) (by lia) (fun v4 _ m4 => ?_)
  walk_at "s"
  refine i_menu3 (Int.emod_nonneg _ (by decide)) (Int.emod_lt_of_pos _ (by decide)) (fun sc _ => ?_)
  refine i_mulI (cmul_l (by lia) (by lia)) ?_
  generalize (v3 - 500) * sc = hd
  walk_at "s"
  have hne : lp ≠ lw := ne_of_none upd_same hw
  have hpf : H lp = none := (N1.sm.trans N2.sm).free hp
  have hwf : H lw = none := (N1.sm.trans N2.sm).free ((same_upd hp).free hw)
  refine ⟨by lia, by lia, lp_range (fun i σ H3 => ∃ (ah : Int) (u1 u2 u3 : Option V) (ps ws : List Int), σ = [some (.ref a), some (.ref lh), some (.int many), some (.int far), some (.ref lq), some (.ref lp), some (.ref lw), some (.int hd), some (.int ah), u1, u2, u3] ∧
   Same H2 H3 ∧ H3 lp = some (.lst (iL ps)) ∧ H3 lw = some (.lst (iL ws)) ∧ ps.length = i ∧ ws.length = i ∧ i ≤ 12 ∧ (∀ p ∈ ps, 0 ≤ p) ∧ keeps ps hd ws ∧ lastOf hd ws = ah) ?_ ?_ ?_⟩
  ·exact ⟨hd, _, _, _, [], [], rfl, s3, by rw [upd_ne hne, upd_same]; rfl, upd_same, rfl, rfl, by decide, by simp, trivial, rfl⟩
  ·rintro i σ H3 hi ⟨ah, u1, u2, u3, ps, ws, rfl, sm, hP, hW, lps, lws, hi12, hpos, hk, hlast⟩
   have q3 := sm.seq q2
   walk_at "s"
   refine i_ixL q3 (by lia) (by lia) (fun w0 _ n0 => ?_)
   have c0 := b2 _ n0
   walk_at "s"
   refine i_mulI (cmul_l (by lia) (by lia)) ?_
   walk_at "s"
   have d1 := Int.emod_nonneg (w0 * (1000000000000 + 1)) (show far + 1 ≠ 0 by lia)
   have d2 := Int.emod_lt_of_pos (w0 * (1000000000000 + 1)) (show 0 < far + 1 by lia)
   generalize (w0 * (1000000000000 + 1)) % (far + 1) = play0 at *
   refine ⟨fun σ H4 => ∃ play : Int, σ = [some (.ref a), some (.ref lh), some (.int many), some (.int far), some (.ref lq), some (.ref lp), some (.ref lw), some (.int hd), some (.int ah), some (.int (0 + (i : Int))), some (.int play), u3] ∧ 0 ≤ play ∧ H4 = H3, ?_, ?_⟩
   ·walk_at "s"
    refine i_ixL q3 (by lia) (by lia) (fun w1 _ n1 => ?_)
    walk_at "s"
    refine i_if (fun _ => ?_) (fun _ => ?_)
    ·walk_at "s"
     refine i_ixL q3 (by lia) (by lia) (fun w2 _ n2 => ?_)
     walk_at "s"
     exact ⟨Int.emod_nonneg _ (by lia), rfl⟩
    ·exact ⟨_, rfl, d1, rfl⟩
   ·rintro σ H4 ⟨play, rfl, hp0, rfl⟩
    walk_at "s"
    refine i_ixL q3 (by lia) (by lia) (fun w3 _ n3 => ?_)
    have c3 := b2 _ n3
    walk_at "s"
    refine i_mulI (cmul_l (by lia) (by lia)) ?_
    walk_at "s"
    refine i_mulI (cmul_l (by decide) (by decide)) ?_
    walk_at "s"
    have g1 := Int.emod_nonneg (w3 * (1000000000000 + 1)) (show 2 * play + 1 ≠ 0 by lia)
    have g2 := Int.emod_lt_of_pos (w3 * (1000000000000 + 1)) (show 0 < 2 * play + 1 by lia)
    generalize (w3 * (1000000000000 + 1)) % (2 * play + 1) = sd at *
    refine i_ixL q3 (by lia) (by lia) (fun w4 _ n4 => ?_)
    walk_at "s"
    refine i_menu3 (Int.emod_nonneg _ (by decide)) (Int.emod_lt_of_pos _ (by decide)) (fun side hside => ?_)
    have hs1 : side ≤ play ∧ -play ≤ side := by lia
    clear hside
    walk_at "s"
    refine ⟨.inl ⟨rfl, _, SqL.of hP⟩, ?_⟩
    walk_at "s"
    refine i_app hP (szlt (by simp [iL]; lia)) ?_
    walk_at "s"
    have hW' : upd H4 lp (.lst (iL ps ++ [V.int play])) lw = some (.lst (iL ws)) := by rw [upd_ne hne.symm]; exact hW
    refine ⟨.inl ⟨rfl, _, SqL.of hW'⟩, ?_⟩
    walk_at "s"
    refine i_app hW' (szlt (by simp [iL]; lia)) ?_
    refine ⟨ah + side, _, _, _, ps ++ [play], ws ++ [ah + side], rfl, fun b o e => ?_, ?_, ?_, by simp; lia, by simp; lia, by lia, ?_, keeps_snoc ps ws hd (by lia) hk (by lia) (by lia), lastOf_snoc _ _ _⟩
    ·have e1 : b ≠ lp := ne_of_none e hp
     have e2 : b ≠ lw := ne_of_none e ((same_upd hp).free hw)
     rw [upd_ne e2, upd_ne e1]; exact sm b o e
    ·rw [upd_ne hne, upd_same]; simp [iL]
    ·rw [upd_same]; simp [iL]
    ·intro p hpm
     rcases List.mem_append.mp hpm with z | z
     ·exact hpos p z
     ·simp at z; subst z; exact hp0
  ·rintro σ H3 ⟨ah, u1, u2, u3, ps, ws, rfl, sm, hP, hW, lps, lws, hi12, hpos, hk, hlast⟩
   walk_at "s"
   intro t ht
   have sA : Same H H3 := (N1.sm.trans N2.sm).trans sm
   exact k t lp lw ps ws hd _ (sA.free ht) ⟨hpf, sA.trans (same_upd ht), same_upd ht _ _ hP⟩ ⟨hwf, sA.trans (same_upd ht), same_upd ht _ _ hW⟩ hne upd_same ⟨by lia, by lia, hpos⟩ ⟨by lia, hk⟩
abbrev pdPr (p : Int × Int) : PyData := .tuple [.int p.1, .int p.2]
theorem pd_prs {H : Hp} {n : Nat} {l : Addr} {ts : List Addr} {ms : List (Int × Int)} (h : H l = some (.lst (ts.map V.ref))) (sa : PrAll H ts ms) : PdAt K H (n + 2) (.list (ms.map pdPr)) (.ref l) := by
 refine pd_lst (SqL.of h) ?_
 clear h
 induction sa with
 | nil => exact .nil
 | cons a b ih => exact .cons (pd_tup (SqT.of a) (.cons pd_int (.cons pd_int .nil))) ih
theorem pd_bls {H : Hp} {l : Addr} {bs : List Bool} {n : Nat} (h : H l = some (.lst (bL bs))) : PdAt K H (n + 1) (.list (bs.map PyData.bool)) (.ref l) := by
 refine pd_lst (SqL.of h) ?_
 induction bs with
 | nil => exact .nil
 | cons b bs ih => exact .cons pd_bl (pdb bs)
theorem ok_law {f : Addr} {fd : FuncData} (F : Fun K "law" "law" s_law f fd) (T : Txt mg) (Z : Cls K mg) (C_law_small : Callee P w K mg base "_law_small" 2 (spSmall K)) (C_law_cell_at : Callee P w K mg base "_law_cell_at" 1 (spCellAt K)) (C_law_draws : Callee P w K mg base "_law_draws" 1 spDraws) (C_law_a_stands : Callee P w K mg base "_law_a_stands" 2 spLawStands) (C_law_told : Callee P w K mg base "_law_told" 7 spTold38) (C_law_by_depths : Callee P w K mg base "_law_by_depths" 1 spByDepths) (C_law_due_kin : Callee P w K mg base "_law_due_kin" 1 spDueKinG) (C_law_whole : Callee P w K mg base "_law_whole" 1 spWhole) (C_law_a_train : Callee P w K mg base "_law_a_train" 2 (spTrain K)) :
 FnOk P w K mg base CX0 8 f fd ["script"] (spLaw K) := by
 refine F.ok sc_law (fun vs H Q E h => ?_) (fun cdv A outer s H vs Q E hr h => ?_)
 ·obtain ⟨a, ns, rfl, _⟩ := h
  rfl
 ·obtain ⟨a, ns, rfl, hS, hlen, k⟩ := h
  have hu := hr.units
  refine ⟨_, (pss_cons (ps_set (i := 1) sc_law.nd rfl (Or.inl rfl) (pe_callN C_law_small (hr.mono (by decide)) (by rfl) (pa_cons (pv 0) pa_nil)))
 (pss_cons (ps_for PassesOwn.never rfl (pi_listK K (pe_op op_addP (pe_lst (pa_cons (pe_callN C_law_cell_at (hr.mono (by decide)) (by rfl) (pa_cons (pv 0) (pa_cons pe_int pa_nil))) pa_nil)) (pe_slice (sl_listK K) (pv 0) (po_some pe_int) (po_some pe_int)))) (pg_name (i := 2) sc_law.nd rfl (Or.inl rfl))
 (pss_cons (ps_set (i := 3) sc_law.nd rfl (Or.inl rfl) (pe_callN C_law_draws (hr.mono (by decide)) (by rfl) (pa_cons (pv 2) (pa_cons pe_int (pa_cons pe_int pa_nil)))))
 (pss_cons (ps_set (i := 4) sc_law.nd rfl (Or.inl rfl) (pe_op op_sub (pe_ix (ix_K K) (pv 1) pe_int (by exact fun _ _ => rfl)) (pe_op op_mod (pe_ix (ix_K K) (pv 3) pe_int (by exact fun _ _ => rfl)) (pe_menu (pa_cons pe_int (pa_cons pe_int (pa_cons pe_int pa_nil))) (pe_op op_fdiv (pe_op op_mod (pe_ix (ix_K K) (pv 3) pe_int (by exact fun _ _ => rfl)) pe_int) pe_int) (by exact fun _ _ => rfl)))))
 (pss_join (ps_set (i := 5) sc_law.nd rfl (Or.inl rfl) (pe_op op_addP (pe_ix (ix_K K) (pv 1) pe_int (by exact fun _ _ => rfl)) (pe_op op_mod (pe_ix (ix_K K) (pv 3) pe_int (by exact fun _ _ => rfl)) (pe_menu (pa_cons pe_int (pa_cons pe_int (pa_cons pe_int pa_nil))) (pe_op op_fdiv (pe_op op_mod (pe_ix (ix_K K) (pv 3) pe_int (by exact fun _ _ => rfl)) pe_int) pe_int) (by exact fun _ _ => rfl)))))
 (pss_cons (ps_set (i := 6) sc_law.nd rfl (Or.inl rfl) (pe_callN C_law_a_stands (hr.mono (by decide)) (by rfl) (pa_cons (pv 1) (pa_cons (pv 4) (pa_cons (pv 5) pa_nil)))))
 (pss_cons (ps_asg (pe_callN C_law_told (hr.mono (by decide)) (by rfl) (pa_cons pe_int (pa_cons (pv 1) (pa_cons (pv 4) (pa_cons (pv 5) pa_nil))))) (pg_tupK K 2 (pgs_cons (pg_name (i := 7) sc_law.nd rfl (Or.inl rfl)) (pgs_cons (pg_name (i := 8) sc_law.nd rfl (Or.inl rfl)) pgs_nil))))
 (pss_cons (ps_asg (pe_callN C_law_told (hr.mono (by decide)) (by rfl) (pa_cons pe_int (pa_cons (pv 1) (pa_cons (pv 4) (pa_cons (pv 5) pa_nil))))) (pg_tupK K 2 (pgs_cons (pg_name (i := 9) sc_law.nd rfl (Or.inl rfl)) (pgs_cons (pg_name (i := 10) sc_law.nd rfl (Or.inl rfl)) pgs_nil))))
 (pss_join (ps_if (PW.pt (pw_or (pt_cmpR (op_neK K hu) (pv 10) (pe_lst pa_nil) (nomark _)) (pw_or1 (pt_not (pt_truthK K (pe_callB (call_isinstanceK K) (by rfl) T.z_isinstance bt_isinstance (pa_cons (pv 9) (pa_cons (pe_bltn (by rfl) T.z_list bt_list (show RelV (.ty "list") _ from rfl)) pa_nil))))))))
 (pss_one (ps_ret pe_bl))
 pss_nil)
 (pss_cons (ps_if (pt_cmpR (op_neK K hu) (pv 9) (pe_callN C_law_by_depths (hr.mono (by decide)) (by rfl) (pa_cons (pv 1) (pa_cons (pv 4) (pa_cons (pv 5) pa_nil)))) (nomark _))
 (pss_one (ps_ret pe_bl))
 pss_nil)
 (pss_cons (ps_if (pt_cmpR op_isN (pv 6) pe_non (nomark _))
 (pss_cons (ps_if (pt_cmpR (op_neK K hu) (pv 8) (pe_callN C_law_due_kin (hr.mono (by decide)) (by rfl) (pa_cons pe_str pa_nil)) (nomark _))
 (pss_one (ps_ret pe_bl))
 pss_nil)
 (pss_one ps_continue))
 pss_nil)
 (pss_join (ps_if (PW.pt (pw_or (pt_cmpR (op_neK K hu) (pv 8) (pe_lst pa_nil) (nomark _)) (pw_or (pt_not (pt_truthK K (pe_callB (call_isinstanceK K) (by rfl) T.z_isinstance bt_isinstance (pa_cons (pv 7) (pa_cons (pe_bltn (by rfl) T.z_list bt_list (show RelV (.ty "list") _ from rfl)) pa_nil))))) (pw_or1 (pt_cmpR (op_neK K hu) (pv 7) (pv 6) (nomark _))))))
 (pss_one (ps_ret pe_bl))
 pss_nil)
 (pss_cons (ps_for PassesOwn.never rfl (pi_range1 (by rfl) T.z_range (pa_cons (pe_callB (call_lenK K) (by rfl) T.z_len bt_len (pa_cons (pe_ix (ix_K K) (pv 1) pe_int (by exact fun _ _ => rfl)) pa_nil)) pa_nil)) (pg_name (i := 11) sc_law.nd rfl (Or.inr rfl))
 (pss_cons (by exact ps_setC (i := 12) sc_law.nd rfl (Or.inl rfl) (N := ["stand", "k"]) (fr := [none, some 11]) ⟨by rfl, by decide +kernel, by decide +kernel, (show ∀ y ∈ (_ : List (Str × NameKind)), y.2 = NameKind.free → (defScope s_law).names.lookup y.1 = some .cell ∨ (defScope s_law).names.lookup y.1 = some .free by decide +kernel), (fr_none (fr_some (by rfl) (by first | exact Or.inl rfl | exact Or.inr rfl) (by rfl) fr_nil))⟩ (by rfl) (pi_listK K (pv 6)) (fun _ _ _ _ => (pg_name (i := 0) (show List.Nodup (["stand", "k"] : List Str) by decide) (by rfl) (by first | exact Or.inl rfl | exact Or.inr rfl))) (fun _ _ _ _ => pifs_nil) (fun _ _ _ _ => (pe_ix (ix_K K) (pe_ix (ix_K K) (pv 0) pe_int (by exact fun _ _ => rfl)) (pv 1) (by exact fun _ _ => rfl))) (gw_name (by rfl)))
 (pss_one (ps_if (PW.pt (pw_or (pt_cmpR (op_neK K hu) (pe_ix (ix_K K) (pv 9) (pv 11) (by exact fun _ _ => rfl)) (pe_tup (pa_cons (pe_callB (call_minK K) (by rfl) T.z_min bt_min (pa_cons (pv 12) pa_nil)) (pa_cons (pe_callB (call_maxK K) (by rfl) T.z_max bt_max (pa_cons (pv 12) pa_nil)) pa_nil))) (nomark _)) (pw_or1 (pt_not (pt_truthK K (pe_callN C_law_whole (hr.mono (by decide)) (by rfl) (pa_cons (pe_ix (ix_K K) (pe_ix (ix_K K) (pv 9) (pv 11) (by exact fun _ _ => rfl)) pe_int (by exact fun _ _ => rfl)) pa_nil)))))))
 (pss_one (ps_ret pe_bl))
 pss_nil))))
 (pss_cons (ps_set (i := 13) sc_law.nd rfl (Or.inl rfl) (pe_ix (ix_K K) (pv 1) pe_int (by exact fun _ _ => rfl)))
 (pss_one (ps_for PassesOwn.never rfl (pi_tupK K (pe_tup (pa_cons (pe_tup (pa_cons (pe_op op_addP (pv 13) pe_int) (pa_cons (pe_op op_addP (pv 5) pe_int) pa_nil))) (pa_cons (pe_tup (pa_cons (pe_op op_sub (pv 4) pe_int) (pa_cons (pe_op op_sub (pv 13) pe_int) pa_nil))) (pa_cons (pe_tup (pa_cons (pe_op op_addP (pv 13) pe_int) (pa_cons (pe_op op_sub (pv 13) pe_int) pa_nil))) pa_nil))))) (pg_name (i := 14) sc_law.nd rfl (Or.inl rfl))
 (pss_one (ps_for PassesOwn.never rfl (pi_range1 (by rfl) T.z_range (pa_cons pe_int pa_nil)) (pg_name (i := 15) sc_law.nd rfl (Or.inl rfl))
 (pss_one (ps_if (pt_cmpR (op_neK K hu) (pe_ix (ix_K K) (pe_callN C_law_told (hr.mono (by decide)) (by rfl) (pa_cons (pv 15) (pa_cons (pv 1) (pa_cons (pe_ix (ix_K K) (pv 14) pe_int (by exact fun _ _ => rfl)) (pa_cons (pe_ix (ix_K K) (pv 14) pe_int (by exact fun _ _ => rfl)) pa_nil))))) pe_int (by exact fun _ _ => rfl)) (pe_callN C_law_due_kin (hr.mono (by decide)) (by rfl) (pa_cons pe_str pa_nil)) (nomark _))
 (pss_one (ps_ret pe_bl))
 pss_nil)))))))))))))))))))
 (pss_join (ps_if (pt_cmpR (op_eqK K hu) (pe_op op_mod (pe_ix (ix_K K) (pe_callN C_law_draws (hr.mono (by decide)) (by rfl) (pa_cons (pe_callN C_law_cell_at (hr.mono (by decide)) (by rfl) (pa_cons (pv 0) (pa_cons pe_int pa_nil))) (pa_cons pe_int (pa_cons pe_int pa_nil)))) pe_int (by exact fun _ _ => rfl)) pe_int) pe_int (nomark _))
 (pss_cons (ps_if (pt_cmpR (op_neK K hu) (pe_callN C_law_told (hr.mono (by decide)) (by rfl) (pa_cons pe_int (pa_cons (pe_tup (pa_cons (pe_lst (pa_cons pe_int pa_nil)) (pa_cons pe_int (pa_cons (pe_lst (pa_cons pe_int pa_nil)) pa_nil)))) (pa_cons pe_int (pa_cons pe_int pa_nil))))) (pe_tup (pa_cons (by exact pe_comp (N := ["k"]) (fr := [none]) ⟨by rfl, by decide +kernel, by decide +kernel, (show ∀ y ∈ (_ : List (Str × NameKind)), y.2 = NameKind.free → (defScope s_law).names.lookup y.1 = some .cell ∨ (defScope s_law).names.lookup y.1 = some .free by decide +kernel), (fr_none fr_nil)⟩ (by rfl) (pi_range1 (by rfl) T.z_range (pa_cons pe_int pa_nil)) (fun _ _ _ _ => (pg_name (i := 0) (show List.Nodup (["k"] : List Str) by decide) (by rfl) (by first | exact Or.inl rfl | exact Or.inr rfl))) (fun _ _ _ _ => pifs_nil) (fun _ _ _ _ => (pe_tup (pa_cons (pv 0) (pa_cons (pe_tup (pa_cons (pv 0) pa_nil)) pa_nil)))) (gw_name (by rfl))) (pa_cons (pe_lst pa_nil) pa_nil))) (nomark _))
 (pss_one (ps_ret pe_bl))
 pss_nil)
 (pss_one (ps_if (pt_cmpR (op_neK K hu) (pe_ix (ix_K K) (pe_callN C_law_told (hr.mono (by decide)) (by rfl) (pa_cons pe_int (pa_cons (pe_tup (pa_cons (pe_lst (pa_cons pe_int pa_nil)) (pa_cons pe_int (pa_cons (pe_lst (pa_cons pe_int pa_nil)) pa_nil)))) (pa_cons pe_int (pa_cons pe_int pa_nil))))) pe_int (by exact fun _ _ => rfl)) (pe_callN C_law_due_kin (hr.mono (by decide)) (by rfl) (pa_cons pe_str pa_nil)) (nomark _))
 (pss_one (ps_ret pe_bl))
 pss_nil)))
 pss_nil)
 (pss_cons (ps_set (i := 16) sc_law.nd rfl (Or.inl rfl) (pe_callN C_law_a_train (hr.mono (by decide)) (by rfl) (pa_cons (pv 0) pa_nil)))
 (pss_cons (ps_set (i := 17) sc_law.nd rfl (Or.inl rfl) (pe_op op_addP (pe_op op_mulP pe_int (pe_callB (call_sumK K) (by rfl) T.z_sum bt_sum (pa_cons (pe_ix (ix_K K) (pv 16) pe_int (by exact fun _ _ => rfl)) pa_nil))) pe_int))
 (pss_cons (ps_set (i := 3) sc_law.nd rfl (Or.inl rfl) (pe_callN C_law_draws (hr.mono (by decide)) (by rfl) (pa_cons (pe_callN C_law_cell_at (hr.mono (by decide)) (by rfl) (pa_cons (pv 0) (pa_cons pe_int pa_nil))) (pa_cons pe_int (pa_cons (pe_powK (r := 1000000000) (by decide)) pa_nil)))))
 (pss_cons (ps_set (i := 4) sc_law.nd rfl (Or.inl rfl) (pe_op op_sub (pe_ix (ix_K K) (pv 16) pe_int (by exact fun _ _ => rfl)) (pe_op op_mod (pe_op op_mulP (pe_ix (ix_K K) (pv 3) pe_int (by exact fun _ _ => rfl)) (pe_powK (r := 10000000000000) (by decide))) (pv 17))))
 (pss_cons (ps_set (i := 5) sc_law.nd rfl (Or.inl rfl) (pe_op op_addP (pe_ix (ix_K K) (pv 16) pe_int (by exact fun _ _ => rfl)) (pe_op op_mod (pe_op op_mulP (pe_ix (ix_K K) (pv 3) pe_int (by exact fun _ _ => rfl)) (pe_powK (r := 10000000000000) (by decide))) (pv 17))))
 (pss_one (ps_ret (pe_cmpR (op_eqK K hu) (pe_callN C_law_told (hr.mono (by decide)) (by rfl) (pa_cons pe_int (pa_cons (pv 16) (pa_cons (pv 4) (pa_cons (pv 5) pa_nil))))) (pe_tup (pa_cons (pe_callN C_law_by_depths (hr.mono (by decide)) (by rfl) (pa_cons (pv 16) (pa_cons (pv 4) (pa_cons (pv 5) pa_nil)))) (pa_cons (pe_lst pa_nil) pa_nil))) (nomark _)))))))))))), ?_⟩
  walk_at "un"
  try clear hu
  walk_at "s"
  refine ⟨a, ns, rfl, hS, fun t0 lp lw ps ws hd H1 sH1 e0 p1 w1 hT hSt hd1 hd2 => ?_⟩
  walk_at "s"
  refine ⟨a, ns, 3, rfl, sH1.seq hS, by decide, fun c2 => ?_⟩
  walk_at "s"
  intro g2 hg2
  walk_at "s"
  refine i_slMid ((same_upd hg2).seq (sH1.seq hS)) (by decide) (by decide) (fun g3 hg3 => ?_)
  generalize hcs : (ns.drop (4 : Int).toNat).take ((8 : Int).toNat - (4 : Int).toNat) = cs at *
  have hcl : cs.length ≤ 4 := by rw [← hcs, List.length_take]; exact Nat.min_le_left _ _
  refine i_addL (a := g2) (b := g3) (xs := [.int c2]) (ys := iL cs) (same_upd hg3 _ _ upd_same) upd_same (szl (by simp [iL]; lia)) (fun lc hlc => ?_)
  have s4 : Same H1 _ := (same_upd (o := .lst [.int c2]) hg2).trans ((same_upd (o := .lst (iL cs)) hg3).trans (same_upd (o := .lst ([.int c2] ++ iL cs)) hlc))
  have e4 : upd (upd (upd H1 g2 (.lst [.int c2])) g3 (.lst (iL cs))) lc (.lst ([.int c2] ++ iL cs)) lc = some (.lst (iL (c2 :: cs))) := by rw [upd_same]; rfl
  generalize upd (upd (upd H1 g2 (.lst [.int c2])) g3 (.lst (iL cs))) lc (.lst ([.int c2] ++ iL cs)) = H4 at *
  replace e0 := s4 _ _ e0
  replace p1 := s4 _ _ p1
  replace w1 := s4 _ _ w1
  have sH4 := sH1.trans s4
  clear s4 hg2 hg3 hlc sH1
  walk_at "s"
  refine ⟨⟨_, SqL.of e4⟩, lp_ints (ns := c2 :: cs) (fun i σ H5 => ∃ (u2 u3 u4 u5 u6 u7 u8 u9 u10 u11 u12 u13 u14 u15 u16 u17 : Option V), σ = [some (.ref a), some (.ref t0), u2, u3, u4, u5, u6, u7, u8, u9, u10, u11, u12, u13, u14, u15, u16, u17] ∧ Same H4 H5) ?_ ?_ ?_ ?_⟩
  ·exact ⟨_, _, _, _, _, _, _, _, _, _, _, _, _, _, _, _, rfl, Same.refl _⟩
  ·rintro i σ H5 _ ⟨u2, u3, u4, u5, u6, u7, u8, u9, u10, u11, u12, u13, u14, u15, u16, u17, rfl, sm⟩
   exact SqL.of (sm _ _ e4)
  ·rintro i cell σ H5 hx ⟨u2, u3, u4, u5, u6, u7, u8, u9, u10, u11, u12, u13, u14, u15, u16, u17, rfl, sm⟩
   walk_at "s"
   refine ⟨cell, 4, 1000, rfl, by decide, by decide, by decide, by decide, fun lq H6 pk N6 l6 b6 => ?_⟩
   have sm6 := sm.trans N6.sm
   have q6 := N6.at_
   clear N6 sm
   walk_at "s"
   refine i_ixT (SqT.of (sm6 _ _ e0)) (by decide) rfl ?_
   walk_at "s"
   have it : ∀ {Q' : VK} {H' : Hp} {j : Int}, Same H6 H' → 0 ≤ j → j < 4 → (∀ v, Q' (.int v) H') → rIxP K (.ref lq) (.int j) H' Q' := fun e h0 h1 q => i_ixL (SqL.of (e _ _ q6)) h0 (by lia) fun v _ m => q v
   refine it (Same.refl _) (by lia) (by lia) (fun v0 => ?_)
   walk_at "s"
   refine it (Same.refl _) (by lia) (by lia) (fun v2 => ?_)
   walk_at "s"
   have r1 := Int.emod_nonneg v2 (show (9 : Int) ≠ 0 by decide)
   have r2 := Int.emod_lt_of_pos v2 (show (0 : Int) < 9 by decide)
   refine i_menu3 (by lia) (by lia) (fun w0 hw0 => ?_)
   have hw0' : 4 ≤ w0 ∧ w0 ≤ 300 := by lia
   clear hw0
   walk_at "s"
   have r3 := Int.emod_nonneg v0 (show w0 ≠ 0 by lia)
   have r4 := Int.emod_lt_of_pos v0 (show 0 < w0 by lia)
   generalize hlo : hd - v0 % w0 = lo at *
   have hlo2 : hd - 300 ≤ lo ∧ lo ≤ hd := by lia
   clear hlo r3 r4 hw0'
   refine ⟨fun σ H7 => ∃ hi : Int, σ = [some (.ref a), some (.ref t0), some (.int cell), some (.ref lq), some (.int lo), some (.int hi), u6, u7, u8, u9, u10, u11, u12, u13, u14, u15, u16, u17] ∧ H6 = H7 ∧ hd ≤ hi ∧ hi ≤ hd + 300, ?_, ?_⟩
   ·walk_at "s"
    refine i_ixT (SqT.of (sm6 _ _ e0)) (by decide) rfl ?_
    walk_at "s"
    refine it (Same.refl _) (by lia) (by lia) (fun v1 => ?_)
    walk_at "s"
    refine it (Same.refl _) (by lia) (by lia) (fun v2 => ?_)
    walk_at "s"
    have r1 := Int.emod_nonneg v2 (show (9 : Int) ≠ 0 by decide)
    have r2 := Int.emod_lt_of_pos v2 (show (0 : Int) < 9 by decide)
    refine i_menu3 (by lia) (by lia) (fun w0 hw0 => ?_)
    have hw0' : 4 ≤ w0 ∧ w0 ≤ 300 := by lia
    clear hw0
    walk_at "s"
    have r3 := Int.emod_nonneg v1 (show w0 ≠ 0 by lia)
    have r4 := Int.emod_lt_of_pos v1 (show 0 < w0 by lia)
    exact ⟨rfl, by lia, by lia⟩
   rintro σ H7 ⟨hi, rfl, rfl, hh1, hh2⟩
   clear r1 r2 it q6
   walk_at "s"
   refine ⟨t0, lp, lw, ps, ws, hd, lo, hi, rfl, sm6 _ _ e0, sm6 _ _ p1, sm6 _ _ w1, hT, hSt, hlo2.2, hh1, by lia, by lia, by lia, fun v7 H7 s7 D7 => ?_⟩
   have sm7 := sm6.trans s7
   clear s7
   walk_at "s"
   refine ⟨t0, lp, lw, ps, ws, hd, lo, hi, 1, rfl, sm7 _ _ e0, sm7 _ _ p1, sm7 _ _ w1, hT, hSt, fun t8 v8 lk8 bs8 H8 s8 e8 k8 T8 => ?_⟩
   have sm8 := sm7.trans s8
   have D8 := D7.more s8
   clear s8 D7
   walk_at "s"
   refine ⟨_, _, rfl, SqT.of e8, rfl, _, _, rfl, _, _, rfl, rfl, ?_⟩
   walk_at "s"
   refine ⟨t0, lp, lw, ps, ws, hd, lo, hi, 0, rfl, sm8 _ _ e0, sm8 _ _ p1, sm8 _ _ w1, hT, hSt, fun t9 v9 lk9 bs9 H9 s9 e9 k9 T9 => ?_⟩
   have sm9 := sm8.trans s9
   have D9 := D8.more s9
   replace T8 := T8.more s9
   replace k8 := s9 _ _ k8
   clear s9 D8 e8 sm6 sm7 sm8
   obtain ⟨rfl, lr, tr, rfl, er, pr⟩ : bs9 = [] ∧ ∃ l ts, v9 = .ref l ∧ H9 l = some (.lst (ts.map V.ref)) ∧ PrAll H9 ts (rngs lo hi ps ws) := by
    rcases T9 with ⟨_, _, _, z1, z2⟩ | ⟨_, _, z, _⟩ | ⟨_, _, z, _⟩ | ⟨z, _⟩
    ·exact ⟨z1, z2⟩
    ·exact absurd rfl z
    ·exact absurd rfl z
    ·exact absurd ⟨hlo2.2, hh1⟩ z
   clear T9
   walk_at "s"
   refine ⟨_, _, rfl, SqT.of e9, rfl, _, _, rfl, _, _, rfl, rfl, ?_⟩
   refine ⟨fun σ H10 => σ = [some (.ref a), some (.ref t0), some (.int cell), some (.ref lq), some (.int lo), some (.int hi), some v7, some v8, some (.ref lk8), some (.ref lr), some (.ref lk9), u11, u12, u13, u14, u15, u16, u17] ∧ Same H9 H10, ?_, ?_⟩
   ·walk_at "s"
    intro z10 hz10
    refine i_neSame (.list []) (pd_bls (bs := []) (same_upd hz10 _ _ k9)) (pd_bls (bs := []) upd_same) ?_
    walk_at "s"
    refine i_isiLL (same_upd hz10 _ _ er) ?_
    walk_at "s"
    exact ⟨rfl, same_upd hz10⟩
   rintro σ H10 ⟨rfl, s10⟩
   have sm10 := sm9.trans s10
   have D10 := D9.more s10
   replace T8 := T8.more s10
   replace k8 := s10 _ _ k8
   replace er := s10 _ _ er
   replace pr := pr.more s10
   clear sm9 D9 e9 k9 s10
   walk_at "s"
   refine ⟨t0, lp, lw, ps, ws, hd, lo, hi, rfl, sm10 _ _ e0, sm10 _ _ p1, sm10 _ _ w1, hT.2.1, fun l11 ts11 H11 s11 e11 pa11 => ?_⟩
   have sm11 := sm10.trans s11
   have D11 := D10.more s11
   replace T8 := T8.more s11
   replace k8 := s11 _ _ k8
   replace er := s11 _ _ er
   replace pr := pr.more s11
   clear sm10 D10 s11
   walk_at "s"
   refine i_neSame (.list ((rngs lo hi ps ws).map pdPr)) (pd_prs er pr) (pd_prs e11 pa11) ?_
   clear e11 pa11
   walk_at "s"
   rcases D11 with ⟨rfl, hmn⟩ | ⟨l7, ts7, ms, rfl, e7, sa7, al⟩
   ·obtain rfl : bs8 = dueX "TooMany" := by
     rcases T8 with ⟨_, _, z, _⟩ | ⟨_, _, _, _, _, _, _, _, _, _, z⟩ | ⟨_, _, _, _, z, _⟩ | ⟨z, _⟩
     ·exact absurd z (by decide)
     ·exact (many_all hmn z).elim
     ·exact z
     ·exact absurd ⟨hlo2.2, hh1⟩ z
    refine ⟨rfl, _, rfl, ifT (by simp) ?_⟩
    walk_at "s"
    refine ⟨_, rfl, by decide +kernel, fun l12 H12 s12 e12 => ?_⟩
    walk_at "s"
    refine i_neSame (.list ((dueX "TooMany").map PyData.bool)) (pd_bls (s12 _ _ k8)) (pd_bls e12) ?_
    walk_at "s"
    dsimp only [tCont]
    exact ⟨_, _, _, _, _, _, _, _, _, _, _, _, _, _, _, _, rfl, sm11.trans s12⟩
   refine ⟨rfl, _, rfl, ifF (by simp) ?_⟩
   obtain ⟨rfl, l8, ts8, rfl, e8, sa8⟩ : bs8 = [] ∧ ∃ l ts, v8 = .ref l ∧ H11 l = some (.lst (ts.map V.ref)) ∧ StAll H11 ts ms := by
    rcases T8 with ⟨_, _, z, _⟩ | ⟨_, _, _, z, l, ts, ms2, z1, z2, z3, z4⟩ | ⟨_, _, _, _, _, z⟩ | ⟨z, _⟩
    ·exact absurd z (by decide)
    ·rw [all_all al z4]
     exact ⟨z, l, ts, z1, z2, z3⟩
    ·exact (many_all z al).elim
    ·exact absurd ⟨hlo2.2, hh1⟩ z
   clear T8
   refine ⟨fun σ H12 => σ = [some (.ref a), some (.ref t0), some (.int cell), some (.ref lq), some (.int lo), some (.int hi), some (.ref l7), some (.ref l8), some (.ref lk8), some (.ref lr), some (.ref lk9), u11, u12, u13, u14, u15, u16, u17] ∧ Same H11 H12, ?_, ?_⟩
   ·walk_at "s"
    intro z12 hz12
    have s12 := same_upd (o := .lst []) hz12
    refine i_neSame (.list []) (pd_bls (bs := []) (s12 _ _ k8)) (pd_bls (bs := []) upd_same) ?_
    walk_at "s"
    refine i_isiLL (s12 _ _ e8) ?_
    walk_at "s"
    refine i_neSame (.list (ms.map pdSt)) (pd_sts (s12 _ _ e8) (sa8.more s12)) (pd_sts (s12 _ _ e7) (sa7.more s12)) ?_
    walk_at "s"
    exact ⟨rfl, s12⟩
   rintro σ H12 ⟨rfl, s12⟩
   have sm12 := sm11.trans s12
   replace e7 := s12 _ _ e7
   replace sa7 := sa7.more s12
   replace er := s12 _ _ er
   replace pr := pr.more s12
   clear s12 sm11 k8 e8 sa8
   walk_at "s"
   refine i_ixT (SqT.of (sm12 _ _ e0)) (by decide) rfl ?_
   walk_at "s"
   refine i_lenI (SqL.of (sm12 _ _ p1)) ?_
   have hp1 := hT.1
   have hp2 := hT.2.1
   walk_at "s"
   refine ⟨by lia, by lia, lp_range (fun i σ H13 => ∃ (u11 u12 : Option V), σ = [some (.ref a), some (.ref t0), some (.int cell), some (.ref lq), some (.int lo), some (.int hi), some (.ref l7), some (.ref l8), some (.ref lk8), some (.ref lr), some (.ref lk9), u11, u12, u13, u14, u15, u16, u17] ∧ Same H12 H13) ?_ ?_ ?_⟩
   ·exact ⟨_, _, rfl, Same.refl _⟩
   ·rintro kk σ H13 hkk ⟨u11, u12, rfl, s13⟩
    replace hkk : kk < ps.length := by lia
    have sm13 := sm12.trans s13
    obtain ⟨d, wk, _, _, hrk⟩ := rngs_get (lo := lo) (hi := hi) hT hSt hkk
    generalize (min wk (lo + d), max wk (hi - d)) = rk at hrk
    obtain ⟨hcol, _⟩ := col_all hT hSt hlo2.2 hh1 al hkk hrk
    have hml := al.2.2.2
    have hts := sa7.len
    walk_at "s"
    refine ⟨⟨_, SqL.of (s13 _ _ e7)⟩, cp_list (xs := ts7.map V.ref) (fun i ys H14 => ys = iL (colOf kk (ms.take i)) ∧ H13 = H14) ⟨rfl, rfl⟩ ?_ (szlt (by simp; lia)) ?_ ?_⟩
    ·rintro i ys H14 ⟨rfl, rfl⟩
     exact ⟨SqL.of (s13 _ _ e7), by simp [iL, colOf]; lia⟩
    ·rintro i x ys H14 hx ⟨rfl, rfl⟩
     rw [List.getElem?_map] at hx
     obtain ⟨tx, htx, rfl⟩ := Option.map_eq_some_iff.mp hx
     obtain ⟨q, hq, sq⟩ := (sa7.more s13).get htx
     obtain ⟨bq, eq1, eq2⟩ := sq
     obtain ⟨y, hy, _⟩ := hcol q (List.mem_of_getElem? hq)
     walk_at "s"
     refine i_ixT (SqT.of eq1) (by decide) rfl ?_
     walk_at "s"
     refine i_ixT (SqT.of eq2) (by lia) (v := .int y) (by rw [List.getElem?_map, show (0 + (kk : Int)).toNat = kk by lia, hy]; rfl) ?_
     walk_at "s"
     refine ⟨?_, rfl⟩
     rw [take_snoc_get hq]
     simp [iL, colOf, hy]
    rintro lpl ys H14 ⟨rfl, rfl⟩ hlpl
    rw [show (ts7.map V.ref).length = ms.length by simp [hts], List.take_of_length_le (Nat.le_refl _)]
    have s14 : Same H13 _ := same_upd (o := .lst (iL (colOf kk ms))) hlpl
    have e14 : upd H13 lpl (.lst (iL (colOf kk ms))) lpl = some (.lst (iL (colOf kk ms))) := upd_same
    generalize upd H13 lpl (.lst (iL (colOf kk ms))) = H14 at *
    have S14 := s13.trans s14
    have hc1 : 0 < (colOf kk ms).length := by
     have := (col_all hT hSt hlo2.2 hh1 al hkk hrk).2.1
     exact List.length_pos_of_mem this
    obtain ⟨tk, htk, ek⟩ := (pr.more S14).get hrk
    have hkt : (0 + (kk : Int)).toNat = kk := by lia
    walk_at "s"
    refine i_ixN (SqL.of (S14 _ _ er)) (by lia) (v := .ref tk) (by rw [List.getElem?_map, hkt, htk]; rfl) ?_
    walk_at "s"
    refine i_minL (SqL.of e14) hc1 (fun m1 hm1 hm2 => ?_)
    obtain rfl := col_min hT hSt hlo2.2 hh1 al hkk hrk hm1 hm2
    walk_at "s"
    refine i_maxL (SqL.of e14) hc1 (fun m3 hm3 hm4 => ?_)
    obtain rfl := col_max hT hSt hlo2.2 hh1 al hkk hrk hm3 hm4
    walk_at "s"
    intro t15 h15
    have s15 : Same H14 _ := same_upd (o := .tup [.int rk.1, .int rk.2]) h15
    refine i_neSame (pdPr rk) (pd_tup (SqT.of (s15 _ _ ek)) (.cons pd_int (.cons pd_int .nil))) (pd_tup (SqT.of upd_same) (.cons pd_int (.cons pd_int .nil))) ?_
    walk_at "s"
    refine i_ixN (SqL.of (s15 _ _ (S14 _ _ er))) (by lia) (v := .ref tk) (by rw [List.getElem?_map, hkt, htk]; rfl) ?_
    walk_at "s"
    refine i_ixT (SqT.of (s15 _ _ ek)) (by decide) rfl ?_
    walk_at "s"
    refine ⟨_, rfl, ?_⟩
    walk_at "s"
    exact ⟨_, _, rfl, S14.trans s15⟩
   ·rintro σ H13 ⟨u11, u12, rfl, s13⟩
    have sm13 := sm12.trans s13
    clear s13 sm12 er pr e7 sa7
    walk_at "s"
    refine i_ixT (SqT.of (sm13 _ _ e0)) (by decide) rfl ?_
    walk_at "s"
    intro o1 ho1
    have x1 : Same H13 _ := same_upd (o := .tup [.int (hd + 1), .int (hi + 3)]) ho1
    have y1 : upd H13 o1 (.tup [.int (hd + 1), .int (hi + 3)]) o1 = some (.tup [.int (hd + 1), .int (hi + 3)]) := upd_same
    generalize upd H13 o1 (.tup [.int (hd + 1), .int (hi + 3)]) = H14 at *
    walk_at "s"
    intro o2 ho2
    have x2 : Same H14 _ := same_upd (o := .tup [.int (lo - 3), .int (hd - 1)]) ho2
    have y2 : upd H14 o2 (.tup [.int (lo - 3), .int (hd - 1)]) o2 = some (.tup [.int (lo - 3), .int (hd - 1)]) := upd_same
    generalize upd H14 o2 (.tup [.int (lo - 3), .int (hd - 1)]) = H15 at *
    walk_at "s"
    intro o3 ho3
    have x3 : Same H15 _ := same_upd (o := .tup [.int (hd + 1), .int (hd - 1)]) ho3
    have y3 : upd H15 o3 (.tup [.int (hd + 1), .int (hd - 1)]) o3 = some (.tup [.int (hd + 1), .int (hd - 1)]) := upd_same
    generalize upd H15 o3 (.tup [.int (hd + 1), .int (hd - 1)]) = H16 at *
    walk_at "s"
    intro o4 ho4
    have x4 : Same H16 _ := same_upd (o := .tup [.ref o1, .ref o2, .ref o3]) ho4
    have y4 : upd H16 o4 (.tup [.ref o1, .ref o2, .ref o3]) o4 = some (.tup [.ref o1, .ref o2, .ref o3]) := upd_same
    generalize upd H16 o4 (.tup [.ref o1, .ref o2, .ref o3]) = H17 at *
    replace y1 := x4 _ _ (x3 _ _ (x2 _ _ y1))
    replace y2 := x4 _ _ (x3 _ _ y2)
    replace y3 := x4 _ _ y3
    have sm17 := sm13.trans (x1.trans (x2.trans (x3.trans x4)))
    clear x1 x2 x3 x4 ho1 ho2 ho3 ho4 sm13
    refine ⟨_, rfl, ⟨_, SqT.of y4⟩, lp_tup (xs := [.ref o1, .ref o2, .ref o3]) (fun i σ H18 => ∃ (u14 u15 : Option V), σ = [some (.ref a), some (.ref t0), some (.int cell), some (.ref lq), some (.int lo), some (.int hi), some (.ref l7), some (.ref l8), some (.ref lk8), some (.ref lr), some (.ref lk9), u11, u12, some (.int hd), u14, u15, u16, u17] ∧ Same H17 H18) ?_ ?_ ?_ ?_⟩
    ·exact ⟨_, _, rfl, Same.refl _⟩
    ·rintro i σ H18 _ ⟨u14, u15, rfl, s18⟩
     exact SqT.of (s18 _ _ y4)
    ·rintro i x σ H18 hx ⟨u14, u15, rfl, s18⟩
     obtain ⟨q, lo2, hi2, rfl, eq, hbad⟩ : ∃ (q : Addr) (lo2 hi2 : Int), x = .ref q ∧ H17 q = some (.tup [.int lo2, .int hi2]) ∧ ¬ (lo2 ≤ hd ∧ hd ≤ hi2) := by
      match i, hx with
      | 0, hx => exact ⟨o1, _, _, by simpa using hx.symm, y1, by lia⟩
      | 1, hx => exact ⟨o2, _, _, by simpa using hx.symm, y2, by lia⟩
      | 2, hx => exact ⟨o3, _, _, by simpa using hx.symm, y3, by lia⟩
      | i + 3, hx => simp at hx
     walk_at "s"
     refine ⟨by lia, by lia, lp_range (fun j σ H19 => ∃ (u15 : Option V), σ = [some (.ref a), some (.ref t0), some (.int cell), some (.ref lq), some (.int lo), some (.int hi), some (.ref l7), some (.ref l8), some (.ref lk8), some (.ref lr), some (.ref lk9), u11, u12, some (.int hd), some (.ref q), u15, u16, u17] ∧ Same H17 H19) ?_ ?_ ?_⟩
     ·exact ⟨_, rfl, s18⟩
     ·rintro j σ H19 hj ⟨u15, rfl, s19⟩
      have sm19 := sm17.trans s19
      walk_at "s"
      refine i_ixT (SqT.of (s19 _ _ eq)) (by decide) rfl ?_
      walk_at "s"
      refine i_ixT (SqT.of (s19 _ _ eq)) (by decide) rfl ?_
      walk_at "s"
      refine ⟨t0, lp, lw, ps, ws, hd, lo2, hi2, _, rfl, sm19 _ _ e0, sm19 _ _ p1, sm19 _ _ w1, hT, hSt, fun t20 v20 lk20 bs20 H20 s20 e20 k20 T20 => ?_⟩
      obtain rfl : bs20 = dueX "NoStand" := by
       rcases T20 with ⟨z1, z2, _⟩ | ⟨z1, z2, _⟩ | ⟨z1, z2, _⟩ | ⟨_, _, z⟩
       ·exact absurd ⟨z1, z2⟩ hbad
       ·exact absurd ⟨z1, z2⟩ hbad
       ·exact absurd ⟨z1, z2⟩ hbad
       ·exact z
      walk_at "s"
      refine i_ixT (SqT.of e20) (by decide) rfl ?_
      walk_at "s"
      refine ⟨_, rfl, by decide +kernel, fun l21 H21 s21 e21 => ?_⟩
      walk_at "s"
      refine i_neSame (.list ((dueX "NoStand").map PyData.bool)) (pd_bls (s21 _ _ k20)) (pd_bls e21) ?_
      walk_at "s"
      exact s19.trans (s20.trans s21)
     ·rintro σ H19 ⟨u15, rfl, s19⟩
      exact ⟨_, _, rfl, s19⟩
    ·rintro σ H18 ⟨u14, u15, rfl, s18⟩
     exact ⟨_, _, _, _, _, _, _, _, _, _, _, _, _, _, _, _, rfl, sm17.trans s18⟩
  ·rintro σ H5 ⟨u2, u3, u4, u5, u6, u7, u8, u9, u10, u11, u12, u13, u14, u15, u16, u17, rfl, sm⟩
   have sH5 := sH4.trans sm
   clear e0 p1 w1 e4 sm sH4
   walk_at "s"
   refine ⟨fun σ H6 => σ = [some (.ref a), some (.ref t0), u2, u3, u4, u5, u6, u7, u8, u9, u10, u11, u12, u13, u14, u15, u16, u17] ∧ Same H H6, ?_, ?_⟩
   ·walk_at "s"
    refine ⟨a, ns, 4, rfl, sH5.seq hS, by decide, fun c4 => ?_⟩
    walk_at "s"
    refine ⟨c4, 1, 1000, rfl, by decide, by decide, by decide, by decide, fun lq H6 pk N6 l6 b6 => ?_⟩
    walk_at "s"
    refine i_ixL (SqL.of N6.at_) (by lia) (by lia) (fun v0 _ m0 => ?_)
    have sH6 := sH5.trans N6.sm
    clear sH5 N6
    walk_at "s"
    walk_at "z19"
    ·walk_at "s"
     intro q1 hq1
     walk_at "s"
     intro q2 hq2
     walk_at "s"
     intro q3 hq3
     have s7 : Same H6 _ := (same_upd (o := .lst [.int 0]) hq1).trans ((same_upd (o := .lst [.int 0]) hq2).trans (same_upd (o := .tup [.ref q1, .int 0, .ref q2]) hq3))
     have t7 : upd (upd (upd H6 q1 (.lst [.int 0])) q2 (.lst [.int 0])) q3 (.tup [.ref q1, .int 0, .ref q2]) q3 = some (.tup [.ref q1, .int 0, .ref q2]) := upd_same
     have a7 : upd (upd (upd H6 q1 (.lst [.int 0])) q2 (.lst [.int 0])) q3 (.tup [.ref q1, .int 0, .ref q2]) q1 = some (.lst (iL [0])) := ((same_upd (o := .lst [.int 0]) hq2).trans (same_upd (o := .tup [.ref q1, .int 0, .ref q2]) hq3)) _ _ upd_same
     have b7 : upd (upd (upd H6 q1 (.lst [.int 0])) q2 (.lst [.int 0])) q3 (.tup [.ref q1, .int 0, .ref q2]) q2 = some (.lst (iL [0])) := same_upd (o := .tup [.ref q1, .int 0, .ref q2]) hq3 _ _ upd_same
     generalize upd (upd (upd H6 q1 (.lst [.int 0])) q2 (.lst [.int 0])) q3 (.tup [.ref q1, .int 0, .ref q2]) = H7 at *
     have sH7 := sH6.trans s7
     clear s7 hq1 hq2 hq3 sH6
     walk_at "s"
     refine ⟨q3, q1, q2, [0], [0], 0, 0, 499, 1, rfl, t7, a7, b7, tr0, st0, fun t8 v8 lk8 bs8 H8 s8 e8 k8 T8 => ?_⟩
     obtain ⟨rfl, l8, ts8, rfl, f8, sa8⟩ : bs8 = [] ∧ ∃ l ts, v8 = .ref l ∧ H8 l = some (.lst (ts.map V.ref)) ∧ StAll H8 ts (sts 500) := by
      rcases T8 with ⟨_, _, z, _⟩ | ⟨_, _, _, z, l, ts, ms2, z1, z2, z3, z4⟩ | ⟨_, _, _, _, _, z⟩ | ⟨z, _⟩
      ·exact absurd z (by decide)
      ·rw [all_all all0 z4]
       exact ⟨z, l, ts, z1, z2, z3⟩
      ·exact (many_all z all0).elim
      ·exact absurd ⟨by decide, by decide⟩ z
     have sH8 := sH7.trans s8
     clear T8 s8 sH7 t7 a7 b7
     walk_at "s"
     refine ⟨by decide, by decide, cp_range (fun i ys H9 => ∃ ts : List Addr, ys = ts.map V.ref ∧ Same H8 H9 ∧ StAll H9 ts (sts i)) ⟨[], rfl, Same.refl _, .nil⟩ ?_ (szlt (by decide)) ?_ ?_⟩
     ·rintro i ys H9 ⟨ts, rfl, _, sa⟩
      have := sa.len
      rw [sts_len] at this
      simp
      lia
     ·rintro i ys H9 hi9 ⟨ts, rfl, s9, sa⟩
      walk_at "s"
      intro r1 hr1
      walk_at "s"
      intro r2 hr2
      have s10 : Same H9 _ := (same_upd (o := .tup [.int (0 + (i : Int))]) hr1).trans (same_upd (o := .tup [.int (0 + (i : Int)), .ref r1]) hr2)
      refine ⟨ts ++ [r2], by simp, s9.trans s10, ?_⟩
      rw [show sts (i + 1) = sts i ++ [((i : Int), [(i : Int)])] by simp [sts, List.range_succ]]
      refine (sa.more s10).snoc ⟨r1, ?_, ?_⟩
      ·rw [upd_same]
       simp
      ·rw [same_upd hr2 _ _ upd_same]
       simp
     rintro l10 ys H9 ⟨ts, rfl, s9, sa⟩ hl10
     have s10 : Same H8 _ := s9.trans (same_upd (o := .lst (ts.map V.ref)) hl10)
     have sa10 := sa.more (same_upd (o := .lst (ts.map V.ref)) hl10)
     have e10 : upd H9 l10 (.lst (ts.map V.ref)) l10 = some (.lst (ts.map V.ref)) := upd_same
     generalize upd H9 l10 (.lst (ts.map V.ref)) = H10 at *
     replace sa10 : StAll H10 ts (sts 500) := sa10
     walk_at "s"
     intro r3 hr3
     walk_at "s"
     intro r4 hr4
     have s11 : Same H10 _ := (same_upd (o := .lst []) hr3).trans (same_upd (o := .tup [.ref l10, .ref r3]) hr4)
     have f11 : upd (upd H10 r3 (.lst [])) r4 (.tup [.ref l10, .ref r3]) r3 = some (.lst (bL [])) := same_upd hr4 _ _ upd_same
     have e11 : upd (upd H10 r3 (.lst [])) r4 (.tup [.ref l10, .ref r3]) r4 = some (.tup [.ref l10, .ref r3]) := upd_same
     generalize upd (upd H10 r3 (.lst [])) r4 (.tup [.ref l10, .ref r3]) = H11 at *
     have S11 := s10.trans s11
     refine i_neSame (.tuple [.list ((sts 500).map pdSt), .list (([] : List Bool).map PyData.bool)]) (pd_tup (SqT.of (S11 _ _ e8)) (.cons (pd_sts (S11 _ _ f8) (sa8.more S11)) (.cons (pd_bls (S11 _ _ k8)) .nil))) (pd_tup (SqT.of e11) (.cons (pd_sts (s11 _ _ e10) (sa10.more s11)) (.cons (pd_bls f11) .nil))) ?_
     have sH11 := sH8.trans S11
     clear s10 s11 S11 e8 f8 k8 sa8 e10 sa10 f11 e11 sa sH8 hl10 hr3 hr4 s9
     walk_at "s"
     intro q1 hq1
     walk_at "s"
     intro q2 hq2
     walk_at "s"
     intro q3 hq3
     have s7 : Same H11 _ := (same_upd (o := .lst [.int 0]) hq1).trans ((same_upd (o := .lst [.int 0]) hq2).trans (same_upd (o := .tup [.ref q1, .int 0, .ref q2]) hq3))
     have t7 : upd (upd (upd H11 q1 (.lst [.int 0])) q2 (.lst [.int 0])) q3 (.tup [.ref q1, .int 0, .ref q2]) q3 = some (.tup [.ref q1, .int 0, .ref q2]) := upd_same
     have a7 : upd (upd (upd H11 q1 (.lst [.int 0])) q2 (.lst [.int 0])) q3 (.tup [.ref q1, .int 0, .ref q2]) q1 = some (.lst (iL [0])) := ((same_upd (o := .lst [.int 0]) hq2).trans (same_upd (o := .tup [.ref q1, .int 0, .ref q2]) hq3)) _ _ upd_same
     have b7 : upd (upd (upd H11 q1 (.lst [.int 0])) q2 (.lst [.int 0])) q3 (.tup [.ref q1, .int 0, .ref q2]) q2 = some (.lst (iL [0])) := same_upd (o := .tup [.ref q1, .int 0, .ref q2]) hq3 _ _ upd_same
     generalize upd (upd (upd H11 q1 (.lst [.int 0])) q2 (.lst [.int 0])) q3 (.tup [.ref q1, .int 0, .ref q2]) = H12 at *
     walk_at "s"
     refine ⟨q3, q1, q2, [0], [0], 0, 0, 500, 1, rfl, t7, a7, b7, tr0, st0, fun t8 v8 lk8 bs8 H13 s13 e8 k8 T8 => ?_⟩
     obtain rfl : bs8 = dueX "TooMany" := by
      rcases T8 with ⟨_, _, z, _⟩ | ⟨_, _, _, _, _, _, _, _, _, _, z⟩ | ⟨_, _, _, _, z, _⟩ | ⟨z, _⟩
      ·exact absurd z (by decide)
      ·exact (many_all many0 z).elim
      ·exact z
      ·exact absurd ⟨by decide, by decide⟩ z
     walk_at "s"
     refine i_ixT (SqT.of e8) (by decide) rfl ?_
     walk_at "s"
     refine ⟨_, rfl, by decide +kernel, fun l14 H14 s14 e14 => ?_⟩
     walk_at "s"
     refine i_neSame (.list ((dueX "TooMany").map PyData.bool)) (pd_bls (s14 _ _ k8)) (pd_bls e14) ?_
     walk_at "s"
     exact ⟨rfl, sH11.trans (s7.trans (s13.trans s14))⟩
    ·walk_at "s"
     exact ⟨rfl, sH6⟩
   rintro σ H6 ⟨rfl, sH6⟩
   walk_at "s"
   refine ⟨a, ns, rfl, sH6.seq hS, fun t7 lp7 lw7 ps7 ws7 hd7 H7 ft7 N7 M7 npw e7 hT7 hSt7 => ?_⟩
   have sH7 := sH6.trans N7.sm
   have p7 := N7.at_
   have w7 := M7.at_
   clear N7 M7 ft7 npw sH6
   walk_at "s"
   refine i_ixT (SqT.of e7) (by decide) rfl ?_
   walk_at "s"
   refine i_sum (SqL.of p7) ?_
   have hsum := sum_nonneg hT7.2.2
   walk_at "s"
   refine i_mulI (cmul_l (by decide) (by decide)) ?_
   walk_at "s"
   refine ⟨a, ns, 3, rfl, sH7.seq hS, by decide, fun c3 => ?_⟩
   walk_at "s"
   refine ⟨c3, 2, 1000000000, rfl, by decide, by decide, by decide, by decide, fun lq H8 pk N8 l8 b8 => ?_⟩
   have s8 := N8.sm
   have q8 := N8.at_
   clear N8 sH7
   replace e7 := s8 _ _ e7
   replace p7 := s8 _ _ p7
   replace w7 := s8 _ _ w7
   walk_at "s"
   refine i_ixT (SqT.of e7) (by decide) rfl ?_
   walk_at "s"
   refine i_ixL (SqL.of q8) (by lia) (by lia) (fun v0 _ m0 => ?_)
   have z0 := b8 v0 m0
   walk_at "s"
   refine i_mulI (cmul_l (by lia) (by lia)) ?_
   walk_at "s"
   refine i_ixT (SqT.of e7) (by decide) rfl ?_
   walk_at "s"
   refine i_ixL (SqL.of q8) (by lia) (by lia) (fun v1 _ m1 => ?_)
   have z1 := b8 v1 m1
   walk_at "s"
   refine i_mulI (cmul_l (by lia) (by lia)) ?_
   walk_at "s"
   have n0 := Int.emod_nonneg (v0 * 10000000000000) (show 2 * ps7.sum + 3 ≠ 0 by lia)
   have n1 := Int.emod_nonneg (v1 * 10000000000000) (show 2 * ps7.sum + 3 ≠ 0 by lia)
   generalize v0 * 10000000000000 % (2 * ps7.sum + 3) = d0 at *
   generalize v1 * 10000000000000 % (2 * ps7.sum + 3) = d1 at *
   refine ⟨t7, lp7, lw7, ps7, ws7, hd7, _, _, 0, rfl, e7, p7, w7, hT7, hSt7, fun t9 v9 lk9 bs9 H9 s9 e9 k9 T9 => ?_⟩
   obtain ⟨rfl, lr, tr, rfl, er, pr⟩ : bs9 = [] ∧ ∃ l ts, v9 = .ref l ∧ H9 l = some (.lst (ts.map V.ref)) ∧ PrAll H9 ts (rngs (hd7 - d0) (hd7 + d1) ps7 ws7) := by
    rcases T9 with ⟨_, _, _, z1, z2⟩ | ⟨_, _, z, _⟩ | ⟨_, _, z, _⟩ | ⟨z, _⟩
    ·exact ⟨z1, z2⟩
    ·exact absurd rfl z
    ·exact absurd rfl z
    ·exact absurd ⟨by lia, by lia⟩ z
   walk_at "s"
   refine ⟨t7, lp7, lw7, ps7, ws7, hd7, _, _, rfl, s9 _ _ e7, s9 _ _ p7, s9 _ _ w7, hT7.2.1, fun l11 ts11 H11 s11 e11 pa11 => ?_⟩
   walk_at "s"
   intro r3 hr3
   walk_at "s"
   intro r4 hr4
   have s12 : Same H11 _ := (same_upd (o := .lst []) hr3).trans (same_upd (o := .tup [.ref l11, .ref r3]) hr4)
   have f12 : upd (upd H11 r3 (.lst [])) r4 (.tup [.ref l11, .ref r3]) r3 = some (.lst (bL [])) := same_upd hr4 _ _ upd_same
   have e12 : upd (upd H11 r3 (.lst [])) r4 (.tup [.ref l11, .ref r3]) r4 = some (.tup [.ref l11, .ref r3]) := upd_same
   generalize upd (upd H11 r3 (.lst [])) r4 (.tup [.ref l11, .ref r3]) = H12 at *
   have S12 := s11.trans s12
   refine i_eqSame (.tuple [.list ((rngs (hd7 - d0) (hd7 + d1) ps7 ws7).map pdPr), .list (([] : List Bool).map PyData.bool)]) (pd_tup (SqT.of (S12 _ _ e9)) (.cons (pd_prs (S12 _ _ er) (pr.more S12)) (.cons (pd_bls (S12 _ _ k9)) .nil))) (pd_tup (SqT.of e12) (.cons (pd_prs (s12 _ _ e11) (pa11.more s12)) (.cons (pd_bls f12) .nil))) ?_
   exact k _
end
theorem all_mk {l : PySem.W.OpenLaw} {w : World} {K : PySem.W.Frag} {h : Heap} {mg : Str → Option Value} {fa : Addr} (X : K.In h) (G : h.Ns mainGlobals mg) (hfa : mg "law" = some (.ref fa))
 {f0 : Addr} {o0 n0 : Option Addr} {s0 : Array (Option Value)} {q0 k0 d0 p0 e0 t0 : Value}
 {f1 : Addr} {o1 n1 : Option Addr} {s1 : Array (Option Value)} {q1 k1 d1 p1 e1 t1 : Value}
 {f2 : Addr} {o2 n2 : Option Addr} {s2 : Array (Option Value)} {q2 k2 d2 p2 e2 t2 : Value}
 {f3 : Addr} {o3 n3 : Option Addr} {s3 : Array (Option Value)} {q3 k3 d3 p3 e3 t3 : Value}
 {f4 : Addr} {o4 n4 : Option Addr} {s4 : Array (Option Value)} {q4 k4 d4 p4 e4 t4 : Value}
 {f5 : Addr} {o5 n5 : Option Addr} {s5 : Array (Option Value)} {q5 k5 d5 p5 e5 t5 : Value}
 {f6 : Addr} {o6 n6 : Option Addr} {s6 : Array (Option Value)} {q6 k6 d6 p6 e6 t6 : Value}
 {f7 : Addr} {o7 n7 : Option Addr} {s7 : Array (Option Value)} {q7 k7 d7 p7 e7 t7 : Value}
 {f8 : Addr} {o8 n8 : Option Addr} {s8 : Array (Option Value)} {q8 k8 d8 p8 e8 t8 : Value}
 {f9 : Addr} {o9 n9 : Option Addr} {s9 : Array (Option Value)} {q9 k9 d9 p9 e9 t9 : Value}
 {f10 : Addr} {o10 n10 : Option Addr} {s10 : Array (Option Value)} {q10 k10 d10 p10 e10 t10 : Value}
 {f11 : Addr} {o11 n11 : Option Addr} {s11 : Array (Option Value)} {q11 k11 d11 p11 e11 t11 : Value}
 {f12 : Addr} {o12 n12 : Option Addr} {s12 : Array (Option Value)} {q12 k12 d12 p12 e12 t12 : Value}
 {f13 : Addr} {o13 n13 : Option Addr} {s13 : Array (Option Value)} {q13 k13 d13 p13 e13 t13 : Value}
 {f14 : Addr} {o14 n14 : Option Addr} {s14 : Array (Option Value)} {q14 k14 d14 p14 e14 t14 : Value}
 {f15 : Addr} {o15 n15 : Option Addr} {s15 : Array (Option Value)} {q15 k15 d15 p15 e15 t15 : Value}
 {f16 : Addr} {o16 n16 : Option Addr} {s16 : Array (Option Value)} {q16 k16 d16 p16 e16 t16 : Value}
 {f17 : Addr} {o17 n17 : Option Addr} {s17 : Array (Option Value)} {q17 k17 d17 p17 e17 t17 : Value}
 {f18 : Addr} {o18 n18 : Option Addr} {s18 : Array (Option Value)} {q18 k18 d18 p18 e18 t18 : Value}
 {f19 : Addr} {o19 n19 : Option Addr} {s19 : Array (Option Value)} {q19 k19 d19 p19 e19 t19 : Value}
 {f20 : Addr} {o20 n20 : Option Addr} {s20 : Array (Option Value)} {q20 k20 d20 p20 e20 t20 : Value}
 {f21 : Addr} {o21 n21 : Option Addr} {s21 : Array (Option Value)} {q21 k21 d21 p21 e21 t21 : Value}
 {f22 : Addr} {o22 n22 : Option Addr} {s22 : Array (Option Value)} {q22 k22 d22 p22 e22 t22 : Value}
 {f23 : Addr} {o23 n23 : Option Addr} {s23 : Array (Option Value)} {q23 k23 d23 p23 e23 t23 : Value}
 {t_MOST_PLAYS : Tok}
 {t_MOST_STANDS : Tok}
 {c_TrainError : Addr}
 {c_NoTrain : Addr}
 {c_NoStand : Addr}
 {c_NoPaper : Addr}
 {c_NoBox : Addr}
 {c_NoSwitch : Addr}
 {c_NoPlace : Addr}
 {c_NoTable : Addr}
 {c_NoText : Addr}
 {c_NoRow : Addr}
 {c_NoPiece : Addr}
 {c_NothingLeft : Addr}
 {c_TooMany : Addr}
 (a0 : W.nsIn K mainGlobals "_law_cell_at" = some (some (.ref f0))) (l0 : K.lookup f0 = some ⟨q0, o0, .func (W.fnOf "_law_cell_at" "_law_cell_at" (defArgs s_law_cell_at) (defBody s_law_cell_at) (defScope s_law_cell_at) .none k0 d0 p0 n0 e0 t0), s0⟩) (c0 : W.codeIn K e0 "_law_cell_at" = true) (b0 : W.keepIn K (.ref f0) = true)
 (a1 : W.nsIn K mainGlobals "_law_draws" = some (some (.ref f1))) (l1 : K.lookup f1 = some ⟨q1, o1, .func (W.fnOf "_law_draws" "_law_draws" (defArgs s_law_draws) (defBody s_law_draws) (defScope s_law_draws) .none k1 d1 p1 n1 e1 t1), s1⟩) (c1 : W.codeIn K e1 "_law_draws" = true) (b1 : W.keepIn K (.ref f1) = true)
 (a2 : W.nsIn K mainGlobals "_law_a_kin" = some (some (.ref f2))) (l2 : K.lookup f2 = some ⟨q2, o2, .func (W.fnOf "_law_a_kin" "_law_a_kin" (defArgs s_law_a_kin) (defBody s_law_a_kin) (defScope s_law_a_kin) .none k2 d2 p2 n2 e2 t2), s2⟩) (c2 : W.codeIn K e2 "_law_a_kin" = true) (b2 : W.keepIn K (.ref f2) = true)
 (a3 : W.nsIn K mainGlobals "_law_due_kin" = some (some (.ref f3))) (l3 : K.lookup f3 = some ⟨q3, o3, .func (W.fnOf "_law_due_kin" "_law_due_kin" (defArgs s_law_due_kin) (defBody s_law_due_kin) (defScope s_law_due_kin) .none k3 d3 p3 n3 e3 t3), s3⟩) (c3 : W.codeIn K e3 "_law_due_kin" = true) (b3 : W.keepIn K (.ref f3) = true)
 (a4 : W.nsIn K mainGlobals "is_train" = some (some (.ref f4))) (l4 : K.lookup f4 = some ⟨q4, o4, .func (W.fnOf "is_train" "is_train" (defArgs s_is_train) (defBody s_is_train) (defScope s_is_train) .none k4 d4 p4 n4 e4 t4), s4⟩) (c4 : W.codeIn K e4 "is_train" = true) (b4 : W.keepIn K (.ref f4) = true)
 (a5 : W.nsIn K mainGlobals "keeps_plays" = some (some (.ref f5))) (l5 : K.lookup f5 = some ⟨q5, o5, .func (W.fnOf "keeps_plays" "keeps_plays" (defArgs s_keeps_plays) (defBody s_keeps_plays) (defScope s_keeps_plays) .none k5 d5 p5 n5 e5 t5), s5⟩) (c5 : W.codeIn K e5 "keeps_plays" = true) (b5 : W.keepIn K (.ref f5) = true)
 (a6 : W.nsIn K mainGlobals "dragged" = some (some (.ref f6))) (l6 : K.lookup f6 = some ⟨q6, o6, .func (W.fnOf "dragged" "dragged" (defArgs s_dragged) (defBody s_dragged) (defScope s_dragged) .none k6 d6 p6 n6 e6 t6), s6⟩) (c6 : W.codeIn K e6 "dragged" = true) (b6 : W.keepIn K (.ref f6) = true)
 (a7 : W.nsIn K mainGlobals "refuse_no_train" = some (some (.ref f7))) (l7 : K.lookup f7 = some ⟨q7, o7, .func (W.fnOf "refuse_no_train" "refuse_no_train" (defArgs s_refuse_no_train) (defBody s_refuse_no_train) (defScope s_refuse_no_train) .none k7 d7 p7 n7 e7 t7), s7⟩) (c7 : W.codeIn K e7 "refuse_no_train" = true) (b7 : W.keepIn K (.ref f7) = true)
 (a8 : W.nsIn K mainGlobals "is_stand" = some (some (.ref f8))) (l8 : K.lookup f8 = some ⟨q8, o8, .func (W.fnOf "is_stand" "is_stand" (defArgs s_is_stand) (defBody s_is_stand) (defScope s_is_stand) .none k8 d8 p8 n8 e8 t8), s8⟩) (c8 : W.codeIn K e8 "is_stand" = true) (b8 : W.keepIn K (.ref f8) = true)
 (a9 : W.nsIn K mainGlobals "depths_of" = some (some (.ref f9))) (l9 : K.lookup f9 = some ⟨q9, o9, .func (W.fnOf "depths_of" "depths_of" (defArgs s_depths_of) (defBody s_depths_of) (defScope s_depths_of) .none k9 d9 p9 n9 e9 t9), s9⟩) (c9 : W.codeIn K e9 "depths_of" = true) (b9 : W.keepIn K (.ref f9) = true)
 (a10 : W.nsIn K mainGlobals "refuse_no_stand" = some (some (.ref f10))) (l10 : K.lookup f10 = some ⟨q10, o10, .func (W.fnOf "refuse_no_stand" "refuse_no_stand" (defArgs s_refuse_no_stand) (defBody s_refuse_no_stand) (defScope s_refuse_no_stand) .none k10 d10 p10 n10 e10 t10), s10⟩) (c10 : W.codeIn K e10 "refuse_no_stand" = true) (b10 : W.keepIn K (.ref f10) = true)
 (a11 : W.nsIn K mainGlobals "all_dragged" = some (some (.ref f11))) (l11 : K.lookup f11 = some ⟨q11, o11, .func (W.fnOf "all_dragged" "all_dragged" (defArgs s_all_dragged) (defBody s_all_dragged) (defScope s_all_dragged) .none k11 d11 p11 n11 e11 t11), s11⟩) (c11 : W.codeIn K e11 "all_dragged" = true) (b11 : W.keepIn K (.ref f11) = true)
 (a12 : W.nsIn K mainGlobals "refuse_no_bounds" = some (some (.ref f12))) (l12 : K.lookup f12 = some ⟨q12, o12, .func (W.fnOf "refuse_no_bounds" "refuse_no_bounds" (defArgs s_refuse_no_bounds) (defBody s_refuse_no_bounds) (defScope s_refuse_no_bounds) .none k12 d12 p12 n12 e12 t12), s12⟩) (c12 : W.codeIn K e12 "refuse_no_bounds" = true) (b12 : W.keepIn K (.ref f12) = true)
 (a13 : W.nsIn K mainGlobals "stands_beside" = some (some (.ref f13))) (l13 : K.lookup f13 = some ⟨q13, o13, .func (W.fnOf "stands_beside" "stands_beside" (defArgs s_stands_beside) (defBody s_stands_beside) (defScope s_stands_beside) .none k13 d13 p13 n13 e13 t13), s13⟩) (c13 : W.codeIn K e13 "stands_beside" = true) (b13 : W.keepIn K (.ref f13) = true)
 (a14 : W.nsIn K mainGlobals "ranges_of" = some (some (.ref f14))) (l14 : K.lookup f14 = some ⟨q14, o14, .func (W.fnOf "ranges_of" "ranges_of" (defArgs s_ranges_of) (defBody s_ranges_of) (defScope s_ranges_of) .none k14 d14 p14 n14 e14 t14), s14⟩) (c14 : W.codeIn K e14 "ranges_of" = true) (b14 : W.keepIn K (.ref f14) = true)
 (a15 : W.nsIn K mainGlobals "stands_within" = some (some (.ref f15))) (l15 : K.lookup f15 = some ⟨q15, o15, .func (W.fnOf "stands_within" "stands_within" (defArgs s_stands_within) (defBody s_stands_within) (defScope s_stands_within) .none k15 d15 p15 n15 e15 t15), s15⟩) (c15 : W.codeIn K e15 "stands_within" = true) (b15 : W.keepIn K (.ref f15) = true)
 (a16 : W.nsIn K mainGlobals "_law_a_all" = some (some (.ref f16))) (l16 : K.lookup f16 = some ⟨q16, o16, .func (W.fnOf "_law_a_all" "_law_a_all" (defArgs s_law_a_all) (defBody s_law_a_all) (defScope s_law_a_all) .none k16 d16 p16 n16 e16 t16), s16⟩) (c16 : W.codeIn K e16 "_law_a_all" = true) (b16 : W.keepIn K (.ref f16) = true)
 (a17 : W.nsIn K mainGlobals "_law_by_depths" = some (some (.ref f17))) (l17 : K.lookup f17 = some ⟨q17, o17, .func (W.fnOf "_law_by_depths" "_law_by_depths" (defArgs s_law_by_depths) (defBody s_law_by_depths) (defScope s_law_by_depths) .none k17 d17 p17 n17 e17 t17), s17⟩) (c17 : W.codeIn K e17 "_law_by_depths" = true) (b17 : W.keepIn K (.ref f17) = true)
 (a18 : W.nsIn K mainGlobals "_law_told" = some (some (.ref f18))) (l18 : K.lookup f18 = some ⟨q18, o18, .func (W.fnOf "_law_told" "_law_told" (defArgs s_law_told) (defBody s_law_told) (defScope s_law_told) .none k18 d18 p18 n18 e18 t18), s18⟩) (c18 : W.codeIn K e18 "_law_told" = true) (b18 : W.keepIn K (.ref f18) = true)
 (a19 : W.nsIn K mainGlobals "_law_a_stands" = some (some (.ref f19))) (l19 : K.lookup f19 = some ⟨q19, o19, .func (W.fnOf "_law_a_stands" "_law_a_stands" (defArgs s_law_a_stands) (defBody s_law_a_stands) (defScope s_law_a_stands) .none k19 d19 p19 n19 e19 t19), s19⟩) (c19 : W.codeIn K e19 "_law_a_stands" = true) (b19 : W.keepIn K (.ref f19) = true)
 (a20 : W.nsIn K mainGlobals "_law_small" = some (some (.ref f20))) (l20 : K.lookup f20 = some ⟨q20, o20, .func (W.fnOf "_law_small" "_law_small" (defArgs s_law_small) (defBody s_law_small) (defScope s_law_small) .none k20 d20 p20 n20 e20 t20), s20⟩) (c20 : W.codeIn K e20 "_law_small" = true) (b20 : W.keepIn K (.ref f20) = true)
 (a21 : W.nsIn K mainGlobals "_law_whole" = some (some (.ref f21))) (l21 : K.lookup f21 = some ⟨q21, o21, .func (W.fnOf "_law_whole" "_law_whole" (defArgs s_law_whole) (defBody s_law_whole) (defScope s_law_whole) .none k21 d21 p21 n21 e21 t21), s21⟩) (c21 : W.codeIn K e21 "_law_whole" = true) (b21 : W.keepIn K (.ref f21) = true)
 (a22 : W.nsIn K mainGlobals "_law_a_train" = some (some (.ref f22))) (l22 : K.lookup f22 = some ⟨q22, o22, .func (W.fnOf "_law_a_train" "_law_a_train" (defArgs s_law_a_train) (defBody s_law_a_train) (defScope s_law_a_train) .none k22 d22 p22 n22 e22 t22), s22⟩) (c22 : W.codeIn K e22 "_law_a_train" = true) (b22 : W.keepIn K (.ref f22) = true)
 (a23 : W.nsIn K mainGlobals "law" = some (some (.ref f23))) (l23 : K.lookup f23 = some ⟨q23, o23, .func (W.fnOf "law" "law" (defArgs s_law) (defBody s_law) (defScope s_law) .none k23 d23 p23 n23 e23 t23), s23⟩) (c23 : W.codeIn K e23 "law" = true) (b23 : W.keepIn K (.ref f23) = true)
 (z_ValueError : PySem.W.nsIn K mainGlobals "ValueError" = some none)
 (z_abs : PySem.W.nsIn K mainGlobals "abs" = some none)
 (z_bool : PySem.W.nsIn K mainGlobals "bool" = some none)
 (z_enumerate : PySem.W.nsIn K mainGlobals "enumerate" = some none)
 (z_int : PySem.W.nsIn K mainGlobals "int" = some none)
 (z_isinstance : PySem.W.nsIn K mainGlobals "isinstance" = some none)
 (z_len : PySem.W.nsIn K mainGlobals "len" = some none)
 (z_list : PySem.W.nsIn K mainGlobals "list" = some none)
 (z_max : PySem.W.nsIn K mainGlobals "max" = some none)
 (z_min : PySem.W.nsIn K mainGlobals "min" = some none)
 (z_range : PySem.W.nsIn K mainGlobals "range" = some none)
 (z_sorted : PySem.W.nsIn K mainGlobals "sorted" = some none)
 (z_sum : PySem.W.nsIn K mainGlobals "sum" = some none)
 (z_tuple : PySem.W.nsIn K mainGlobals "tuple" = some none)
 (z_zip : PySem.W.nsIn K mainGlobals "zip" = some none)
 (g_MOST_PLAYS : PySem.W.nsIn K mainGlobals "MOST_PLAYS" = some (some (.int 12 t_MOST_PLAYS)))
 (g_MOST_STANDS : PySem.W.nsIn K mainGlobals "MOST_STANDS" = some (some (.int 500 t_MOST_STANDS)))
 (n_TrainError : PySem.W.nsIn K mainGlobals "TrainError" = some (some (.ref c_TrainError)))
 (n_NoTrain : PySem.W.nsIn K mainGlobals "NoTrain" = some (some (.ref c_NoTrain)))
 (n_NoStand : PySem.W.nsIn K mainGlobals "NoStand" = some (some (.ref c_NoStand)))
 (n_NoPaper : PySem.W.nsIn K mainGlobals "NoPaper" = some (some (.ref c_NoPaper)))
 (n_NoBox : PySem.W.nsIn K mainGlobals "NoBox" = some (some (.ref c_NoBox)))
 (n_NoSwitch : PySem.W.nsIn K mainGlobals "NoSwitch" = some (some (.ref c_NoSwitch)))
 (n_NoPlace : PySem.W.nsIn K mainGlobals "NoPlace" = some (some (.ref c_NoPlace)))
 (n_NoTable : PySem.W.nsIn K mainGlobals "NoTable" = some (some (.ref c_NoTable)))
 (n_NoText : PySem.W.nsIn K mainGlobals "NoText" = some (some (.ref c_NoText)))
 (n_NoRow : PySem.W.nsIn K mainGlobals "NoRow" = some (some (.ref c_NoRow)))
 (n_NoPiece : PySem.W.nsIn K mainGlobals "NoPiece" = some (some (.ref c_NoPiece)))
 (n_NothingLeft : PySem.W.nsIn K mainGlobals "NothingLeft" = some (some (.ref c_NothingLeft)))
 (n_TooMany : PySem.W.nsIn K mainGlobals "TooMany" = some (some (.ref c_TooMany)))
 (x_NoTrain : PySem.W.excIn K c_NoTrain [.type "ValueError", .type "Exception", .type "BaseException", .type "object"] "ValueError.__new__" = true)
 (e_NoTrain : PySem.W.exmOne K (.ref c_NoTrain) (.ref c_TrainError) = some true)
 (i_NoTrain_ga : PySem.W.findIn K (.ref c_NoTrain) "__getattribute__" = some (some (.builtin "BaseException.__getattribute__")))
 (i_NoTrain_gt : PySem.W.findIn K (.ref c_NoTrain) "__getattr__" = some none)
 (i_NoTrain_mb : PySem.W.mroIn K c_NoTrain (.type "BaseException") = some true)
 (i_NoTrain_hd : PySem.W.hasDictIn K c_NoTrain = true)
 (i_NoTrain_ca : PySem.W.findIn K (.ref c_NoTrain) "__class__" = some (some (.builtin "object.__class__")))
 (i_NoTrain_sp : PySem.W.specialIn K (.builtin "object.__class__") "__get__" = some (some (.builtin "getset_descriptor.__get__")))
 (i_NoTrain_tk : PySem.W.takesIn K (.builtin "object.__class__") = some true)
 (i_NoTrain_mr : PySem.W.mroIn K c_NoTrain (.type "object") = some true)
 (k_NoTrain_NoTrain : PySem.W.kitOne K (.ref c_NoTrain) (.ref c_NoTrain) = some true)
 (k_NoTrain_NoStand : PySem.W.kitOne K (.ref c_NoTrain) (.ref c_NoStand) = some false)
 (k_NoTrain_NoPaper : PySem.W.kitOne K (.ref c_NoTrain) (.ref c_NoPaper) = some false)
 (k_NoTrain_NoBox : PySem.W.kitOne K (.ref c_NoTrain) (.ref c_NoBox) = some false)
 (k_NoTrain_NoSwitch : PySem.W.kitOne K (.ref c_NoTrain) (.ref c_NoSwitch) = some false)
 (k_NoTrain_NoPlace : PySem.W.kitOne K (.ref c_NoTrain) (.ref c_NoPlace) = some false)
 (k_NoTrain_NoTable : PySem.W.kitOne K (.ref c_NoTrain) (.ref c_NoTable) = some false)
 (k_NoTrain_NoText : PySem.W.kitOne K (.ref c_NoTrain) (.ref c_NoText) = some false)
 (k_NoTrain_NoRow : PySem.W.kitOne K (.ref c_NoTrain) (.ref c_NoRow) = some false)
 (k_NoTrain_NoPiece : PySem.W.kitOne K (.ref c_NoTrain) (.ref c_NoPiece) = some false)
 (k_NoTrain_NothingLeft : PySem.W.kitOne K (.ref c_NoTrain) (.ref c_NothingLeft) = some false)
 (k_NoTrain_TooMany : PySem.W.kitOne K (.ref c_NoTrain) (.ref c_TooMany) = some false)
 (k_NoTrain_ValueError : PySem.W.kitOne K (.ref c_NoTrain) (.type "ValueError") = some true)
 (x_NoStand : PySem.W.excIn K c_NoStand [.type "ValueError", .type "Exception", .type "BaseException", .type "object"] "ValueError.__new__" = true)
 (e_NoStand : PySem.W.exmOne K (.ref c_NoStand) (.ref c_TrainError) = some true)
 (i_NoStand_ga : PySem.W.findIn K (.ref c_NoStand) "__getattribute__" = some (some (.builtin "BaseException.__getattribute__")))
 (i_NoStand_gt : PySem.W.findIn K (.ref c_NoStand) "__getattr__" = some none)
 (i_NoStand_mb : PySem.W.mroIn K c_NoStand (.type "BaseException") = some true)
 (i_NoStand_hd : PySem.W.hasDictIn K c_NoStand = true)
 (i_NoStand_ca : PySem.W.findIn K (.ref c_NoStand) "__class__" = some (some (.builtin "object.__class__")))
 (i_NoStand_sp : PySem.W.specialIn K (.builtin "object.__class__") "__get__" = some (some (.builtin "getset_descriptor.__get__")))
 (i_NoStand_tk : PySem.W.takesIn K (.builtin "object.__class__") = some true)
 (i_NoStand_mr : PySem.W.mroIn K c_NoStand (.type "object") = some true)
 (k_NoStand_NoTrain : PySem.W.kitOne K (.ref c_NoStand) (.ref c_NoTrain) = some false)
 (k_NoStand_NoStand : PySem.W.kitOne K (.ref c_NoStand) (.ref c_NoStand) = some true)
 (k_NoStand_NoPaper : PySem.W.kitOne K (.ref c_NoStand) (.ref c_NoPaper) = some false)
 (k_NoStand_NoBox : PySem.W.kitOne K (.ref c_NoStand) (.ref c_NoBox) = some false)
 (k_NoStand_NoSwitch : PySem.W.kitOne K (.ref c_NoStand) (.ref c_NoSwitch) = some false)
 (k_NoStand_NoPlace : PySem.W.kitOne K (.ref c_NoStand) (.ref c_NoPlace) = some false)
 (k_NoStand_NoTable : PySem.W.kitOne K (.ref c_NoStand) (.ref c_NoTable) = some false)
 (k_NoStand_NoText : PySem.W.kitOne K (.ref c_NoStand) (.ref c_NoText) = some false)
 (k_NoStand_NoRow : PySem.W.kitOne K (.ref c_NoStand) (.ref c_NoRow) = some false)
 (k_NoStand_NoPiece : PySem.W.kitOne K (.ref c_NoStand) (.ref c_NoPiece) = some false)
 (k_NoStand_NothingLeft : PySem.W.kitOne K (.ref c_NoStand) (.ref c_NothingLeft) = some false)
 (k_NoStand_TooMany : PySem.W.kitOne K (.ref c_NoStand) (.ref c_TooMany) = some false)
 (k_NoStand_ValueError : PySem.W.kitOne K (.ref c_NoStand) (.type "ValueError") = some true)
 (x_TooMany : PySem.W.excIn K c_TooMany [.type "ValueError", .type "Exception", .type "BaseException", .type "object"] "ValueError.__new__" = true)
 (e_TooMany : PySem.W.exmOne K (.ref c_TooMany) (.ref c_TrainError) = some true)
 (i_TooMany_ga : PySem.W.findIn K (.ref c_TooMany) "__getattribute__" = some (some (.builtin "BaseException.__getattribute__")))
 (i_TooMany_gt : PySem.W.findIn K (.ref c_TooMany) "__getattr__" = some none)
 (i_TooMany_mb : PySem.W.mroIn K c_TooMany (.type "BaseException") = some true)
 (i_TooMany_hd : PySem.W.hasDictIn K c_TooMany = true)
 (i_TooMany_ca : PySem.W.findIn K (.ref c_TooMany) "__class__" = some (some (.builtin "object.__class__")))
 (i_TooMany_sp : PySem.W.specialIn K (.builtin "object.__class__") "__get__" = some (some (.builtin "getset_descriptor.__get__")))
 (i_TooMany_tk : PySem.W.takesIn K (.builtin "object.__class__") = some true)
 (i_TooMany_mr : PySem.W.mroIn K c_TooMany (.type "object") = some true)
 (k_TooMany_NoTrain : PySem.W.kitOne K (.ref c_TooMany) (.ref c_NoTrain) = some false)
 (k_TooMany_NoStand : PySem.W.kitOne K (.ref c_TooMany) (.ref c_NoStand) = some false)
 (k_TooMany_NoPaper : PySem.W.kitOne K (.ref c_TooMany) (.ref c_NoPaper) = some false)
 (k_TooMany_NoBox : PySem.W.kitOne K (.ref c_TooMany) (.ref c_NoBox) = some false)
 (k_TooMany_NoSwitch : PySem.W.kitOne K (.ref c_TooMany) (.ref c_NoSwitch) = some false)
 (k_TooMany_NoPlace : PySem.W.kitOne K (.ref c_TooMany) (.ref c_NoPlace) = some false)
 (k_TooMany_NoTable : PySem.W.kitOne K (.ref c_TooMany) (.ref c_NoTable) = some false)
 (k_TooMany_NoText : PySem.W.kitOne K (.ref c_TooMany) (.ref c_NoText) = some false)
 (k_TooMany_NoRow : PySem.W.kitOne K (.ref c_TooMany) (.ref c_NoRow) = some false)
 (k_TooMany_NoPiece : PySem.W.kitOne K (.ref c_TooMany) (.ref c_NoPiece) = some false)
 (k_TooMany_NothingLeft : PySem.W.kitOne K (.ref c_TooMany) (.ref c_NothingLeft) = some false)
 (k_TooMany_TooMany : PySem.W.kitOne K (.ref c_TooMany) (.ref c_TooMany) = some true)
 (k_TooMany_ValueError : PySem.W.kitOne K (.ref c_TooMany) (.type "ValueError") = some true) :
 ∃ fd : FuncData, (∀ (s : Shared) (v : Value), BindsTo s fd ⟨[v], []⟩ [("script", v)]) ∧ ∀ base : Heap, K.In base → base.Ns mainGlobals mg → FnOk l.prog w K mg base CX0 8 fa fd ["script"] (spLaw K) := by
 have e := hfa.symm.trans (PySem.W.mg_of X G a23)
 cases e
 have T : Txt mg := ⟨PySem.W.mg_none_of X G z_ValueError, PySem.W.mg_none_of X G z_abs, PySem.W.mg_none_of X G z_bool, PySem.W.mg_none_of X G z_enumerate, PySem.W.mg_none_of X G z_int, PySem.W.mg_none_of X G z_isinstance, PySem.W.mg_none_of X G z_len, PySem.W.mg_none_of X G z_list, PySem.W.mg_none_of X G z_max, PySem.W.mg_none_of X G z_min, PySem.W.mg_none_of X G z_range, PySem.W.mg_none_of X G z_sorted, PySem.W.mg_none_of X G z_sum, PySem.W.mg_none_of X G z_tuple, PySem.W.mg_none_of X G z_zip, ⟨_, PySem.W.mg_of X G g_MOST_PLAYS⟩, ⟨_, PySem.W.mg_of X G g_MOST_STANDS⟩⟩
 let Z : Cls K mg := ⟨c_TrainError, c_NoTrain, c_NoStand, c_NoPaper, c_NoBox, c_NoSwitch, c_NoPlace, c_NoTable, c_NoText, c_NoRow, c_NoPiece, c_NothingLeft, c_TooMany, PySem.W.mg_of X G n_TrainError, PySem.W.mg_of X G n_NoTrain, PySem.W.mg_of X G n_NoStand, PySem.W.mg_of X G n_NoPaper, PySem.W.mg_of X G n_NoBox, PySem.W.mg_of X G n_NoSwitch, PySem.W.mg_of X G n_NoPlace, PySem.W.mg_of X G n_NoTable, PySem.W.mg_of X G n_NoText, PySem.W.mg_of X G n_NoRow, PySem.W.mg_of X G n_NoPiece, PySem.W.mg_of X G n_NothingLeft, PySem.W.mg_of X G n_TooMany, x_NoTrain, e_NoTrain, i_NoTrain_ga, i_NoTrain_gt, i_NoTrain_mb, i_NoTrain_hd, i_NoTrain_ca, i_NoTrain_sp, i_NoTrain_tk, i_NoTrain_mr, k_NoTrain_NoTrain, k_NoTrain_NoStand, k_NoTrain_NoPaper, k_NoTrain_NoBox, k_NoTrain_NoSwitch, k_NoTrain_NoPlace, k_NoTrain_NoTable, k_NoTrain_NoText, k_NoTrain_NoRow, k_NoTrain_NoPiece, k_NoTrain_NothingLeft, k_NoTrain_TooMany, k_NoTrain_ValueError, x_NoStand, e_NoStand, i_NoStand_ga, i_NoStand_gt, i_NoStand_mb, i_NoStand_hd, i_NoStand_ca, i_NoStand_sp, i_NoStand_tk, i_NoStand_mr, k_NoStand_NoTrain, k_NoStand_NoStand, k_NoStand_NoPaper, k_NoStand_NoBox, k_NoStand_NoSwitch, k_NoStand_NoPlace, k_NoStand_NoTable, k_NoStand_NoText, k_NoStand_NoRow, k_NoStand_NoPiece, k_NoStand_NothingLeft, k_NoStand_TooMany, k_NoStand_ValueError, x_TooMany, e_TooMany, i_TooMany_ga, i_TooMany_gt, i_TooMany_mb, i_TooMany_hd, i_TooMany_ca, i_TooMany_sp, i_TooMany_tk, i_TooMany_mr, k_TooMany_NoTrain, k_TooMany_NoStand, k_TooMany_NoPaper, k_TooMany_NoBox, k_TooMany_NoSwitch, k_TooMany_NoPlace, k_TooMany_NoTable, k_TooMany_NoText, k_TooMany_NoRow, k_TooMany_NoPiece, k_TooMany_NothingLeft, k_TooMany_TooMany, k_TooMany_ValueError⟩
 have F_law_cell_at := fun_mk (st := s_law_cell_at) l0 c0 b0
 have D_law_cell_at : Def K mg "_law_cell_at" s_law_cell_at := ⟨_, _, F_law_cell_at, W.mg_of X G a0⟩
 have F_law_draws := fun_mk (st := s_law_draws) l1 c1 b1
 have D_law_draws : Def K mg "_law_draws" s_law_draws := ⟨_, _, F_law_draws, W.mg_of X G a1⟩
 have F_law_a_kin := fun_mk (st := s_law_a_kin) l2 c2 b2
 have D_law_a_kin : Def K mg "_law_a_kin" s_law_a_kin := ⟨_, _, F_law_a_kin, W.mg_of X G a2⟩
 have F_law_due_kin := fun_mk (st := s_law_due_kin) l3 c3 b3
 have D_law_due_kin : Def K mg "_law_due_kin" s_law_due_kin := ⟨_, _, F_law_due_kin, W.mg_of X G a3⟩
 have F_is_train := fun_mk (st := s_is_train) l4 c4 b4
 have D_is_train : Def K mg "is_train" s_is_train := ⟨_, _, F_is_train, W.mg_of X G a4⟩
 have F_keeps_plays := fun_mk (st := s_keeps_plays) l5 c5 b5
 have D_keeps_plays : Def K mg "keeps_plays" s_keeps_plays := ⟨_, _, F_keeps_plays, W.mg_of X G a5⟩
 have F_dragged := fun_mk (st := s_dragged) l6 c6 b6
 have D_dragged : Def K mg "dragged" s_dragged := ⟨_, _, F_dragged, W.mg_of X G a6⟩
 have F_refuse_no_train := fun_mk (st := s_refuse_no_train) l7 c7 b7
 have D_refuse_no_train : Def K mg "refuse_no_train" s_refuse_no_train := ⟨_, _, F_refuse_no_train, W.mg_of X G a7⟩
 have F_is_stand := fun_mk (st := s_is_stand) l8 c8 b8
 have D_is_stand : Def K mg "is_stand" s_is_stand := ⟨_, _, F_is_stand, W.mg_of X G a8⟩
 have F_depths_of := fun_mk (st := s_depths_of) l9 c9 b9
 have D_depths_of : Def K mg "depths_of" s_depths_of := ⟨_, _, F_depths_of, W.mg_of X G a9⟩
 have F_refuse_no_stand := fun_mk (st := s_refuse_no_stand) l10 c10 b10
 have D_refuse_no_stand : Def K mg "refuse_no_stand" s_refuse_no_stand := ⟨_, _, F_refuse_no_stand, W.mg_of X G a10⟩
 have F_all_dragged := fun_mk (st := s_all_dragged) l11 c11 b11
 have D_all_dragged : Def K mg "all_dragged" s_all_dragged := ⟨_, _, F_all_dragged, W.mg_of X G a11⟩
 have F_refuse_no_bounds := fun_mk (st := s_refuse_no_bounds) l12 c12 b12
 have D_refuse_no_bounds : Def K mg "refuse_no_bounds" s_refuse_no_bounds := ⟨_, _, F_refuse_no_bounds, W.mg_of X G a12⟩
 have F_stands_beside := fun_mk (st := s_stands_beside) l13 c13 b13
 have D_stands_beside : Def K mg "stands_beside" s_stands_beside := ⟨_, _, F_stands_beside, W.mg_of X G a13⟩
 have F_ranges_of := fun_mk (st := s_ranges_of) l14 c14 b14
 have D_ranges_of : Def K mg "ranges_of" s_ranges_of := ⟨_, _, F_ranges_of, W.mg_of X G a14⟩
 have F_stands_within := fun_mk (st := s_stands_within) l15 c15 b15
 have D_stands_within : Def K mg "stands_within" s_stands_within := ⟨_, _, F_stands_within, W.mg_of X G a15⟩
 have F_law_a_all := fun_mk (st := s_law_a_all) l16 c16 b16
 have D_law_a_all : Def K mg "_law_a_all" s_law_a_all := ⟨_, _, F_law_a_all, W.mg_of X G a16⟩
 have F_law_by_depths := fun_mk (st := s_law_by_depths) l17 c17 b17
 have D_law_by_depths : Def K mg "_law_by_depths" s_law_by_depths := ⟨_, _, F_law_by_depths, W.mg_of X G a17⟩
 have F_law_told := fun_mk (st := s_law_told) l18 c18 b18
 have D_law_told : Def K mg "_law_told" s_law_told := ⟨_, _, F_law_told, W.mg_of X G a18⟩
 have F_law_a_stands := fun_mk (st := s_law_a_stands) l19 c19 b19
 have D_law_a_stands : Def K mg "_law_a_stands" s_law_a_stands := ⟨_, _, F_law_a_stands, W.mg_of X G a19⟩
 have F_law_small := fun_mk (st := s_law_small) l20 c20 b20
 have D_law_small : Def K mg "_law_small" s_law_small := ⟨_, _, F_law_small, W.mg_of X G a20⟩
 have F_law_whole := fun_mk (st := s_law_whole) l21 c21 b21
 have D_law_whole : Def K mg "_law_whole" s_law_whole := ⟨_, _, F_law_whole, W.mg_of X G a21⟩
 have F_law_a_train := fun_mk (st := s_law_a_train) l22 c22 b22
 have D_law_a_train : Def K mg "_law_a_train" s_law_a_train := ⟨_, _, F_law_a_train, W.mg_of X G a22⟩
 have F_law := fun_mk (st := s_law) l23 c23 b23
 have D_law : Def K mg "law" s_law := ⟨_, _, F_law, W.mg_of X G a23⟩
 refine ⟨PySem.W.fnOf "law" "law" (defArgs s_law) (defBody s_law) (defScope s_law) .none k23 d23 p23 n23 e23 t23, fun s v => .of_eq rfl, fun base _ _ => ?_⟩
 have C_law_cell_at := ok_law_cell_at (P := l.prog) (w := w) (base := base) T D_law_cell_at
 have C_law_draws := ok_law_draws (P := l.prog) (w := w) (base := base) T D_law_draws
 have C_law_a_kin := ok_law_a_kin (P := l.prog) (w := w) (base := base) T Z D_law_a_kin
 have C_law_due_kin := ok_law_due_kin (P := l.prog) (w := w) (base := base) T D_law_due_kin
 have C_is_train := ok_is_train (P := l.prog) (w := w) (base := base) T D_is_train
 have C_keeps_plays := ok_keeps_plays (P := l.prog) (w := w) (base := base) T D_keeps_plays
 have C_dragged := ok_dragged (P := l.prog) (w := w) (base := base) T D_dragged
 have C_refuse_no_train := ok_refuse_no_train (P := l.prog) (w := w) (base := base) T Z D_refuse_no_train (C_is_train := C_is_train)
 have C_is_stand := ok_is_stand (P := l.prog) (w := w) (base := base) T Z D_is_stand (C_refuse_no_train := C_refuse_no_train) (C_keeps_plays := C_keeps_plays)
 have C_depths_of := ok_depths_of (P := l.prog) (w := w) (base := base) T Z D_depths_of (C_refuse_no_train := C_refuse_no_train)
 have C0_depths_of := calm_depths_of C_depths_of
 have C_refuse_no_stand := ok_refuse_no_stand (P := l.prog) (w := w) (base := base) T Z D_refuse_no_stand (C_is_stand := C_is_stand)
 have C0_refuse_no_stand := calm_refuse_no_stand C_refuse_no_stand
 have C_all_dragged := ok_all_dragged (P := l.prog) (w := w) (base := base) T D_all_dragged (C_dragged := C_dragged)
 have C_refuse_no_bounds := ok_refuse_no_bounds (P := l.prog) (w := w) (base := base) T Z D_refuse_no_bounds (C_refuse_no_stand := C_refuse_no_stand)
 have C_stands_beside := ok_stands_beside (P := l.prog) (w := w) (base := base) T D_stands_beside (C_all_dragged := C_all_dragged)
 have C_ranges_of := ok_ranges_of (P := l.prog) (w := w) (base := base) T Z D_ranges_of (C_refuse_no_bounds := C_refuse_no_bounds) (C_depths_of := C0_depths_of)
 have C_stands_within := ok_stands_within (P := l.prog) (w := w) (base := base) T Z D_stands_within (C_refuse_no_bounds := C_refuse_no_bounds) (C_stands_beside := C_stands_beside)
 have C_law_a_all := ok_law_a_all (P := l.prog) (w := w) (base := base) T D_law_a_all
 have C_law_by_depths := ok_law_by_depths (P := l.prog) (w := w) (base := base) T D_law_by_depths
 have C_law_told := ok_law_told (P := l.prog) (w := w) (base := base) T Z D_law_told (C_ranges_of := C_ranges_of) (C_stands_within := C_stands_within) (C_law_a_kin := C_law_a_kin)
 have C_law_a_stands := ok_law_a_stands (P := l.prog) (w := w) (base := base) T D_law_a_stands (C_law_a_all := C_law_a_all)
 have C_law_small := ok_law_small (P := l.prog) (w := w) (base := base) T D_law_small (C_law_draws := C_law_draws) (C_law_cell_at := C_law_cell_at)
 have C_law_whole := ok_law_whole (P := l.prog) (w := w) (base := base) T D_law_whole
 have C_law_a_train := ok_law_a_train (P := l.prog) (w := w) (base := base) T D_law_a_train (C_law_draws := C_law_draws) (C_law_cell_at := C_law_cell_at)
 exact ok_law F_law T Z (C_law_small := C_law_small) (C_law_cell_at := C_law_cell_at) (C_law_draws := C_law_draws) (C_law_a_stands := C_law_a_stands) (C_law_told := C_law_told) (C_law_by_depths := C_law_by_depths) (C_law_due_kin := C_law_due_kin) (C_law_whole := C_law_whole) (C_law_a_train := C_law_a_train)
theorem walk {l : PySem.W.OpenLaw} {q : Program} {loose : List Str} {XP : (Str → Option Value) → Heap → Prop} {YP : World → Heap → Prop} {d : DefRec} {K : Params → PySem.W.Frag} (hn : l.most = some 63) (hdf : d.params.defaults = [])
 (hY : ∀ (w : World) (h : Heap), YP w h → (K w.params).In h)
 (F : ∀ (w : World) (mg : Str → Option Value) (fa : Addr) (h : Heap), (K w.params).In h → h.Ns mainGlobals mg → mg d.name = some (.ref fa) →
  ∃ fd : FuncData, (∀ (s : Shared) (u : Value), BindsTo s fd ⟨[u], []⟩ [("script", u)]) ∧ ∀ base : Heap, (K w.params).In base → base.Ns mainGlobals mg → FnOk l.prog w (K w.params) mg base CX0 8 fa fd ["script"] (spLaw (K w.params))) :
 PySem.W.WalkO q loose XP YP l.row.toRowW d [] (fun f vs => PySem.call f vs) :=
 L2.walk_of (n := 63) (k := 8) (x := "script") (CX := fun _ => CX0) (sp := fun w => spLaw (K w.params)) hn (by decide) hdf ⟨rfl, by decide, by decide⟩ hY F (fun _ _ a ns hl _ hS => ⟨a, ns, rfl, hS, hl, fun _ => rfl⟩) fun _ _ _ _ _ z => z
end My
inductive PySem.W.Fast : Prop where
| tw14743309241315057761
| tw2257620224608846918
| tw17859632231963249292
| tw15170257639514327519
| tw7477203591948974191
| tw450748561617902463
| tw3897406049693317709
| tw12048573615388825524
| tw6628589240889789057
| tw7976754726415379182
| tw3374016269012233491
| tw12554512425337438880
| tw15884956162679645765
| tw1181100148116104818
| tw17418797500384189665
| tw9909756451889870667
| tw2027146570562677866
| tw14751142090637466188
| tw15539411223521876973
| tw7090041176463448308
| tw14610050050345072363
| tw13672395471323871824
| tw16790898284262182690
| tw16299805041583322329
| tw546783762068027141
| tw3117016400596748089
| tw14470674297418158577
| tw10016311892590129367
| tw7077964174852725850
| tw1465755049345471864
| tw1845743596336372204
| tw3879286899344361057
| tw14776406329174302632
| tw6136483456421132554
| tw466787902889872634
| tw15656146701189777835
| tw4173256520524114057
| tw1667120864940949811
| tw18395570744523846771
| tw1468743438287331261
| tw12956583552287632744
| tw12033664148886363171
| tw15031110856991163795
| tw8842311671806339911
| tw14322813980854557241
| tw2954764935660832573
| tw14070549432657534109
| tw17554626825983236453
| tw9167738194724717764
| tw15824420594306013697
| tw17176358392429950356
| tw3542137210059510644
| tw13133249492791477885
| tw4641221342058250084
| tw436372837666579607
| tw1076318369583696163
| tw1220899083091569353
| tw10855723758219362864
| tw10291478158606175943
| tw4729285032972153477
| tw11669303330904856947
| tw4401471097612668970
| tw1148896403039584112
| tw18391720364459303710
| tw12938813581286693017
| tw4729856391869561822
| tw18083859434253198720
| tw17008028747215931035
| tw4506610152053749951
| tw12302173539974506873
| tw3022582608137384491
| tw13781337876106508554
| tw4997909132399920118
| tw4146956708004618304
| tw3686877818935432629
| tw12437913573840672993
| tw13024666149129378245
| tw9766828784952329285
| tw14600893823826210083
| tw3861531247143328918
| tw4382593944381043700
| tw6088955664138890623
| tw1999941497356822741
| tw7824098990807920843
| tw10173121853773361162
| tw12026502244753823338
| tw13491763077854272365
| tw859284092239294680
| tw5148440893289104477
| tw14918192790138403084
| tw1284482805117361932
| tw7535810489640293019
| tw2867801402615461641
| tw17658236740200873349
| tw15732564753656528801
| tw8782762741809849080
| tw9034856777502962094
| tw13953555170926832142
| tw886876543780460642
| tw13839661477536476757
| tw1720553861827249195
| tw1195604689218281200
| tw11205017948716762961
| tw8358391768885325203
| tw12351997300761169242
| tw12065992016034447547
| tw5680117384000512486
| tw18074046712963560336
| tw6403688675276372504
| tw11475858590446121142
| tw17876319857876167622
| tw2655857944230288347
| tw4256647859934391793
| tw8894310585723011232
| tw10352574314381219021
| tw15979712163594032284
| tw4870171068792485957
| tw4263233596261052842
| tw4951065882634157246
| tw17282156801427647546
| tw440906398277555076
| tw5994920697640510236
| tw3951997437165740594
| tw6914099026284345218
| tw4573039093394477655
| tw8724502829333763267
| tw2957282369917705494
| tw12695983097011762216
| tw10456156208479875621
| tw8661802675388256363
| tw8435139524884938821
| tw10412049730632918644
| tw11944631158367071432
| tw660569117084332041
| tw13796397125654397794
| tw7639211249454511002
| tw11783161168986301308
| tw1644781423102061809
| tw6803392874929520235
| tw10605337173719162030
| tw377653315938327677
| tw390097623266908293
| tw846738896022392328
| tw3558043353849693606
| tw11304372298485394293
| tw17357628715567186774
| tw8048106137063118539
| tw6637878635658300389
| tw8097003268019015076
| tw15886732683690852838
| tw18424264067949026952
| tw1522683124426730154
| tw9560769611416976877
| tw13366263836473053726
| tw7856133768051500738
| tw8158845236418267765
| tw15159567671355892833
| tw12700691199736853248
| tw15813811173678280686
| tw14142534638264693333
| tw14987213392274560906
| tw11363039911898787339
| tw15414794332979533043
| tw865252572274508446
| tw10144992794977344067
| tw8288207940641429587
| tw13908714375777990815
| tw3849269328586118149
| tw10585629959726214702
| tw9234486136469895558
| tw5136763606677554300
| tw4676779156727652425
| tw206140576587283203
| tw14792649397355030622
| tw6842564709192976725
| tw11317364864216083161
| tw1860219636311777893
| tw6392268555810284412
| tw827473892140527808
| tw16573359545188866661
| tw13229512623177431898
| tw10351413882354881727
| tw17046316486443139831
| tw15897686216064679010
| tw8303789904741103627
| tw12857555711104073850
| tw16151311783391895213
| tw9434091215053911749
| tw2165523402283377375
| tw9350330783152084417
| tw13682247992012305828
| tw14117550455554628309
| tw7753837779551632581
| tw14382466783258943696
| tw17865033535463455405
| tw4010756393026023886
| tw10826065908306394666
| tw10251607370422502514
| tw2686300548702199517
| tw5151551777438990739
| tw13557667122133249746
| tw2074948735308767830
| tw7902186534807237267
| tw7087705564074326533
| tw14991602601183422825
| tw2751043312715643195
| tw15616439767515316851
| tw18188351604173539939
| tw8981090265625971201
| tw10418636404789905101
| tw580920337031950673
| tw3572101773400268567
| tw15135055290805181331
| tw15145847076523396977
| tw308453429879677790
| tw12374335188636392732
| tw6971519456938206803
| tw16834035503770500537
| tw15034113745494044033
| tw5749685656061893982
| tw4924941828302478298
| tw8786346651752013460
| tw1546845131326815069
| tw14458291604475900722
| tw3699333732109960481
| tw17406690373037779970
| tw7635749014023096031
| tw6001793351607835642
| tw7635303154733770271
| tw31421799611762935
| tw3609186041293888519
| tw16984227096524135129
| tw16810135970445572250
| tw15728976642034017205
| tw18004848203626997199
| tw6561878785851157091
| tw9723336970798610402
| tw1536230501862487776
| tw8485810885817283978
| tw14849503023362750762
| tw8489762176587847456
| tw5093413446789614934
| tw7067240274703521965
| tw10193446721966110646
| tw2868355003789634176
| tw6658423601664542171
| tw16459012239298726560
| tw5357686624883001327
| tw1410181059906866855
| tw12429462302504074875
| tw3638156380724242675
| tw9551956951022391374
| tw16914047963079781397
| tw12776634993974014208
| tw4649252266005709089
| tw12417866115980642488
| tw4097091915132188930
| tw4201813436744349538
| tw13541859236103780878
| tw2246505394314339174
| tw695542578516701279
| tw7744392916227375180
| tw17198922640987699211
| tw15098379444701848943
| tw4809608849075904657
| tw7427592562293613651
| tw8005777186068864004
| tw16487352837986552255
| tw12014858617642560954
| tw5736035360325901388
| tw8461157064885779432
| tw4401927237801119274
| tw3998916703886765791
| tw16118807876070179899
| tw18235343291749985401
| tw9645710456248370200
| tw10642010817968731991
| tw18101887300474824016
| tw1270707845406354933
| tw17846536380258734170
| tw11971711933180544859
| tw10299963886174029451
| tw13196577785956902564
| tw6628224488108044178
| tw9036904699235427950
| tw8466231921276181879
| tw3743443184759548484
| tw12910513088121031694
| tw12696121812911329046
| tw1569277639690873618
| tw6468760847411587682
| tw8570560618533333076
| tw9978654186260745234
| tw6035204480517911913
| tw8114551053846666737
| tw5256507219202833773
| tw6912754361118522147
| tw17888301104345691946
| tw15982626339960440007
| tw2254059552374060177
| tw8622064798300725858
| tw13833336179018547141
| tw16337279457900493779
| tw4104519272713923523
| tw11493978554535058975
| tw6299448497608043363
| tw4897466979981249517
| tw6208785320501908030
| tw15032919101001301938
| tw2408960586355510554
| tw15579400816140352004
| tw703676918547631827
| tw8013538435075815439
| tw17633353109264993086
| tw10958563760647416361
| tw5319868896251052773
| tw94210500664289157
| tw543879490558768368
| tw18152433394924271412
| tw5176873366278400288
| tw17355527442584130267
| tw7978818375823520108
| tw6129668252351425802
| tw6056994782966933139
| tw12253647931143134980
| tw8703112188205813265
| tw17128744827060498131
| tw14709623983803213023
| tw7421900068662900608
| tw15004041919122165871
| tw15731009041127184219
| tw17051934057541104961
| tw1168832166046181696
| tw272765874546477518
| tw15698362054411325924
| tw16034851282954551774
| tw2860614213354297621
| tw17166704785707474846
| tw8364310065633797483
| tw4044883938181851112
| tw12552774011339941818
| tw9628811805515771278
| tw1527175721725150213
| tw11109814998814624601
| tw12667196982195220957
| tw86817308964410376
open PySem PySem.W PyProof.Rows
set_option maxRecDepth 100000 in
set_option maxHeartbeats 0 in
theorem PySem.Challenge.cw_lugtrain_k38_ranges_and_stands_within_holds : PySem.Challenge.rw_lugtrain_k38_ranges_and_stands_within.Holds := by
 w_on; o_law; k_head; (case hw => w_witness2)
 k_fill
 refine My.walk (l := PySem.Challenge.rw_lugtrain_k38_ranges_and_stands_within) rfl rfl (fun w h Y => PySem.W.kIn_of Y) ?F
 case F =>
  intro w mg fa h KX G hmg
  refine' My.all_mk KX G hmg ?a0 ?l0 ?c0 ?b0 ?a1 ?l1 ?c1 ?b1 ?a2 ?l2 ?c2 ?b2 ?a3 ?l3 ?c3 ?b3 ?a4 ?l4 ?c4 ?b4 ?a5 ?l5 ?c5 ?b5 ?a6 ?l6 ?c6 ?b6 ?a7 ?l7 ?c7 ?b7 ?a8 ?l8 ?c8 ?b8 ?a9 ?l9 ?c9 ?b9 ?a10 ?l10 ?c10 ?b10 ?a11 ?l11 ?c11 ?b11 ?a12 ?l12 ?c12 ?b12 ?a13 ?l13 ?c13 ?b13 ?a14 ?l14 ?c14 ?b14 ?a15 ?l15 ?c15 ?b15 ?a16 ?l16 ?c16 ?b16 ?a17 ?l17 ?c17 ?b17 ?a18 ?l18 ?c18 ?b18 ?a19 ?l19 ?c19 ?b19 ?a20 ?l20 ?c20 ?b20 ?a21 ?l21 ?c21 ?b21 ?a22 ?l22 ?c22 ?b22 ?a23 ?l23 ?c23 ?b23 ?z_ValueError ?z_abs ?z_bool ?z_enumerate ?z_int ?z_isinstance ?z_len ?z_list ?z_max ?z_min ?z_range ?z_sorted ?z_sum ?z_tuple ?z_zip ?g_MOST_PLAYS ?g_MOST_STANDS ?n_TrainError ?n_NoTrain ?n_NoStand ?n_NoPaper ?n_NoBox ?n_NoSwitch ?n_NoPlace ?n_NoTable ?n_NoText ?n_NoRow ?n_NoPiece ?n_NothingLeft ?n_TooMany ?x_NoTrain ?e_NoTrain ?i_NoTrain_ga ?i_NoTrain_gt ?i_NoTrain_mb ?i_NoTrain_hd ?i_NoTrain_ca ?i_NoTrain_sp ?i_NoTrain_tk ?i_NoTrain_mr ?k_NoTrain_NoTrain ?k_NoTrain_NoStand ?k_NoTrain_NoPaper ?k_NoTrain_NoBox ?k_NoTrain_NoSwitch ?k_NoTrain_NoPlace ?k_NoTrain_NoTable ?k_NoTrain_NoText ?k_NoTrain_NoRow ?k_NoTrain_NoPiece ?k_NoTrain_NothingLeft ?k_NoTrain_TooMany ?k_NoTrain_ValueError ?x_NoStand ?e_NoStand ?i_NoStand_ga ?i_NoStand_gt ?i_NoStand_mb ?i_NoStand_hd ?i_NoStand_ca ?i_NoStand_sp ?i_NoStand_tk ?i_NoStand_mr ?k_NoStand_NoTrain ?k_NoStand_NoStand ?k_NoStand_NoPaper ?k_NoStand_NoBox ?k_NoStand_NoSwitch ?k_NoStand_NoPlace ?k_NoStand_NoTable ?k_NoStand_NoText ?k_NoStand_NoRow ?k_NoStand_NoPiece ?k_NoStand_NothingLeft ?k_NoStand_TooMany ?k_NoStand_ValueError ?x_TooMany ?e_TooMany ?i_TooMany_ga ?i_TooMany_gt ?i_TooMany_mb ?i_TooMany_hd ?i_TooMany_ca ?i_TooMany_sp ?i_TooMany_tk ?i_TooMany_mr ?k_TooMany_NoTrain ?k_TooMany_NoStand ?k_TooMany_NoPaper ?k_TooMany_NoBox ?k_TooMany_NoSwitch ?k_TooMany_NoPlace ?k_TooMany_NoTable ?k_TooMany_NoText ?k_TooMany_NoRow ?k_TooMany_NoPiece ?k_TooMany_NothingLeft ?k_TooMany_TooMany ?k_TooMany_ValueError
  (case a0 => k_is)
  (case l0 => k_is)
  (case c0 => k_is)
  (case b0 => k_is)
  (case a1 => k_is)
  (case l1 => k_is)
  (case c1 => k_is)
  (case b1 => k_is)
  (case a2 => k_is)
  (case l2 => k_is)
  (case c2 => k_is)
  (case b2 => k_is)
  (case a3 => k_is)
  (case l3 => k_is)
  (case c3 => k_is)
  (case b3 => k_is)
  (case a4 => k_is)
  (case l4 => k_is)
  (case c4 => k_is)
  (case b4 => k_is)
  (case a5 => k_is)
  (case l5 => k_is)
  (case c5 => k_is)
  (case b5 => k_is)
  (case a6 => k_is)
  (case l6 => k_is)
  (case c6 => k_is)
  (case b6 => k_is)
  (case a7 => k_is)
  (case l7 => k_is)
  (case c7 => k_is)
  (case b7 => k_is)
  (case a8 => k_is)
  (case l8 => k_is)
  (case c8 => k_is)
  (case b8 => k_is)
  (case a9 => k_is)
  (case l9 => k_is)
  (case c9 => k_is)
  (case b9 => k_is)
  (case a10 => k_is)
  (case l10 => k_is)
  (case c10 => k_is)
  (case b10 => k_is)
  (case a11 => k_is)
  (case l11 => k_is)
  (case c11 => k_is)
  (case b11 => k_is)
  (case a12 => k_is)
  (case l12 => k_is)
  (case c12 => k_is)
  (case b12 => k_is)
  (case a13 => k_is)
  (case l13 => k_is)
  (case c13 => k_is)
  (case b13 => k_is)
  (case a14 => k_is)
  (case l14 => k_is)
  (case c14 => k_is)
  (case b14 => k_is)
  (case a15 => k_is)
  (case l15 => k_is)
  (case c15 => k_is)
  (case b15 => k_is)
  (case a16 => k_is)
  (case l16 => k_is)
  (case c16 => k_is)
  (case b16 => k_is)
  (case a17 => k_is)
  (case l17 => k_is)
  (case c17 => k_is)
  (case b17 => k_is)
  (case a18 => k_is)
  (case l18 => k_is)
  (case c18 => k_is)
  (case b18 => k_is)
  (case a19 => k_is)
  (case l19 => k_is)
  (case c19 => k_is)
  (case b19 => k_is)
  (case a20 => k_is)
  (case l20 => k_is)
  (case c20 => k_is)
  (case b20 => k_is)
  (case a21 => k_is)
  (case l21 => k_is)
  (case c21 => k_is)
  (case b21 => k_is)
  (case a22 => k_is)
  (case l22 => k_is)
  (case c22 => k_is)
  (case b22 => k_is)
  (case a23 => k_is)
  (case l23 => k_is)
  (case c23 => k_is)
  (case b23 => k_is)
  (case z_ValueError => k_is)
  (case z_abs => k_is)
  (case z_bool => k_is)
  (case z_enumerate => k_is)
  (case z_int => k_is)
  (case z_isinstance => k_is)
  (case z_len => k_is)
  (case z_list => k_is)
  (case z_max => k_is)
  (case z_min => k_is)
  (case z_range => k_is)
  (case z_sorted => k_is)
  (case z_sum => k_is)
  (case z_tuple => k_is)
  (case z_zip => k_is)
  (case g_MOST_PLAYS => k_is)
  (case g_MOST_STANDS => k_is)
  (case n_TrainError => k_is)
  (case n_NoTrain => k_is)
  (case n_NoStand => k_is)
  (case n_NoPaper => k_is)
  (case n_NoBox => k_is)
  (case n_NoSwitch => k_is)
  (case n_NoPlace => k_is)
  (case n_NoTable => k_is)
  (case n_NoText => k_is)
  (case n_NoRow => k_is)
  (case n_NoPiece => k_is)
  (case n_NothingLeft => k_is)
  (case n_TooMany => k_is)
  (case x_NoTrain => k_exc)
  (case e_NoTrain => kts_exm)
  (case i_NoTrain_ga => k_is)
  (case i_NoTrain_gt => k_is)
  (case i_NoTrain_mb => k_is)
  (case i_NoTrain_hd => k_is)
  (case i_NoTrain_ca => k_is)
  (case i_NoTrain_sp => k_is)
  (case i_NoTrain_tk => k_is)
  (case i_NoTrain_mr => k_is)
  (case k_NoTrain_NoTrain => kit_is)
  (case k_NoTrain_NoStand => kit_is)
  (case k_NoTrain_NoPaper => kit_is)
  (case k_NoTrain_NoBox => kit_is)
  (case k_NoTrain_NoSwitch => kit_is)
  (case k_NoTrain_NoPlace => kit_is)
  (case k_NoTrain_NoTable => kit_is)
  (case k_NoTrain_NoText => kit_is)
  (case k_NoTrain_NoRow => kit_is)
  (case k_NoTrain_NoPiece => kit_is)
  (case k_NoTrain_NothingLeft => kit_is)
  (case k_NoTrain_TooMany => kit_is)
  (case k_NoTrain_ValueError => kit_is)
  (case x_NoStand => k_exc)
  (case e_NoStand => kts_exm)
  (case i_NoStand_ga => k_is)
  (case i_NoStand_gt => k_is)
  (case i_NoStand_mb => k_is)
  (case i_NoStand_hd => k_is)
  (case i_NoStand_ca => k_is)
  (case i_NoStand_sp => k_is)
  (case i_NoStand_tk => k_is)
  (case i_NoStand_mr => k_is)
  (case k_NoStand_NoTrain => kit_is)
  (case k_NoStand_NoStand => kit_is)
  (case k_NoStand_NoPaper => kit_is)
  (case k_NoStand_NoBox => kit_is)
  (case k_NoStand_NoSwitch => kit_is)
  (case k_NoStand_NoPlace => kit_is)
  (case k_NoStand_NoTable => kit_is)
  (case k_NoStand_NoText => kit_is)
  (case k_NoStand_NoRow => kit_is)
  (case k_NoStand_NoPiece => kit_is)
  (case k_NoStand_NothingLeft => kit_is)
  (case k_NoStand_TooMany => kit_is)
  (case k_NoStand_ValueError => kit_is)
  (case x_TooMany => k_exc)
  (case e_TooMany => kts_exm)
  (case i_TooMany_ga => k_is)
  (case i_TooMany_gt => k_is)
  (case i_TooMany_mb => k_is)
  (case i_TooMany_hd => k_is)
  (case i_TooMany_ca => k_is)
  (case i_TooMany_sp => k_is)
  (case i_TooMany_tk => k_is)
  (case i_TooMany_mr => k_is)
  (case k_TooMany_NoTrain => kit_is)
  (case k_TooMany_NoStand => kit_is)
  (case k_TooMany_NoPaper => kit_is)
  (case k_TooMany_NoBox => kit_is)
  (case k_TooMany_NoSwitch => kit_is)
  (case k_TooMany_NoPlace => kit_is)
  (case k_TooMany_NoTable => kit_is)
  (case k_TooMany_NoText => kit_is)
  (case k_TooMany_NoRow => kit_is)
  (case k_TooMany_NoPiece => kit_is)
  (case k_TooMany_NothingLeft => kit_is)
  (case k_TooMany_TooMany => kit_is)
  (case k_TooMany_ValueError => kit_is)
