import PyProof.Rows.All
import Wide.All
import OpenK.AllK
import Wide.FinOn
import Lean
import PyProof.EqAt
import PyProof.EqKinds
import PyProof.TupleCall
import PyProof.StationsW
import PyProof.ExcAttrAll.ValueError
import PySem.Challenge.RW_lugtrain_k23_first_returns_and_weights
set_option hygiene false in
local macro_rules | `(tactic| walk_at "z0") => `(tactic| (exact wpS_pure ⟨gs2, .inr ⟨_, _, _, _, _, _, rfl, mC, by lia, by have := lib2; lia, by lia⟩⟩))
set_option hygiene false in
local macro_rules | `(tactic| walk_at "z1") => `(tactic| (exact wpS_pure ⟨gs2, _, _, _, _, _, _, rfl, mC, by lia, by have := lib2; lia, by lia⟩))
set_option hygiene false in
local macro_rules | `(tactic| walk_at "z2") => `(tactic| refine wpS_ite (fun _ => ?_) (fun _ => ?_))
set_option hygiene false in
local macro_rules | `(tactic| walk_at "z3") => `(tactic| intro pins s σ H Q I h)
set_option hygiene false in
local macro_rules | `(tactic| walk_at "z4") => `(tactic| (refine wpS_bind (wpS_gallop (base := 0) hL hk2 mx1 (fun i hi => by rw [Nat.zero_add]; exact mem_at mb (by lia)) (sb.inn (by lia)) (by lia) fun k' j1 j2 j3 => ?_)))
set_option hygiene false in
local macro_rules | `(tactic| walk_at "z5") => `(tactic| exact wpS_pure ⟨gs2, .inl ⟨_, _, rfl, mC.done sa sb (.inl (by simpa using c1))⟩⟩)
set_option hygiene false in
local macro_rules | `(tactic| walk_at "z6") => `(tactic| (exact wpS_pure ⟨gs2, .inl ⟨_, _, rfl, mC.lastA sa sb (fun x hx => hlast x (by rw [show a.size - 1 = (ia + k) + 1 by lia]; exact hx))⟩⟩))
set_option hygiene false in
local macro_rules | `(tactic| walk_at "z7") => `(tactic| refine wpS_bind (wpS_elem hx2 ?_))
set_option hygiene false in
local macro_rules | `(tactic| walk_at "z8") => `(tactic| (exact wpS_pure ⟨gs2, .inl ⟨_, _, rfl, mC.lastA sa sb (fun x hx => hlast x (by rw [show a.size - 1 = ia + 1 by lia]; exact hx))⟩⟩))
set_option hygiene false in
local macro_rules | `(tactic| walk_at "z9") => `(tactic| obtain ⟨t, hti, rfl⟩ := Option.map_eq_some_iff.mp hx)
set_option hygiene false in
local macro_rules | `(tactic| walk_at "z10") => `(tactic| refine wpS_bind (wpS_gallop hL hk2 mx1 (fun i hi => mem_at mb (by lia)) (sb.inn (by lia)) (by lia) fun k' j1 j2 j3 => ?_))
set_option hygiene false in
local macro_rules | `(tactic| walk_at "z11") => `(tactic| rw [List.getElem?_map] at hx)
set_option hygiene false in
local macro_rules | `(tactic| walk_at "z12") => `(tactic| show R ρ (mirror (arrOf st3) lo (lo + m) ((lo + m - lo) / 2)) i ≤ R ρ (mirror (arrOf st3) lo (lo + m) ((lo + m - lo) / 2)) j)
set_option hygiene false in
local macro_rules | `(tactic| walk_at "z13") => `(tactic| (have mC := mB2.pA sa sb hx1 (fun y' hy' => by rw [← R_at (ρ := ρ) hy']; exact bey_tf.mp (j3 k' (Nat.le_refl _) (by lia)))))
set_option hygiene false in
local macro_rules | `(tactic| walk_at "z14") => `(tactic| simp only [hless, decide_false, Bool.false_eq_true, if_false])
set_option hygiene false in
local macro_rules | `(tactic| walk_at "z15") => `(tactic| (have mC := mB.pA sa sb hx1 (fun y' hy' => by rw [← R_at (ρ := ρ) hy']; exact bey_tf.mp (j3 0 (Nat.le_refl _) (by lia)))))
set_option hygiene false in
local macro_rules | `(tactic| walk_at "z16") => `(tactic| have nf : ∀ {α : Type} {m : Sem α} {Q : α → Shared → Prop} {s : Shared}, wpAny (model prog w) A m Q EE s → wpAny (model prog w) A m Q (notedBy (model prog w) A env fun e s' => R (.error e) s') s := fun h => wpAny_mono h (fun _ _ x => x) hE)
set_option hygiene false in
local macro_rules | `(tactic| walk_at "z17") => `(tactic| have hch4 := ch_mirror (st := st3) (lo := lo) (hi := lo + nrem) (i := lo) (j := lo + m) (Nat.le_refl _) (by lia) hsz4)
set_option hygiene false in
local macro_rules | `(tactic| walk_at "z18") => `(tactic| refine ⟨fun σ H4 => ∃ (us : List Addr) (tab : List (List Int)), σ = [some (.ref a), some (.ref lp), some (.int top), some (.int scale), some (.ref lt), u5, some (.int form), some (.int (an : Int))] ∧ TOk H1 H4 n 31 lt us tab, ?_, ?_⟩)
set_option hygiene false in
local macro_rules | `(tactic| walk_at "z19") => `(tactic| exact Int.le_trans (hs' i (lo + x - 1) h1 (by lia) (by lia)) (Int.not_lt.mp hless))
set_option hygiene false in
local macro_rules | `(tactic| walk_at "z20") => `(tactic| refine wpAny_bind (wpAny_mono (nf h₀) (fun _ s₂ h₂ => wpAny_bind (wpAny_mono (nf h₂) (fun ok s₃ h₃ => ?_) fun _ _ h' => h')) fun _ _ h' => h'))
set_option hygiene false in
local macro_rules | `(tactic| walk_at "z21") => `(tactic| refine PySem.W.callWith_K (h₀ := X.base) I.ok.mod.kin hk (thn (ha pos pins s σ H _ I h) fun us s1 ⟨vs, H1, I1, r, q⟩ => ⟨I1.kIn, ?_⟩) he hpl)
set_option hygiene false in
local macro_rules | `(tactic| walk_at "z22") => `(tactic| generalize setArr st3 (mirror (arrOf st3) lo (lo + m) ((lo + m - lo) / 2)) = Y4 at hch4 hB4 hs4 ⊢)
set_option hygiene false in
local macro_rules | `(tactic| walk_at "z23") => `(tactic| refine ⟨p, dx, _, rfl, ep, bfl_no _ _ _ _ (by decide +kernel) (by decide +kernel) (by decide +kernel) (by decide +kernel), ?_⟩)
set_option hygiene false in
local macro_rules | `(tactic| walk_at "z24") => `(tactic| obtain ⟨j, hj, e⟩ := mem_win hz)
set_option hygiene false in
local macro_rules | `(tactic| walk_at "z25") => `(tactic| intro X hP hw hK hc i pins s σ H E I hf st hg)
set_option hygiene false in
local macro_rules | `(tactic| walk_at "z26") => `(tactic| refine wpS_ite (fun c1 => ?_) (fun c1 => ?_))
set_option hygiene false in
local macro_rules | `(tactic| walk_at "z27") => `(tactic| (have := hN' i (lo + x - 1) h1 (by lia) (by lia); lia))
set_option hygiene false in
local macro_rules | `(tactic| walk_at "z28") => `(tactic| refine wpAny_bind (wpAny_standAt (wpAny_bind (wpAny_mono (nf (turn n s hI)) (fun r s₁ h₁ => ?_) fun _ _ h' => h'))))
set_option hygiene false in
local macro_rules | `(tactic| walk_at "z29") => `(tactic| refine wpS_bind (wpS_ltR hL (by assumption) (by lia) (by lia) ?_))
set_option hygiene false in
local macro_rules | `(tactic| walk_at "z30") => `(tactic| refine wpS_ite (fun c1 => ?_) (fun _ => ?_))
set_option hygiene false in
local macro_rules | `(tactic| walk_at "z31") => `(tactic| refine wpS_bind (wpS_lift (wpAny_rule ⟨rfl, ?_⟩)))
set_option hygiene false in
local macro_rules | `(tactic| walk_at "z32") => `(tactic| (exact wpS_pure ⟨gs2, .inl ⟨_, _, rfl, mB2.firstB sa sb (by rw [c2']; exact hfirst)⟩⟩))
set_option hygiene false in
local macro_rules | `(tactic| walk_at "z33") => `(tactic| refine i_if (fun g => absurd g (by lia)) (fun _ => ?_))
set_option hygiene false in
local macro_rules | `(tactic| walk_at "z34") => `(tactic| (exact wpS_pure ⟨gs2, .inl ⟨_, _, rfl, mB.firstB sa sb (by rw [c0']; exact hfirst)⟩⟩))
set_option hygiene false in
local macro_rules | `(tactic| walk_at "z35") => `(tactic| exact wpS_pure ⟨gs2, .inl ⟨_, _, rfl, mB2.done sa sb (.inr (by simpa using c2))⟩⟩)
set_option hygiene false in
local macro_rules | `(tactic| walk_at "z36") => `(tactic| exact wpS_pure ⟨gs2, .inl ⟨_, _, rfl, mB2.done sa sb (.inr (by simpa using c5))⟩⟩)
set_option hygiene false in
local macro_rules | `(tactic| walk_at "z37") => `(tactic| have htl : ts.length = sws.length := hT.length)
set_option hygiene false in
local macro_rules | `(tactic| walk_at "z38") => `(tactic| exact wpS_pure ⟨gs2, .inl ⟨_, _, rfl, mB.done sa sb (.inr (by simpa using c0))⟩⟩)
set_option hygiene false in
local macro_rules | `(tactic| walk_at "z39") => `(tactic| exact ⟨rfl, nrem, rfl, by lia, Nat.le_refl _, hs', .inl rfl⟩)
set_option hygiene false in
local macro_rules | `(tactic| walk_at "z40") => `(tactic| obtain ⟨f0, f1, f2, f3, f4, f5⟩ := hf it (by simp))
set_option hygiene false in
local macro_rules | `(tactic| walk_at "z41") => `(tactic| exact wpS_pure ⟨rfl, x, rfl, hax, by lia, hs', .inr hless⟩)
set_option Elab.async false
set_option linter.all false
set_option maxRecDepth 100000
namespace L2
open PySem PySem.Spec PyProof.Rows
abbrev Key := Sum Int Str
def keyIs : Key → Value → Bool
 | .inl k, v => Value.isInt k v
 | .inr x, v => Value.isStrOf x v
def keyH (w : World) : Key → Int
 | .inl k => hashInt k
 | .inr x => hashStr w x
theorem keyIs_shape : ∀ {k : Key} {v : Value}, keyIs k v = true → (∃ i t, k = Sum.inl i ∧ v = Value.int i t) ∨ (∃ x t, k = Sum.inr x ∧ v = Value.str x t)
 | .inl i, v, h => by
   obtain ⟨t, e⟩ := Value.isInt_shape (k := i) (v := v) h
   exact .inl ⟨i, t, rfl, e⟩
 | .inr x, v, h => by
   obtain ⟨t, e⟩ := Value.isStrOf_shape (x := x) (v := v) h
   exact .inr ⟨x, t, rfl, e⟩
theorem keyIs_int (i : Int) (t : Tok) : keyIs (.inl i) (.int i t) = true := by simp [keyIs, Value.isInt]
theorem keyIs_str (x : Str) (t : Tok) : keyIs (.inr x) (.str x t) = true := by simp [keyIs, Value.isStrOf]
theorem key_ll (a b : Int) : decide ((Sum.inl a : Key) = Sum.inl b) = (a == b) := by
 by_cases e : a = b
 ·subst e; simp
 ·have h : ¬ (Sum.inl a : Key) = Sum.inl b := fun q => e (Sum.inl.inj q)
  rw [decide_eq_false h]
  exact (beq_eq_false_iff_ne.mpr e).symm
theorem key_rr (a b : Str) : decide ((Sum.inr a : Key) = Sum.inr b) = decide (a = b) := by
 by_cases e : a = b
 ·subst e; simp
 ·have h : ¬ (Sum.inr a : Key) = Sum.inr b := fun q => e (Sum.inr.inj q)
  rw [decide_eq_false h, decide_eq_false e]
theorem key_lr (a : Int) (b : Str) : decide ((Sum.inl a : Key) = Sum.inr b) = false := decide_eq_false (fun q => nomatch q)
theorem key_rl (a : Str) (b : Int) : decide ((Sum.inr a : Key) = Sum.inl b) = false := decide_eq_false (fun q => nomatch q)
def mixKind (prog : Program) (w : World) : PySem.KeyKind prog w Key where
 is := keyIs
 hash := keyH w
 inj := fun v a b ha hb => by
  rcases keyIs_shape ha with ⟨i, t, rfl, rfl⟩ | ⟨x, t, rfl, rfl⟩
  ·rcases keyIs_shape hb with ⟨j, u, rfl, e⟩ | ⟨y, u, rfl, e⟩
   ·injection e with e1 _; rw [e1]
   ·exact nomatch e
  ·rcases keyIs_shape hb with ⟨j, u, rfl, e⟩ | ⟨y, u, rfl, e⟩
   ·exact nomatch e
   ·injection e with e1 _; rw [e1]
 byValue := fun k v h => by
  rcases keyIs_shape h with ⟨i, t, rfl, rfl⟩ | ⟨x, t, rfl, rfl⟩ <;> rfl
 pyHash := fun hv h => by
  rcases keyIs_shape hv with ⟨i, t, rfl, rfl⟩ | ⟨x, t, rfl, rfl⟩
  ·exact wpAny_pyHash_int h
  ·exact wpAny_pyHash_str h
 eqBool := fun hu hv h => by
  rcases keyIs_shape hu with ⟨i, t, rfl, rfl⟩ | ⟨x, t, rfl, rfl⟩
  ·rcases keyIs_shape hv with ⟨j, u, rfl, rfl⟩ | ⟨y, u, rfl, rfl⟩
   ·rw [key_ll] at h; exact wpAny_eqBool_int h
   ·rw [key_lr] at h; exact SeqAt.EqAt.int_str i t y u _ _ _ _ h
  ·rcases keyIs_shape hv with ⟨j, u, rfl, rfl⟩ | ⟨y, u, rfl, rfl⟩
   ·rw [key_rl] at h; exact SeqAt.EqAt.str_int x t j u _ _ _ _ h
   ·rw [key_rr] at h; exact wpAny_eqBool_str h
 «strs» := fun k x t v h => by
  rcases keyIs_shape h with ⟨i, u, rfl, e⟩ | ⟨y, u, rfl, e⟩
  ·exact nomatch e
  ·injection e with e1 _
   subst e1
   cases v <;> rfl
theorem mixKind_int (prog : Program) (w : World) (i : Int) (t : Tok) : (mixKind prog w).is (.inl i) (.int i t) = true := keyIs_int i t
theorem mixKind_str (prog : Program) (w : World) (x : Str) (t : Tok) : (mixKind prog w).is (.inr x) (.str x t) = true := keyIs_str x t
end L2
namespace L2
open PySem PySem.Spec PyProof.Rows
inductive V where
 | non | bl (b : Bool) | int (i : Int) | str (x : Str) | byt (b : Array UInt8) | flt (b : UInt64) | ref (a : Addr) | ty (n : String)
 deriving DecidableEq
def RelV : V → Value → Prop
 | .non, u => u = Value.none
 | .bl b, u => u = Value.bool b
 | .int i, u => ∃ t, u = Value.int i t
 | .str x, u => ∃ t, u = Value.str x t
 | .byt b, u => ∃ t, u = Value.bytes b t
 | .flt b, u => ∃ t, u = Value.float b t
 | .ref a, u => u = Value.ref a
 | .ty n, u => u = Value.type n
abbrev Vals : List V → List Value → Prop := Paired RelV
theorem Vals.length {xs : List V} {us : List Value} (r : Vals xs us) : xs.length = us.length := Paired.length r
theorem Vals.get : ∀ {xs : List V} {us : List Value} {i : Nat} {x : V}, Vals xs us → xs[i]? = some x → ∃ u, us[i]? = some u ∧ RelV x u
 | _, _, _, _, .nil, e => by simp at e
 | _, _, 0, _, .cons r _, e => by simp at e; subst e; exact ⟨_, rfl, r⟩
 | _, _, i + 1, x, .cons _ t, e => by
   obtain ⟨u, h1, h2⟩ := Vals.get (i := i) (x := x) t (by simpa using e)
   exact ⟨u, by simpa using h1, h2⟩
theorem Vals.set {x : V} {u : Value} (r : RelV x u) : ∀ {xs : List V} {us : List Value} (i : Nat), Vals xs us → Vals (xs.set i x) (us.set i u)
 | _, _, _, .nil => .nil
 | _, _, 0, .cons _ t => .cons r t
 | _, _, i + 1, .cons q t => .cons q (Vals.set r i t)
theorem Vals.append : ∀ {xs ys : List V} {us ws : List Value}, Vals xs us → Vals ys ws → Vals (xs ++ ys) (us ++ ws)
 | _, _, _, _, .nil, s => s
 | _, _, _, _, .cons r t, s => .cons r (Vals.append t s)
theorem Vals.take : ∀ {xs : List V} {us : List Value} (n : Nat), Vals xs us → Vals (xs.take n) (us.take n)
 | _, _, 0, _ => .nil
 | _, _, _ + 1, .nil => .nil
 | _, _, n + 1, .cons r t => .cons r (Vals.take n t)
theorem Vals.drop : ∀ {xs : List V} {us : List Value} (n : Nat), Vals xs us → Vals (xs.drop n) (us.drop n)
 | _, _, 0, r => r
 | _, _, _ + 1, .nil => .nil
 | _, _, n + 1, .cons _ t => Vals.drop n t
def RelO : Option V → Option Value → Prop
 | some v, some u => RelV v u
 | none, none => True
 | _, _ => False
def KV {κ : Type} : List (κ × V) → List (κ × Value) → Prop := Paired fun (p : κ × V) (q : κ × Value) => p.1 = q.1 ∧ RelV p.2 q.2
def kV : Key → V
 | .inl i => .int i
 | .inr x => .str x
inductive HO where
 | lst (xs : List V)
 | tup (xs : List V)
 | dK (kvs : List (Key × V)) | dT (kvs : List (List Key × V))
 | set (S : Int → Bool) (n : Nat)
 | ins (C dx : Addr) (fs : List (Str × V))
 | own (x : Addr)
 | xd (fs : List (Str × V))
 | met (f x : Addr)
 | rng (lo hi : Int)
 | frz (o : Obj) (u : HO)
 | tbl (ps : Array Value)
 | ext (φ : Heap → Prop)
abbrev Hp := Addr → Option HO
def upd (H : Hp) (a : Addr) (o : HO) : Hp := fun b => if b = a then some o else H b
theorem upd_same {H : Hp} {a : Addr} {o : HO} : upd H a o a = some o := by unfold upd; rw [if_pos rfl]
theorem upd_ne {H : Hp} {a b : Addr} {o : HO} (h : b ≠ a) : upd H a o b = H b := by unfold upd; rw [if_neg h]
theorem ne_of {H : Hp} {a b : Addr} {o u : HO} (h : H a = some o) (h' : H b = some u) (d : o ≠ u) : a ≠ b := by
 intro e; subst e; rw [h] at h'; exact d (Option.some.inj h')
theorem ne_of_none {H : Hp} {a b : Addr} {o : HO} (h : H a = some o) (h' : H b = none) : a ≠ b := by
 intro e; subst e; rw [h] at h'; cases h'
section
variable (P : Program) (w : World)
def ObjOk (H : Hp) (h : Heap) (a : Addr) : HO → Prop
 | .lst xs => xs.length ≤ sizeLine ∧ ∃ (its : List Value) (n : Nat), Vals xs its ∧ h.get? a = some { cls := .type "list", data := .seq its.toArray n }
 | .tup xs => xs.length ≤ sizeLine ∧ ∃ its : List Value, Vals xs its ∧ IsTup h a its.toArray
 | .dK kvs => kvs.length ≤ sizeLine ∧ (a == sysModules) = false ∧ ∃ vs, KV kvs vs ∧ h.DictOf (mixKind P w) a vs
 | .dT kvs => kvs.length ≤ sizeLine ∧ (a == sysModules) = false ∧ ∃ xs : List (List Key × Addr × Value),
  Paired (fun (p : List Key × V) (q : List Key × Addr × Value) => p.1 = q.1 ∧ H q.2.1 = some (.tup (p.1.map kV)) ∧ RelV p.2 q.2.2) kvs xs ∧
  ∃ o es ep, h.get? a = some o ∧ o.ExactDict ∧ o.data = .dict es ep ∧ es.toList = xs.map (entryOfKey (tupleKind (mixKind P w))) ∧ (xs.map (·.1)).Nodup
 | .set S n => h.SetOf (intKind P w) a S n
 | .ins C dx fs => H dx = some (.own a) ∧ fs.length ≤ 1000 ∧ dx ≠ a ∧ h.get? a = some (PySem.W.instObj C dx) ∧
  ∃ mA, h.Ns1 dx mA ∧ (∀ f, RelO (fs.lookup f) (mA f)) ∧ PySem.Within mA (fs.map (·.1))
 | .own _ => ∃ o, h.get? a = some o
 | .xd fs => ∃ mA, h.Ns1 a mA ∧ ∀ f, RelO (fs.lookup f) (mA f)
 | .rng lo hi => ∃ t u v, h.get? a = some { cls := .type "range", data := .fields #[.int lo t, .int hi u, .int 1 v] }
 | .frz o u => h.get? a = some o ∧ ObjOk H h a u
 | .tbl ps => h.get? a = some { cls := .none, data := .fields ps }
 | .met f x => h.get? a = some (PySem.W.methodObj (.ref f) (.ref x))
 | .ext φ => φ h ∧ (∃ o, h.get? a = some o) ∧ ∀ h1 h2 : Heap, φ h1 → (∀ o, h1.get? a = some o → h2.get? a = some o) → φ h2
def HOk (H : Hp) (h : Heap) : Prop := ∀ a o, H a = some o → ObjOk P w H h a o
end
section
variable {P : Program} {w : World} {H H' : Hp} {h h' : Heap} {a : Addr} {o : HO}
theorem ObjOk.lt (x : ObjOk P w H h a o) : a < h.objs.size := by
 cases o with
 | lst xs => obtain ⟨_, _, _, _, e⟩ := x; exact Heap.lt_size e
 | tup xs => obtain ⟨_, _, _, p⟩ := x; exact p.lt
 | dK kvs => obtain ⟨_, _, _, _, o, _, _, e, _⟩ := x; exact Heap.lt_size e
 | dT kvs => obtain ⟨_, _, _, _, o, _, _, e, _⟩ := x; exact Heap.lt_size e
 | set S n => obtain ⟨o, _, _, _, e, _⟩ := x; exact Heap.lt_size e
 | ins C dx fs => obtain ⟨_, _, _, e, _⟩ := x; exact Heap.lt_size e
 | own y => obtain ⟨_, e⟩ := x; exact Heap.lt_size e
 | xd fs => obtain ⟨_, ⟨_, _, _, e, _⟩, _⟩ := x; exact Heap.lt_size e
 | rng lo hi => obtain ⟨_, _, _, e⟩ := x; exact Heap.lt_size e
 | frz ob u => obtain ⟨e, _⟩ := x; exact Heap.lt_size e
 | tbl ps => exact Heap.lt_size (show h.get? a = some _ from x)
 | met f y => exact Heap.lt_size (show h.get? a = some _ from x)
 | ext φ => obtain ⟨_, ⟨_, e⟩, _⟩ := x; exact Heap.lt_size e
theorem Paired.mapP {α β : Type} {F G : α → β → Prop} : ∀ {l₁ : List α} {l₂ : List β}, Paired F l₁ l₂ → (∀ a b, F a b → G a b) → Paired G l₁ l₂
 | _, _, .nil, _ => .nil
 | _, _, .cons r t, f => .cons (f _ _ r) (Paired.mapP t f)
theorem ObjOk.stay (x : ObjOk P w H h a o) (k : ∀ b u, (b = a ∨ H b = some (.own a)) → h.get? b = some u → h'.get? b = some u)
 (ho : ∀ b, H b = some (.own a) → H' b = some (.own a)) (ht : ∀ b xs, H b = some (.tup xs) → H' b = some (.tup xs)) : ObjOk P w H' h' a o := by
 induction o with
 | lst xs => obtain ⟨z, its, n, r, e⟩ := x; exact ⟨z, its, n, r, k _ _ (.inl rfl) e⟩
 | tup xs => obtain ⟨z, its, r, ob, e, c⟩ := x; exact ⟨z, its, r, ob, k _ _ (.inl rfl) e, c⟩
 | dK kvs => obtain ⟨z, y, vs, r, ob, es, ep, e, c⟩ := x; exact ⟨z, y, vs, r, ob, es, ep, k _ _ (.inl rfl) e, c⟩
 | dT kvs =>
   obtain ⟨z, y, xs, r, ob, es, ep, e, c⟩ := x
   exact ⟨z, y, xs, Paired.mapP r fun p q z => ⟨z.1, ht _ _ z.2.1, z.2.2⟩, ob, es, ep, k _ _ (.inl rfl) e, c⟩
 | set S n => obtain ⟨ob, es, ep, t, e, c⟩ := x; exact ⟨ob, es, ep, t, k _ _ (.inl rfl) e, c⟩
 | ins C dx fs =>
   obtain ⟨d, z, ne, e, mA, ⟨od, es, ep, e2, c⟩, r⟩ := x
   exact ⟨ho _ d, z, ne, k _ _ (.inl rfl) e, mA, ⟨od, es, ep, k _ _ (.inr d) e2, c⟩, r⟩
 | own y => obtain ⟨ob, e⟩ := x; exact ⟨ob, k _ _ (.inl rfl) e⟩
 | xd fs => obtain ⟨mA, ⟨od, es, ep, e, c⟩, r⟩ := x; exact ⟨mA, ⟨od, es, ep, k _ _ (.inl rfl) e, c⟩, r⟩
 | rng lo hi => obtain ⟨t, u, v, e⟩ := x; exact ⟨t, u, v, k _ _ (.inl rfl) e⟩
 | frz ob u ih => obtain ⟨e, q⟩ := x; exact ⟨k _ _ (.inl rfl) e, ih q⟩
 | tbl ps =>
   have e : h.get? a = some { cls := .none, data := .fields ps } := x
   show h'.get? a = some { cls := .none, data := .fields ps }
   exact k a _ (.inl rfl) e
 | met f y =>
   have e : h.get? a = some (PySem.W.methodObj (.ref f) (.ref y)) := x
   show h'.get? a = some (PySem.W.methodObj (.ref f) (.ref y))
   exact k a _ (.inl rfl) e
 | ext φ => obtain ⟨p, ⟨o, e⟩, st⟩ := x; exact ⟨st _ _ p fun o q => k _ _ (.inl rfl) q, ⟨o, k _ _ (.inl rfl) e⟩, st⟩
theorem HOk.lt (x : HOk P w H h) (e : H a = some o) : a < h.objs.size := (x a o e).lt
theorem HOk.fresh (x : HOk P w H h) (e : h.objs.size ≤ a) : H a = none := by
 cases q : H a with
 | none => rfl
 | some u => exact absurd (Nat.lt_of_lt_of_le (x.lt q) e) (Nat.lt_irrefl _)
theorem HOk.kept (x : HOk P w H h) (k : ∀ b u, h.get? b = some u → h'.get? b = some u) : HOk P w H h' := fun a o e =>
 (x a o e).stay (fun b u _ q => k b u q) (fun _ q => q) fun _ _ q => q
theorem HOk.laid (x : HOk P w H h) (k : ∀ b u, h.get? b = some u → h'.get? b = some u) (hp : h.objs.size ≤ a) (new : ObjOk P w (upd H a o) h' a o) : HOk P w (upd H a o) h' := fun b u e => by
 have hn := x.fresh hp
 by_cases hb : b = a
 ·subst hb; rw [upd_same] at e; cases e; exact new
 ·rw [upd_ne hb] at e
  exact (x b u e).stay (fun c v _ q => k c v q) (fun c q => by rw [upd_ne (ne_of_none q hn)]; exact q) fun c xs q => by rw [upd_ne (ne_of_none q hn)]; exact q
end
def Rd (H : Hp) (a : Addr) (u : HO) : Prop := H a = some u ∨ ∃ o, H a = some (.frz o u)
theorem Rd.ok {P : Program} {w : World} {H : Hp} {h : Heap} {a : Addr} {u : HO} (r : Rd H a u) (x : HOk P w H h) : ObjOk P w H h a u := by
 rcases r with r | ⟨o, r⟩
 ·exact x a u r
 ·obtain ⟨_, q⟩ := x a _ r
  exact q
def Mut : Option HO → Prop
 | some (.lst _) => True
 | some (.dK _) => True
 | some (.dT _) => True
 | some (.set _ _) => True
 | some (.ins _ _ _) => True
 | some (.ext _) => True
 | _ => False
section
variable {P : Program} {w : World} {H : Hp} {h h' : Heap} {x e : Addr} {o' : HO}
theorem HOk.write (ok : HOk P w H h) (mu : Mut (H x)) (he : e = x ∨ H e = some (.own x)) (k : ∀ b u, b ≠ e → h.get? b = some u → h'.get? b = some u) (heo : ∃ u, h'.get? e = some u)
 (new : ObjOk P w (upd H x o') h' x o') : HOk P w (upd H x o') h' := fun b u q => by
 have nown : ∀ c y, H c = some (.own y) → c ≠ x := fun c y r z => by subst z; rw [r] at mu; exact mu
 have ntup : ∀ c xs, H c = some (.tup xs) → c ≠ x := fun c xs r z => by subst z; rw [r] at mu; exact mu
 by_cases hb : b = x
 ·subst hb; rw [upd_same] at q; cases q; exact new
 ·rw [upd_ne hb] at q
  by_cases hbe : b = e
  ·have q' : H b = some (.own x) := by
    rcases he with z | z
    ·exact absurd (hbe.trans z) hb
    ·rw [hbe]; exact z
   rw [q] at q'; cases q'
   obtain ⟨v, hv⟩ := heo
   exact ⟨v, by rw [hbe]; exact hv⟩
  ·refine (ok b u q).stay (fun c v hc r => k c v ?_ r) (fun c r => by rw [upd_ne (nown c b r)]; exact r) fun c xs r => by rw [upd_ne (ntup c xs r)]; exact r
   rcases hc with rfl | hc
   ·exact hbe
   ·rintro rfl
    rcases he with z | z
    ·exact nown c b hc z
    ·rw [hc] at z; cases z; exact hb rfl
end
structure Un (fs ex : List Addr) (H H' : Hp) (h h' : Heap) : Prop where
 keep : ∀ b o, h.get? b = some o → H b = none → b ∉ fs → b ∉ ex → h'.get? b = some o
 slot : ∀ b o, h.get? b = some o → H b = none → b ∈ fs → b ∉ ex → ∃ sl, h'.get? b = some { o with slots := sl }
 free : ∀ b o, h.get? b = some o → H b = none → b ∉ ex → H' b = none
 there : ∀ b o, h.get? b = some o → b ∉ ex → ∃ o', h'.get? b = some o'
 tups : ∀ b xs, H b = some (.tup xs) → H' b = some (.tup xs)
 frzs : ∀ b o u, H b = some (.frz o u) → H' b = some (.frz o u)
 tbls : ∀ b ps, H b = some (.tbl ps) → ∃ more, H' b = some (.tbl (ps ++ more))
section
variable {fs fs' ex ex' : List Addr} {H H1 H2 : Hp} {h h1 h2 h' : Heap} {a x e : Addr} {o : HO}
theorem Un.any (u : Un fs ex H H1 h h1) {b : Addr} {ob : Obj} (q : h.get? b = some ob) (n : H b = none) (hx : b ∉ ex) : ∃ sl, h1.get? b = some { ob with slots := sl } := by
 by_cases hb : b ∈ fs
 ·exact u.slot b ob q n hb hx
 ·exact ⟨ob.slots, u.keep b ob q n hb hx⟩
theorem Un.kept (k : ∀ b u, h.get? b = some u → h'.get? b = some u) : Un fs ex H H h h' :=
 ⟨fun b ob q _ _ _ => k b ob q, fun b ob q _ _ _ => ⟨ob.slots, k b ob q⟩, fun _ _ _ n _ => n, fun b ob q _ => ⟨ob, k b ob q⟩, fun _ _ q => q, fun _ _ _ q => q, fun _ ps q => ⟨#[], by rw [q]; simp⟩⟩
theorem Un.refl : Un fs ex H H h h := Un.kept fun _ _ q => q
theorem Un.laid (k : ∀ b u, h.get? b = some u → h'.get? b = some u) (hp : h.objs.size ≤ a) (hn : H a = none) : Un fs ex H (upd H a o) h h' where
 keep := fun b u q _ _ _ => k b u q
 slot := fun b u q _ _ _ => ⟨u.slots, k b u q⟩
 free := fun b u q n _ => by rw [upd_ne (Nat.ne_of_lt (Nat.lt_of_lt_of_le (Heap.lt_size q) hp))]; exact n
 there := fun b u q _ => ⟨u, k b u q⟩
 tups := fun b xs q => by rw [upd_ne (ne_of_none q hn)]; exact q
 frzs := fun b u xs q => by rw [upd_ne (ne_of_none q hn)]; exact q
 tbls := fun b ps q => ⟨#[], by rw [upd_ne (ne_of_none q hn), q]; simp⟩
theorem Un.write (mu : Mut (H x)) (he : e = x ∨ H e = some (.own x)) (k : ∀ b u, b ≠ e → h.get? b = some u → h'.get? b = some u) (heo : ∃ u, h'.get? e = some u) : Un fs ex H (upd H x o) h h' := by
 have hx : ∀ b, H b = none → b ≠ x := fun b n z => by subst z; rw [n] at mu; exact mu
 have hb : ∀ b, H b = none → b ≠ e := fun b n z => by
  subst z
  rcases he with r | r
  ·exact hx b n r
  ·rw [n] at r; cases r
 have hm : ∀ b u, H b = some u → ¬ Mut (some u) → b ≠ x := fun b u q nm z => by subst z; rw [q] at mu; exact nm mu
 refine ⟨fun b u q n _ _ => k b u (hb b n) q, fun b u q n _ _ => ⟨u.slots, k b u (hb b n) q⟩, fun b u q n _ => by rw [upd_ne (hx b n)]; exact n, fun b u q _ => ?_,
  fun b xs q => by rw [upd_ne (hm b _ q fun z => z)]; exact q, fun b u xs q => by rw [upd_ne (hm b _ q fun z => z)]; exact q, fun b ps q => ⟨#[], by rw [upd_ne (hm b _ q fun z => z), q]; simp⟩⟩
 by_cases hbe : b = e
 ·subst hbe; exact heo
 ·exact ⟨u, k b u hbe q⟩
end
def trk (h : Heap) (H : Hp) : List Addr := (List.range h.objs.size).filter fun a => (H a).isSome
def hidT (h : Heap) (H : Hp) : Heap := PySem.W.hideAll h (trk h H)
theorem hidT_size (h : Heap) (H : Hp) : (hidT h H).objs.size = h.objs.size := PySem.W.hideAll_size _ _
theorem hidT_get {h : Heap} {H : Hp} {b : Addr} {o : Obj} (e : h.get? b = some o) (n : H b = none) : (hidT h H).get? b = some o :=
 PySem.W.hideAll_get _ e fun hm => by
  have q : (H b).isSome = true := (List.mem_filter.mp hm).2
  rw [n] at q; simp at q
theorem of_hidT {h : Heap} {H : Hp} {b : Addr} {o : Obj} (e : (hidT h H).get? b = some o) : h.get? b = some o ∧ H b = none := by
 have e' : h.get? b = some o := PySem.W.of_hideAll (trk h H) e
 refine ⟨e', ?_⟩
 cases q : H b with
 | none => rfl
 | some x =>
   have hm : b ∈ trk h H := List.mem_filter.mpr ⟨List.mem_range.mpr (Heap.lt_size e'), by simp [q]⟩
   have z : (hidT h H).get? b = none := PySem.W.hideAll_none (trk h H) hm
   rw [z] at e; cases e
def allNews (g h : Heap) (L : Addr) : List (Addr × Obj) := (List.range h.objs.size).filterMap fun a => if a = L ∨ (g.get? a).isSome = true then none else (h.get? a).map fun o => (a, o)
def rest (g h : Heap) (L d : Addr) : List (Addr × Obj) := (allNews g h L).filter fun p => decide (p.1 ≠ d)
end L2
namespace L2
open PySem PySem.Spec PyProof.Rows
structure Mod (K : PySem.W.Frag) (mg : Str → Option Value) (base : Heap) : Prop where
 kin : K.In base
 glob : base.Ns mainGlobals mg
 blt : ∃ mb, base.Ns builtinsNs mb ∧ ∀ x : Str, x ≠ "__name__" → mb x = bootBuiltins x
 nolimit : base.NoLimit
structure Cx where
 prog : Program
 w : World
 K : PySem.W.Frag
 mg : Str → Option Value
 base : Heap
 A : Around
 N : List Str
 s₀ : Shared
 H₀ : Hp
 env : Env
 outer : List Env
 stack : List Env
 ex : List Addr
 fn : Str → Bool
 calm : Bool
 pn : List (Addr × Obj)
 xe : Value → Shared → Prop
def frs (l : List Env) : List Addr := l.filterMap (·.frame)
abbrev Cx.fs (X : Cx) : List Addr := frs X.outer
def Vis (sc : Scope) (x : Str) : Prop := sc.names.lookup x = some .local ∨ sc.names.lookup x = some .cell ∨ sc.names.lookup x = some .free
def Loc (sc : Scope) (x : Str) : Prop := sc.names.lookup x = some .local ∨ sc.names.lookup x = some .cell
def Look (env : Env) (h : Heap) (m : Str → Option Value) (x : Str) (u : Value) : Prop :=
 (env.kindOf x = some .local ∧ m x = some u) ∨ ((env.kindOf x = some .cell ∨ env.kindOf x = some .free) ∧ ∃ c, env.cells.lookup x = some c ∧ h.IsCell c (some u))
structure Cx.Ok (X : Cx) : Prop where
 mod : Mod X.K X.mg X.base
 kind : X.env.scope.kind = .function
 glob : X.env.globals = mainGlobals
 blt : X.env.builtins = builtinsNs
 above : X.s₀.heap.objs.size ≤ X.env.locals
 inj : ∀ x y c, X.env.cells.lookup x = some c → X.env.cells.lookup y = some c → x = y
 has : ∀ x, (X.env.kindOf x = some .cell ∨ X.env.kindOf x = some .free) → ∃ c, X.env.cells.lookup x = some c
 cab : ∀ x c, X.fn x = true → X.env.cells.lookup x = some c → X.s₀.heap.objs.size ≤ c
 hd : X.calm = true → X.A.handled = none
 frames : X.A.frames = some X.stack
 stk : X.stack = X.outer ∨ (X.stack = X.env :: X.outer ∧ X.env.frame = some X.env.locals)
 exf : ∀ b ∈ X.ex, b ≠ X.env.locals ∧ ∀ x c, X.env.cells.lookup x = some c → c ≠ b
 bs : ∀ b o, X.base.get? b = some o → X.s₀.heap.get? b = some o ∧ X.H₀ b = none
 bsz : X.base.objs.size ≤ X.s₀.heap.objs.size
 noex : ∀ b o, X.base.get? b = some o → b ∉ X.ex
 exfs : ∀ b ∈ X.ex, b ∉ X.fs
 funs : X.s₀.heap.FunFrames X.base X.outer
 frf : ∀ b ∈ X.fs, X.H₀ b = none
structure Inv (X : Cx) (pins : List (Addr × Obj)) (σ : List (Option V)) (H : Hp) (s : Shared) : Prop where
 ok : X.Ok
 os : s.os = X.s₀.os
 bare : AllBare s.gens
 base : Un X.fs X.ex X.H₀ H X.s₀.heap s.heap
 loc : ∃ m, s.heap.Ns X.env.locals m ∧ ∀ (i : Nat) (x : Str) (v : V), X.N[i]? = some x → σ[i]? = some (some v) → Vis X.env.scope x → ∃ u, RelV v u ∧ Look X.env s.heap m x u
 cell : ∀ x c, X.env.cells.lookup x = some c → ∃ v, s.heap.IsCell c v
 free : H X.env.locals = none
 freeC : ∀ x c, X.env.cells.lookup x = some c → H c = none
 pin : ∀ p ∈ X.pn ++ pins, s.heap.get? p.1 = some p.2 ∧ H p.1 = none ∧ p.1 ≠ X.env.locals ∧ p.1 ∉ X.fs ∧ ∀ v, p.2.data ≠ .cell v
 hok : HOk X.prog X.w H s.heap
 len : σ.length = X.N.length
section
variable {X : Cx} {pins : List (Addr × Obj)} {σ : List (Option V)} {H H' : Hp} {s : Shared} {h' : Heap}
theorem Cx.Ok.nofr (ok : X.Ok) {b : Addr} {o : Obj} (e : X.base.get? b = some o) : b ∉ X.fs := fun hb => by
 have := (ok.funs.mem hb).1
 rw [e] at this; cases this
theorem Inv.bs (I : Inv X pins σ H s) : ∀ b o, X.base.get? b = some o → s.heap.get? b = some o ∧ H b = none := fun b o e =>
 ⟨I.base.keep b o (I.ok.bs b o e).1 (I.ok.bs b o e).2 (I.ok.nofr e) (I.ok.noex b o e), I.base.free b o (I.ok.bs b o e).1 (I.ok.bs b o e).2 (I.ok.noex b o e)⟩
theorem Inv.bk (I : Inv X pins σ H s) : ∀ b o, X.base.get? b = some o → s.heap.get? b = some o := fun b o e => (I.bs b o e).1
theorem Inv.mod (I : Inv X pins σ H s) : Mod X.K X.mg X.base := I.ok.mod
theorem Inv.kIn (I : Inv X pins σ H s) : X.K.In s.heap := I.ok.mod.kin.keeps I.bk
theorem Inv.lt (I : Inv X pins σ H s) : X.env.locals < s.heap.objs.size := let ⟨_, hn, _⟩ := I.loc; hn.lt
theorem Inv.sz (I : Inv X pins σ H s) : X.s₀.heap.objs.size ≤ s.heap.objs.size := Nat.le_trans I.ok.above (Nat.le_of_lt I.lt)
theorem Inv.nofs (I : Inv X pins σ H s) {a : Addr} (h : s.heap.objs.size ≤ a) : a ∉ X.fs := fun hb => by
 obtain ⟨_, o, ho, _⟩ := I.ok.funs.mem hb
 exact absurd (Nat.lt_of_lt_of_le (Heap.lt_size ho) (Nat.le_trans I.sz h)) (Nat.lt_irrefl _)
theorem Inv.cne (I : Inv X pins σ H s) : ∀ x c, X.env.cells.lookup x = some c → c ≠ X.env.locals := fun x c e z => by
 obtain ⟨v, o, ho, hd⟩ := I.cell x c e
 obtain ⟨m, ⟨o', es, ep, ho', hd', _⟩, _⟩ := I.loc
 rw [z, ho'] at ho; cases ho; rw [hd'] at hd; cases hd
theorem Inv.funs (I : Inv X pins σ H s) : s.heap.FunFrames X.base X.outer := by
 have all : ∀ (l : List Env), (∀ b ∈ frs l, b ∈ X.fs) → X.s₀.heap.FunFrames X.base l → s.heap.FunFrames X.base l := by
  intro l
  induction l with
  | nil => intro _ _; trivial
  | cons env r ih =>
    intro hs hl
    obtain ⟨hk, ⟨L, o, hf, hn, ho, hd⟩, hr⟩ := hl
    have hL : L ∈ X.fs := hs L (by unfold frs; rw [List.filterMap_cons, hf]; exact List.mem_cons_self)
    obtain ⟨sl, e⟩ := I.base.slot L o ho (I.ok.frf L hL) hL fun z => I.ok.exfs L z hL
    exact ⟨hk, ⟨L, _, hf, hn, e, hd⟩, ih (fun b hb => hs b (by unfold frs; rw [List.filterMap_cons, hf]; exact List.mem_cons_of_mem _ hb)) hr⟩
 exact all X.outer (fun _ hb => hb) I.ok.funs
theorem Inv.stack (I : Inv X pins σ H s) : s.heap.FunFrames X.base X.stack := by
 rcases I.ok.stk with e | ⟨e, hf⟩
 ·rw [e]; exact I.funs
 ·rw [e]
  obtain ⟨m, hn, _⟩ := I.loc
  refine .cons (by rw [I.ok.kind]; decide) hf hn ?_ I.funs
  exact Heap.get?_none_of_le (Nat.le_trans I.ok.bsz I.ok.above)
theorem Inv.stkSub (I : Inv X pins σ H s) : ∀ b ∈ frs X.stack, b ∈ X.env.locals :: X.fs := fun b hb => by
 rcases I.ok.stk with e | ⟨e, hf⟩
 ·rw [e] at hb; exact List.mem_cons_of_mem _ hb
 ·rw [e] at hb
  unfold frs at hb
  rw [List.filterMap_cons, hf] at hb
  exact hb
theorem Inv.stkFree (I : Inv X pins σ H s) : ∀ b ∈ frs X.stack, H b = none := fun b hb => by
 rcases List.mem_cons.mp (I.stkSub b hb) with e | hb
 ·rw [e]; exact I.free
 ·obtain ⟨_, o, ho, _⟩ := I.ok.funs.mem hb
  exact I.base.free b o ho (I.ok.frf b hb) fun z => I.ok.exfs b z hb
theorem Inv.step {g' : Array GenState} {t' : Nat} {d' : Drawn} {ch : List Addr} (I : Inv X pins σ H s)
 (hch : ∀ b ∈ ch, (b ∈ X.ex ∨ X.s₀.heap.objs.size ≤ b) ∧ b ≠ X.env.locals ∧ (∀ x c, X.env.cells.lookup x = some c → c ≠ b) ∧ ∀ p ∈ X.pn ++ pins, p.1 ≠ b)
 (keep : ∀ b o, b ≠ X.env.locals → b ∉ X.fs → b ∉ ch → s.heap.get? b = some o → H b = none → h'.get? b = some o)
 (slot : ∀ b o, b ≠ X.env.locals → b ∈ X.fs → b ∉ ch → s.heap.get? b = some o → H b = none → ∃ sl, h'.get? b = some { o with slots := sl }) (free : ∀ b o, b ∉ ch → s.heap.get? b = some o → H b = none → H' b = none)
 (there : ∀ b o, b ∉ ch → s.heap.get? b = some o → ∃ o', h'.get? b = some o')
 (tups : ∀ b xs, H b = some (.tup xs) → H' b = some (.tup xs)) (frzs : ∀ b o u, H b = some (.frz o u) → H' b = some (.frz o u)) (tbls : ∀ b ps, H b = some (.tbl ps) → ∃ more, H' b = some (.tbl (ps ++ more)))
 (ns : ∀ m, s.heap.Ns X.env.locals m → h'.Ns X.env.locals m) (hok : HOk X.prog X.w H' h') (hg : AllBare g') :
 Inv X pins σ H' { s with heap := h', gens := g', drawn := d', toks := t' } := by
 have neL : ∀ b o, X.s₀.heap.get? b = some o → b ≠ X.env.locals := fun b o e => Nat.ne_of_lt (Nat.lt_of_lt_of_le (Heap.lt_size e) I.ok.above)
 have neC : ∀ b o, X.s₀.heap.get? b = some o → b ∉ X.ex → b ∉ ch := fun b o e hx hb => by
  rcases (hch b hb).1 with z | z
  ·exact hx z
  ·exact absurd (Nat.lt_of_lt_of_le (Heap.lt_size e) z) (Nat.lt_irrefl _)
 have cellK : ∀ x c, X.env.cells.lookup x = some c → ∀ v, s.heap.IsCell c v → h'.IsCell c v := fun x c e v ⟨o, ho, hd⟩ => by
  have nch : c ∉ ch := fun z => (hch c z).2.2.1 x c e rfl
  by_cases hc : c ∈ X.fs
  ·obtain ⟨sl, q⟩ := slot c o (I.cne x c e) hc nch ho (I.freeC x c e)
   exact ⟨_, q, hd⟩
  ·exact ⟨o, keep c o (I.cne x c e) hc nch ho (I.freeC x c e), hd⟩
 refine ⟨I.ok, I.os, hg, ⟨fun b o e n hb hx => ?_, fun b o e n hb hx => ?_, fun b o e n hx => ?_, fun b o e hx => ?_, fun b xs e => tups b xs (I.base.tups b xs e), fun b o xs e => frzs b o xs (I.base.frzs b o xs e), fun b ps e => ?_⟩, ?_, fun x c e => ?_, ?_, fun x c e => ?_, fun p hp => ?_, hok, I.len⟩
 ·exact keep b o (neL b o e) hb (neC b o e hx) (I.base.keep b o e n hb hx) (I.base.free b o e n hx)
 ·obtain ⟨sl, e1⟩ := I.base.slot b o e n hb hx
  obtain ⟨sl', e2⟩ := slot b _ (neL b o e) hb (neC b o e hx) e1 (I.base.free b o e n hx)
  exact ⟨sl', e2⟩
 ·obtain ⟨o', e1⟩ := I.base.there b o e hx
  exact free b o' (neC b o e hx) e1 (I.base.free b o e n hx)
 ·obtain ⟨o', e1⟩ := I.base.there b o e hx
  exact there b o' (neC b o e hx) e1
 ·obtain ⟨m1, e1⟩ := I.base.tbls b ps e
  obtain ⟨m2, e2⟩ := tbls b _ e1
  exact ⟨m1 ++ m2, by rw [e2, Array.append_assoc]⟩
 ·obtain ⟨m, hn, hl⟩ := I.loc
  refine ⟨m, ns m hn, fun i x v e1 e2 e3 => ?_⟩
  obtain ⟨u, r, l⟩ := hl i x v e1 e2 e3
  refine ⟨u, r, ?_⟩
  rcases l with l | ⟨k, c, e, z⟩
  ·exact .inl l
  ·exact .inr ⟨k, c, e, cellK x c e _ z⟩
 ·obtain ⟨v, z⟩ := I.cell x c e
  exact ⟨v, cellK x c e v z⟩
 ·obtain ⟨m, ⟨o, _, _, ho, _⟩, _⟩ := I.loc
  exact free _ o (fun z => (hch _ z).2.1 rfl) ho I.free
 ·obtain ⟨v, o, ho, hd⟩ := I.cell x c e
  exact free c o (fun z => (hch c z).2.2.1 x c e rfl) ho (I.freeC x c e)
 ·obtain ⟨e, n, ne, nf, d⟩ := I.pin p hp
  have nch : p.1 ∉ ch := fun z => (hch p.1 z).2.2.2 p hp rfl
  exact ⟨keep p.1 p.2 ne nf nch e n, free p.1 p.2 nch e n, ne, nf, d⟩
theorem Inv.un {t' : Nat} (I : Inv X pins σ H s) (u : Un X.fs [] H H' s.heap h') (hok : HOk X.prog X.w H' h') : Inv X pins σ H' { s with heap := h', toks := t' } := by
 obtain ⟨m, ⟨o, es, ep, ho, r⟩, _⟩ := id I.loc
 obtain ⟨sl, hL⟩ := u.any ho I.free (by simp)
 exact I.step (g' := s.gens) (d' := s.drawn) (ch := []) (fun _ z => nomatch z) (fun b o _ hb _ e n => u.keep b o e n hb (by simp)) (fun b o _ hb _ e n => u.slot b o e n hb (by simp)) (fun b o _ e n => u.free b o e n (by simp)) (fun b o _ e => u.there b o e (by simp)) u.tups u.frzs u.tbls (fun m' hm => by
  obtain ⟨o', es', ep', ho', r'⟩ := hm
  rw [ho] at ho'; cases ho'
  exact ⟨_, es', ep', hL, r'⟩) hok I.bare
theorem Inv.call {g' : Array GenState} {t' : Nat} {d' : Drawn} {ch : List Addr} (I : Inv X pins σ H s) (u : Un (frs X.stack) ch H H' s.heap h') (hok : HOk X.prog X.w H' h') (hg : AllBare g')
 (hch : ∀ b ∈ ch, (b ∈ X.ex ∨ X.s₀.heap.objs.size ≤ b) ∧ b ≠ X.env.locals ∧ (∀ x c, X.env.cells.lookup x = some c → c ≠ b) ∧ ∀ p ∈ X.pn ++ pins, p.1 ≠ b) :
 Inv X pins σ H' { s with heap := h', gens := g', drawn := d', toks := t' } := by
 obtain ⟨m, ⟨o, es, ep, ho, r⟩, _⟩ := id I.loc
 obtain ⟨sl, hL⟩ := u.any ho I.free fun z => (hch _ z).2.1 rfl
 exact I.step (ch := ch) hch (fun b o hL hb hc e n => u.keep b o e n (fun z => (List.mem_cons.mp (I.stkSub b z)).elim hL hb) hc) (fun b o _ _ hc e n => u.any e n hc) (fun b o hc e n => u.free b o e n hc) (fun b o hc e => u.there b o e hc) u.tups u.frzs u.tbls (fun m' hm => by
  obtain ⟨o', es', ep', ho', r'⟩ := hm
  rw [ho] at ho'; cases ho'
  exact ⟨_, es', ep', hL, r'⟩) hok hg
theorem Inv.turned {t' : Nat} {it : Addr} (I : Inv X pins σ H s) (k : ∀ b o, b ≠ it → s.heap.get? b = some o → h'.get? b = some o) (hn : H it = none) (hL : it ≠ X.env.locals)
 (h1 : it ∈ X.ex ∨ X.s₀.heap.objs.size ≤ it) (h2 : ∀ x c, X.env.cells.lookup x = some c → c ≠ it) (h3 : ∀ p ∈ X.pn ++ pins, p.1 ≠ it) : Inv X pins σ H { s with heap := h', toks := t' } := by
 have nit : ∀ b u, H b = some u → b ≠ it := fun b u e z => by rw [z, hn] at e; cases e
 refine I.step (g' := s.gens) (d' := s.drawn) (ch := [it]) (fun b hb => ?_) (fun b o _ _ hc e _ => k b o (fun z => hc (by simp [z])) e) (fun b o _ _ hc e _ => ⟨o.slots, k b o (fun z => hc (by simp [z])) e⟩) (fun _ _ _ _ n => n)
  (fun b o hc e => ⟨o, k b o (fun z => hc (by simp [z])) e⟩) (fun _ _ e => e) (fun _ _ _ e => e) (fun b ps e => ⟨#[], by rw [e]; simp⟩) (fun m hm => ?_) (fun b u e => ?_) I.bare
 ·have e : b = it := by simpa using hb
  subst e
  exact ⟨h1, hL, h2, h3⟩
 ·obtain ⟨o, es, ep, ho, r⟩ := hm
  exact ⟨o, es, ep, k _ o (Ne.symm hL) ho, r⟩
 ·refine (I.hok b u e).stay (fun c v hc q => k c v ?_ q) (fun _ q => q) fun _ _ q => q
  rcases hc with z | z
  ·rw [z]; exact nit b u e
  ·exact nit c _ z
theorem Inv.tok (I : Inv X pins σ H s) (t : Nat) : Inv X pins σ H { s with toks := t } := I.un (h' := s.heap) (t' := t) Un.refl I.hok
theorem Inv.kept {t' : Nat} (I : Inv X pins σ H s) (k : ∀ b u, s.heap.get? b = some u → h'.get? b = some u) : Inv X pins σ H { s with heap := h', toks := t' } := I.un (Un.kept k) (I.hok.kept k)
theorem Inv.laid {a : Addr} {o : HO} {t' : Nat} (I : Inv X pins σ H s) (k : ∀ b u, s.heap.get? b = some u → h'.get? b = some u) (hp : s.heap.objs.size ≤ a) (new : ObjOk X.prog X.w (upd H a o) h' a o) :
 Inv X pins σ (upd H a o) { s with heap := h', toks := t' } := I.un (Un.laid k hp (I.hok.fresh hp)) (I.hok.laid k hp new)
theorem Inv.write {x e : Addr} {o : HO} {t' : Nat} (I : Inv X pins σ H s) (mu : Mut (H x)) (he : e = x ∨ H e = some (.own x)) (k : ∀ b u, b ≠ e → s.heap.get? b = some u → h'.get? b = some u) (heo : ∃ u, h'.get? e = some u)
 (new : ObjOk X.prog X.w (upd H x o) h' x o) : Inv X pins σ (upd H x o) { s with heap := h', toks := t' } := I.un (Un.write mu he k heo) (I.hok.write mu he k heo new)
theorem Inv.weak {σ' : List (Option V)} (I : Inv X pins σ H s) (hl : σ'.length = σ.length) (w : ∀ (i : Nat) v, σ'[i]? = some (some v) → σ[i]? = some (some v)) : Inv X pins σ' H s :=
 ⟨I.ok, I.os, I.bare, I.base, let ⟨m, hn, hl'⟩ := I.loc; ⟨m, hn, fun i x v e1 e2 e3 => hl' i x v e1 (w i v e2) e3⟩, I.cell, I.free, I.freeC, I.pin, I.hok, hl.trans I.len⟩
theorem Inv.pins_of {pins' : List (Addr × Obj)} (I : Inv X pins σ H s) (h : ∀ p ∈ pins', s.heap.get? p.1 = some p.2 ∧ H p.1 = none ∧ p.1 ≠ X.env.locals ∧ p.1 ∉ X.fs ∧ ∀ v, p.2.data ≠ .cell v) : Inv X pins' σ H s :=
 ⟨I.ok, I.os, I.bare, I.base, I.loc, I.cell, I.free, I.freeC, fun p hp => (List.mem_append.mp hp).elim (fun z => I.pin p (List.mem_append_left _ z)) (h p), I.hok, I.len⟩
theorem nodup_ix {N : List Str} (hN : N.Nodup) {i j : Nat} {x : Str} (a : N[i]? = some x) (b : N[j]? = some x) : i = j := by
 obtain ⟨h1, e1⟩ := List.getElem?_eq_some_iff.mp a
 obtain ⟨h2, e2⟩ := List.getElem?_eq_some_iff.mp b
 exact (List.getElem_inj hN).mp (e1.trans e2.symm)
theorem store_ok2 {M : Model} {A : Around} {E : Value → Shared → Prop} {i : Nat} {x : Str} {v : V} {u : Value} {Q : Unit → Shared → Prop} (I : Inv X pins σ H s) (hN : X.N.Nodup) (hi : X.N[i]? = some x) (hx : Loc X.env.scope x) (r : RelV v u)
 (h : ∀ s', Inv X pins (σ.set i (some v)) H s' → (∃ a, Heap.SameBut a s.heap s'.heap ∧ (a = X.env.locals ∨ X.env.cells.lookup x = some a)) → Q () s') (hf : X.fn x = true ∨ X.env.scope.names.lookup x = some .local := by first | exact .inl rfl | exact .inr rfl | assumption) : wpAny M A (storeName X.env x u) Q E s := by
 obtain ⟨m, hn, hl⟩ := id I.loc
 have hcls : (X.env.scope.kind == .class || (X.env.scope.kind == .module && X.env.locals != X.env.globals)) = false := by rw [I.ok.kind]; rfl
 have hiσ : i < σ.length := by rw [I.len]; exact (List.getElem?_eq_some_iff.mp hi).1
 have cne := I.cne
 have tracked : ∀ {a : Addr} {h' : Heap}, (∃ o, s.heap.get? a = some o ∧ H a = none) → Heap.SameBut a s.heap h' → HOk X.prog X.w H h' := fun {a h'} ha hs b ob e => by
  obtain ⟨_, _, hfree⟩ := ha
  refine (I.hok b ob e).stay (fun c w' hc q => (hs.2 c ?_).trans q) (fun _ q => q) fun _ _ q => q
  rintro rfl
  rcases hc with rfl | hc
  ·rw [hfree] at e; cases e
  ·rw [hfree] at hc; cases hc
 rcases hx with hk | hk
 ·refine wpAny_storeName_local hk hn (fun h' hn' hs => ?_) hcls
  obtain ⟨oL, _, _, hoL, _⟩ := id hn
  refine h _ ⟨I.ok, I.os, I.bare, ⟨fun b o e n hb hx => ?_, fun b o e n hb hx => ?_, I.base.free, fun b o e hx => ?_, I.base.tups, I.base.frzs, I.base.tbls⟩, ⟨_, hn', fun j y v' e1 e2 e3 => ?_⟩, fun y c e => ?_, I.free, I.freeC, fun p hp => ?_, tracked ⟨oL, hoL, I.free⟩ hs, by simpa using I.len⟩ ⟨_, hs, .inl rfl⟩
  ·exact (hs.2 b (Nat.ne_of_lt (Nat.lt_of_lt_of_le (Heap.lt_size e) I.ok.above))).trans (I.base.keep b o e n hb hx)
  ·obtain ⟨sl, e1⟩ := I.base.slot b o e n hb hx
   exact ⟨sl, (hs.2 b (Nat.ne_of_lt (Nat.lt_of_lt_of_le (Heap.lt_size e) I.ok.above))).trans e1⟩
  ·obtain ⟨o', e1⟩ := I.base.there b o e hx
   exact ⟨o', (hs.2 b (Nat.ne_of_lt (Nat.lt_of_lt_of_le (Heap.lt_size e) I.ok.above))).trans e1⟩
  ·by_cases hj : j = i
   ·subst hj
    rw [hi] at e1; cases e1
    rw [List.getElem?_set_self hiσ] at e2
    cases e2
    exact ⟨u, r, .inl ⟨hk, by simp⟩⟩
   ·rw [List.getElem?_set_ne (Ne.symm hj)] at e2
    obtain ⟨u', r', q⟩ := hl j y v' e1 e2 e3
    refine ⟨u', r', ?_⟩
    rcases q with ⟨k, e⟩ | ⟨k, c, e, z⟩
    ·refine .inl ⟨k, ?_⟩
     have : y ≠ x := fun e => hj (nodup_ix hN e1 (e ▸ hi))
     simp [this, e]
    ·exact .inr ⟨k, c, e, z.sameBut hs (cne y c e)⟩
  ·obtain ⟨w', z⟩ := I.cell y c e
   exact ⟨w', z.sameBut hs (cne y c e)⟩
  ·obtain ⟨e, n, ne, nf, d⟩ := I.pin p hp
   exact ⟨(hs.2 p.1 ne).trans e, n, ne, nf, d⟩
 ·have hfn : X.fn x = true := by
   rcases hf with z | z
   ·exact z
   ·rw [z] at hk; cases hk
  obtain ⟨c, hc⟩ := I.ok.has x (.inl hk)
  obtain ⟨w', z⟩ := I.cell x c hc
  refine wpAny_storeName_cell I.ok.kind hk hc z (fun h' hc' hs => ?_)
  obtain ⟨oc, hoc, hocd⟩ := id z
  refine h { s with heap := h' } ⟨I.ok, I.os, I.bare, ⟨fun b o e n hb hx => ?_, fun b o e n hb hx => ?_, I.base.free, fun b o e hx => ?_, I.base.tups, I.base.frzs, I.base.tbls⟩, ⟨m, hn.sameBut hs (Ne.symm (cne x c hc)), fun j y v' e1 e2 e3 => ?_⟩, fun y c' e => ?_, I.free, I.freeC, fun p hp => ?_, tracked ⟨oc, hoc, I.freeC x c hc⟩ hs, by simpa using I.len⟩ ⟨c, hs, .inr hc⟩
  ·exact (hs.2 b (Nat.ne_of_lt (Nat.lt_of_lt_of_le (Heap.lt_size e) (I.ok.cab x c hfn hc)))).trans (I.base.keep b o e n hb hx)
  ·obtain ⟨sl, e1⟩ := I.base.slot b o e n hb hx
   exact ⟨sl, (hs.2 b (Nat.ne_of_lt (Nat.lt_of_lt_of_le (Heap.lt_size e) (I.ok.cab x c hfn hc)))).trans e1⟩
  ·obtain ⟨o', e1⟩ := I.base.there b o e hx
   exact ⟨o', (hs.2 b (Nat.ne_of_lt (Nat.lt_of_lt_of_le (Heap.lt_size e) (I.ok.cab x c hfn hc)))).trans e1⟩
  ·by_cases hj : j = i
   ·subst hj
    rw [hi] at e1; cases e1
    rw [List.getElem?_set_self hiσ] at e2
    cases e2
    exact ⟨u, r, .inr ⟨.inl hk, c, hc, hc'⟩⟩
   ·rw [List.getElem?_set_ne (Ne.symm hj)] at e2
    obtain ⟨u', r', q⟩ := hl j y v' e1 e2 e3
    refine ⟨u', r', ?_⟩
    rcases q with q | ⟨k, c', e, z'⟩
    ·exact .inl q
    ·refine .inr ⟨k, c', e, z'.sameBut hs ?_⟩
     rintro rfl
     exact hj (nodup_ix hN e1 (I.ok.inj _ _ _ e hc ▸ hi))
  ·by_cases hcc : c' = c
   ·subst hcc; exact ⟨_, hc'⟩
   ·obtain ⟨w2, z2⟩ := I.cell y c' e
    exact ⟨w2, z2.sameBut hs hcc⟩
  ·obtain ⟨e, n, ne, nf, d⟩ := I.pin p hp
   refine ⟨(hs.2 p.1 ?_).trans e, n, ne, nf, d⟩
   intro q
   rw [q, hoc] at e
   have q' : oc = p.2 := Option.some.inj e
   exact d w' (by rw [← q']; exact hocd)
theorem store_ok {M : Model} {A : Around} {E : Value → Shared → Prop} {i : Nat} {x : Str} {v : V} {u : Value} {Q : Unit → Shared → Prop} (I : Inv X pins σ H s) (hN : X.N.Nodup) (hi : X.N[i]? = some x) (hx : Loc X.env.scope x) (r : RelV v u)
 (h : ∀ s', Inv X pins (σ.set i (some v)) H s' → Q () s') (hf : X.fn x = true ∨ X.env.scope.names.lookup x = some .local := by first | exact .inl rfl | exact .inr rfl | assumption) : wpAny M A (storeName X.env x u) Q E s :=
 store_ok2 I hN hi hx r (fun s' I' _ => h s' I') hf
theorem Inv.call' {s' : Shared} {ch : List Addr} (I : Inv X pins σ H s) (ho : s'.os = s.os) (u : Un (frs X.stack) ch H H' s.heap s'.heap) (hok : HOk X.prog X.w H' s'.heap) (hg : AllBare s'.gens)
 (hch : ∀ b ∈ ch, (b ∈ X.ex ∨ X.s₀.heap.objs.size ≤ b) ∧ b ≠ X.env.locals ∧ (∀ x c, X.env.cells.lookup x = some c → c ≠ b) ∧ ∀ p ∈ X.pn ++ pins, p.1 ≠ b) : Inv X pins σ H' s' := by
 obtain ⟨h', g', d', t', o'⟩ := s'
 have e : o' = s.os := ho
 subst e
 exact I.call (g' := g') (t' := t') (d' := d') u hok hg hch
end
abbrev XK := Value → Option Addr → Hp → Prop
abbrev St := List (Option V)
abbrev VK := V → Hp → Prop
abbrev TE := St → Hp → VK → Prop
abbrev TT := St → Hp → (Bool → Hp → Prop) → Prop
abbrev TA := St → Hp → (List V → Hp → Prop) → Prop
structure Ends where
 nx : St → Hp → Prop
 rt : VK
 bk : St → Hp → Prop := fun _ _ => False
 ct : St → Hp → Prop := fun _ _ => False
abbrev TS := Ends → St → Hp → Prop
def EP (X : Cx) (pins : List (Addr × Obj)) (σ : St) (Q : VK) (u : Value) (s' : Shared) : Prop := ∃ v H', Inv X pins σ H' s' ∧ RelV v u ∧ Q v H'
def TP (X : Cx) (pins : List (Addr × Obj)) (σ : St) (Q : Bool → Hp → Prop) (b : Bool) (s' : Shared) : Prop := ∃ H', Inv X pins σ H' s' ∧ Q b H'
def AP (X : Cx) (pins : List (Addr × Obj)) (σ : St) (Q : List V → Hp → Prop) (us : List Value) (s' : Shared) : Prop := ∃ vs H', Inv X pins σ H' s' ∧ Vals vs us ∧ Q vs H'
def SP (X : Cx) (pins : List (Addr × Obj)) (D : Ends) (f : Flow) (s' : Shared) : Prop :=
 match f with
 | .next => ∃ σ' H', Inv X pins σ' H' s' ∧ D.nx σ' H'
 | .brk => ∃ σ' H', Inv X pins σ' H' s' ∧ D.bk σ' H'
 | .cont => ∃ σ' H', Inv X pins σ' H' s' ∧ D.ct σ' H'
 | .ret u => ∃ v σ' H', Inv X pins σ' H' s' ∧ RelV v u ∧ D.rt v H'
def PE (X : Cx) (e : Expr) (t : TE) : Prop :=
 ∀ (pins : List (Addr × Obj)) (s : Shared) (σ : St) (H : Hp) (Q : VK), Inv X pins σ H s → t σ H Q → wpAny (model X.prog X.w) X.A (eval e X.env) (EP X pins σ Q) X.xe s
def PT (X : Cx) (e : Expr) (t : TT) : Prop :=
 ∀ (pins : List (Addr × Obj)) (s : Shared) (σ : St) (H : Hp) (Q : Bool → Hp → Prop), Inv X pins σ H s → t σ H Q → wpAny (model X.prog X.w) X.A (isTrue e X.env (eval e X.env)) (TP X pins σ Q) X.xe s
def PW (X : Cx) (e : Expr) (t : TT) : Prop :=
 ∀ (whole : Sem Value) (pins : List (Addr × Obj)) (s : Shared) (σ : St) (H : Hp) (Q : Bool → Hp → Prop), Inv X pins σ H s → t σ H Q → wpAny (model X.prog X.w) X.A (isTrue e X.env whole) (TP X pins σ Q) X.xe s
theorem PW.pt {X : Cx} {e : Expr} {t : TT} (h : PW X e t) : PT X e t := h _
def PA (X : Cx) (es : List Expr) (t : TA) : Prop :=
 ∀ (pos : Pos) (pins : List (Addr × Obj)) (s : Shared) (σ : St) (H : Hp) (Q : List V → Hp → Prop), Inv X pins σ H s → t σ H Q → wpAny (model X.prog X.w) X.A (spliced (backTo pos (starEach es X.env))) (AP X pins σ Q) X.xe s
def PS (X : Cx) (st : Stmt) (t : TS) : Prop :=
 ∀ (pins : List (Addr × Obj)) (s : Shared) (σ : St) (H : Hp) (D : Ends), Inv X pins σ H s → t D σ H → wpAny (model X.prog X.w) X.A (exec st X.env) (SP X pins D) X.xe s
def PSs (X : Cx) (st : List Stmt) (t : TS) : Prop :=
 ∀ (pins : List (Addr × Obj)) (s : Shared) (σ : St) (H : Hp) (D : Ends), Inv X pins σ H s → t D σ H → wpAny (model X.prog X.w) X.A (execs st X.env) (SP X pins D) X.xe s
theorem thn {α : Type} {t : Sem α} {Q Q' : α → Shared → Prop} {M : Model} {A : Around} {E : Value → Shared → Prop} {s : Shared} (h : wpAny M A t Q E s) (hQ : ∀ a s, Q a s → Q' a s) : wpAny M A t Q' E s := wpAny_mono h hQ fun _ _ x => x
end L2
namespace L2
open PySem PySem.Spec PyProof.Rows
section
variable {X : Cx}
def tVar (i : Nat) : TE := fun σ H Q => ∃ v, σ[i]? = some (some v) ∧ Q v H
def tC (v : V) : TE := fun _ H Q => Q v H
theorem pe_var {i : Nat} {x : Str} {pos : Pos} (hN : X.N[i]? = some x) (hv : Vis X.env.scope x) (hd : (x == ("__debug__" : Str)) = false := by decide) (hcd : (x == ("__classdict__" : Str)) = false := by decide) : PE X (.Name x pos) (tVar i) := by
 walk_at "z3"
 obtain ⟨v, e, h⟩ := h
 obtain ⟨m, hn, hl⟩ := I.loc
 obtain ⟨u, r, l⟩ := hl i x v hN e hv
 have fin : EP X pins σ Q u s := ⟨v, H, I, r, h⟩
 rcases l with ⟨hk, hm⟩ | ⟨hk, c, hc, hcell⟩
 ·exact wpAny_Name (wpAny_loadName_local I.ok.kind hk hn hm fin) hd
 ·rcases hk with hk | hk
  ·exact wpAny_Name (wpAny_loadName_cell I.ok.kind hk hc hcell fin) hd
  ·exact wpAny_Name (wpAny_loadName_free I.ok.kind hk hc hcell fin hcd) hd
theorem pe_int {i j pos} : PE X (.Constant (.int i) j pos) (tC (.int i)) := fun _ _ _ H _ I h => wpAny_Constant_int ⟨.int i, H, I.tok _, ⟨_, rfl⟩, h⟩
theorem pe_bl {b j pos} : PE X (.Constant (.bool b) j pos) (tC (.bl b)) := fun _ _ _ H _ I h => Constant_bool ⟨.bl b, H, I, rfl, h⟩
theorem pe_non {j pos} : PE X (.Constant .none j pos) (tC .non) := fun _ _ _ H _ I h => Constant_none ⟨.non, H, I, rfl, h⟩
theorem pe_str {x j pos} : PE X (.Constant (.str x) j pos) (tC (.str x)) := fun _ _ _ H _ I h => Calls.Constant_str ⟨.str x, H, I.tok _, ⟨_, rfl⟩, h⟩
def Gl (X : Cx) (x : Str) : Prop := X.env.kindOf x = some .globalImplicit
theorem ld_glob {E : Value → Shared → Prop} {pins : List (Addr × Obj)} {s : Shared} {σ : St} {H : Hp} {x : Str} {u : Value} {pos : Pos} {Q : Value → Shared → Prop} (I : Inv X pins σ H s) (hg : Gl X x) (hm : X.mg x = some u) (h : Q u s)
 (hd : (x == ("__debug__" : Str)) = false := by decide) : wpAny (model X.prog X.w) X.A (eval (.Name x pos) X.env) Q E s :=
 Calls.Name_function_global I.ok.kind hg (Calls.loadGlobal_global (by rw [I.ok.glob]; exact I.mod.glob.keeps I.bk) hm h) hd
theorem ld_blt {E : Value → Shared → Prop} {pins : List (Addr × Obj)} {s : Shared} {σ : St} {H : Hp} {x : Str} {u : Value} {pos : Pos} {Q : Value → Shared → Prop} (I : Inv X pins σ H s) (hg : Gl X x) (hm : X.mg x = none) (hv : bootBuiltins x = some u) (h : Q u s)
 (hn : x ≠ "__name__" := by decide) (hd : (x == ("__debug__" : Str)) = false := by decide) : wpAny (model X.prog X.w) X.A (eval (.Name x pos) X.env) Q E s := by
 obtain ⟨mb, h1, h2⟩ := I.mod.blt
 exact Calls.Name_function_global I.ok.kind hg (Calls.loadGlobal_builtin (by rw [I.ok.glob]; exact I.mod.glob.keeps I.bk) hm (by rw [I.ok.blt]; exact h1.keeps I.bk) ((h2 x hn).trans hv) h) hd
theorem pe_glob {x : Str} {v : V} {u : Value} {pos : Pos} (hg : Gl X x) (hm : X.mg x = some u) (r : RelV v u) (hd : (x == ("__debug__" : Str)) = false := by decide) : PE X (.Name x pos) (tC v) :=
 fun _ _ _ H _ I h => ld_glob I hg hm ⟨v, H, I, r, h⟩ hd
theorem pe_bltn {x : Str} {v : V} {u : Value} {pos : Pos} (hg : Gl X x) (hm : X.mg x = none) (hv : bootBuiltins x = some u) (r : RelV v u) (hn : x ≠ "__name__" := by decide) (hd : (x == ("__debug__" : Str)) = false := by decide) : PE X (.Name x pos) (tC v) :=
 fun _ _ _ H _ I h => ld_blt I hg hm hv ⟨v, H, I, r, h⟩ hn hd
variable {a b : Expr} {ta tb : TE} {pos : Pos}
def tB (t : TE) : TT := fun σ H Q => t σ H fun x H1 => ∃ c, x = .bl c ∧ Q c H1
variable {tA tB' : TT} {rest : List Expr}
def tAnd (t u : TT) : TT := fun σ H Q => t σ H fun c H1 => if c = true then u σ H1 Q else Q false H1
def tOr (t u : TT) : TT := fun σ H Q => t σ H fun c H1 => if c = true then Q true H1 else u σ H1 Q
def tNot (t : TT) : TT := fun σ H Q => t σ H fun c H1 => Q (!c) H1
theorem pw_and1 (ha : PT X a tA) : PW X (.BoolOp .And [a] pos) tA := by
 intro wh pins s σ H Q I h
 refine isTrue_and (thn (ha pins s σ H Q I h) fun c s1 e => ?_)
 cases c with
 | true => exact isTrue_and_nil e
 | false => exact e
theorem pw_or1 (ha : PT X a tA) : PW X (.BoolOp .Or [a] pos) tA := by
 intro wh pins s σ H Q I h
 refine isTrue_or (thn (ha pins s σ H Q I h) fun c s1 e => ?_)
 cases c with
 | false => exact isTrue_or_nil e
 | true => exact e
theorem pw_and (ha : PT X a tA) (hb : PW X (.BoolOp .And (b :: rest) pos) tB') : PW X (.BoolOp .And (a :: b :: rest) pos) (tAnd tA tB') := by
 intro wh pins s σ H Q I h
 refine isTrue_and (thn (ha pins s σ H _ I h) fun c s1 ⟨H1, I1, q1⟩ => ?_)
 cases c with
 | true => exact hb wh pins s1 σ H1 Q I1 q1
 | false => exact ⟨H1, I1, q1⟩
theorem pw_or (ha : PT X a tA) (hb : PW X (.BoolOp .Or (b :: rest) pos) tB') : PW X (.BoolOp .Or (a :: b :: rest) pos) (tOr tA tB') := by
 intro wh pins s σ H Q I h
 refine isTrue_or (thn (ha pins s σ H _ I h) fun c s1 ⟨H1, I1, q1⟩ => ?_)
 cases c with
 | true => exact ⟨H1, I1, q1⟩
 | false => exact hb wh pins s1 σ H1 Q I1 q1
theorem pt_not (ha : PT X a tA) : PT X (.UnaryOp .Not a pos) (tNot tA) := by
 walk_at "z3"
 exact isTrue_not (ha pins s σ H (fun c H1 => Q (!c) H1) I h)
def tAndV (ta tb : TE) : TE := fun σ H Q => ta σ H fun x H1 => ∃ c, x = .bl c ∧ if c = true then tb σ H1 Q else Q (.bl false) H1
def tOrV (ta tb : TE) : TE := fun σ H Q => ta σ H fun x H1 => ∃ c, x = .bl c ∧ if c = true then Q (.bl true) H1 else tb σ H1 Q
def tNotV (ta : TE) : TE := fun σ H Q => ta σ H fun x H1 => ∃ c, x = .bl c ∧ Q (.bl (!c)) H1
theorem pe_one {op} {t : TE} (h : PE X a t) : PE X (.BoolOp op [a] pos) t := fun pins s σ H Q I hw => BoolOp_one (h pins s σ H Q I hw)
theorem pe_and (ha : PE X a ta) (hb : PE X (.BoolOp .And (b :: rest) pos) tb) : PE X (.BoolOp .And (a :: b :: rest) pos) (tAndV ta tb) := by
 walk_at "z3"
 refine BoolOp_and (thn (ha pins s σ H _ I h) fun v s1 ⟨x, H1, I1, r1, q1⟩ => ?_)
 obtain ⟨c, rfl, q1⟩ := q1
 cases r1
 refine wpAny_truthy_bool ?_
 cases c with
 | true => exact hb pins s1 σ H1 Q I1 q1
 | false => exact ⟨.bl false, H1, I1, rfl, q1⟩
theorem pe_not (ha : PE X a ta) : PE X (.UnaryOp .Not a pos) (tNotV ta) := by
 walk_at "z3"
 refine UnaryOp_ (thn (ha pins s σ H _ I h) fun v s1 ⟨x, H1, I1, r1, q1⟩ => ?_)
 obtain ⟨c, rfl, q1⟩ := q1
 cases r1
 exact not_of (wpAny_truthy_bool ⟨.bl (!c), H1, I1, rfl, q1⟩)
def tIf (t : TT) (ta tb : TE) : TE := fun σ H Q => t σ H fun c H1 => if c = true then ta σ H1 Q else tb σ H1 Q
theorem pe_ifExp {c : Expr} (hc : PT X c tA) (ha : PE X a ta) (hb : PE X b tb) : PE X (.IfExp c a b pos) (tIf tA ta tb) := by
 walk_at "z3"
 refine wpAny_IfExp (thn (hc pins s σ H _ I h) fun d s1 ⟨H1, I1, q1⟩ => ?_)
 cases d with
 | true => exact ha pins s1 σ H1 Q I1 q1
 | false => exact hb pins s1 σ H1 Q I1 q1
end
end L2
namespace L2
open PySem PySem.Spec PyProof.Rows
def SqL (K : PySem.W.Frag) (H : Hp) (a : Addr) (xs : List V) : Prop :=
 Rd H a (.lst xs) ∨
  ∃ (o : Obj) (its : Array Value) (n : Nat), K.lookup a = some o ∧ o.cls = .type "list" ∧ o.dict = none ∧ o.data = .seq its n ∧ its.size ≤ sizeLine ∧ Vals xs its.toList
def SqT (K : PySem.W.Frag) (H : Hp) (a : Addr) (xs : List V) : Prop :=
 Rd H a (.tup xs) ∨
  ∃ (o : Obj) (its : Array Value) (n : Nat), K.lookup a = some o ∧ o.cls = .type "tuple" ∧ o.data = .seq its n ∧ its.size ≤ sizeLine ∧ Vals xs its.toList
def absV : Value → Option V
 | .none => some .non
 | .bool b => some (.bl b)
 | .int i _ => some (.int i)
 | .str x _ => some (.str x)
 | .bytes b _ => some (.byt b)
 | .float b _ => some (.flt b)
 | .ref a => some (.ref a)
 | .type n => some (.ty n)
 | _ => none
theorem RelV.abs {x : V} {u : Value} (r : RelV x u) : absV u = some x := by
 cases x with
 | non => cases r; rfl
 | bl _ => cases r; rfl
 | int _ => obtain ⟨t, rfl⟩ := r; rfl
 | str _ => obtain ⟨t, rfl⟩ := r; rfl
 | byt _ => obtain ⟨t, rfl⟩ := r; rfl
 | flt _ => obtain ⟨t, rfl⟩ := r; rfl
 | ref _ => cases r; rfl
 | ty _ => cases r; rfl
theorem RelV.inj {x y : V} {u : Value} (r : RelV x u) (q : RelV y u) : x = y := Option.some.inj (r.abs.symm.trans q.abs)
theorem Vals.inj : ∀ {xs ys : List V} {us : List Value}, Vals xs us → Vals ys us → xs = ys
 | _, _, _, .nil, .nil => rfl
 | _, _, _, .cons r t, .cons r' t' => by rw [r.inj r', Vals.inj t t']
section
variable {X : Cx} {pins : List (Addr × Obj)} {σ : St} {H : Hp} {s : Shared} {a : Addr} {xs ys : List V}
theorem SqL.of {K : PySem.W.Frag} (h : H a = some (.lst xs)) : SqL K H a xs := .inl (.inl h)
theorem SqT.of {K : PySem.W.Frag} (h : H a = some (.tup xs)) : SqT K H a xs := .inl (.inl h)
theorem Inv.list (I : Inv X pins σ H s) (h : SqL X.K H a xs) : ∃ its : List Value, Vals xs its ∧ PlainL s.heap a its.toArray ∧ xs.length ≤ sizeLine := by
 rcases h with h | ⟨o, its, n, hk, hc, hd, hs, hz, r⟩
 ·obtain ⟨z, its, n, r, e⟩ := h.ok I.hok
  exact ⟨its, r, ⟨_, n, e, rfl, rfl, rfl⟩, z⟩
 ·refine ⟨its.toList, r, ⟨o, n, I.kIn a o hk, hc, hd, by simpa using hs⟩, ?_⟩
  have e := r.length
  simp only [Array.length_toList] at e
  lia
theorem Inv.tuple (I : Inv X pins σ H s) (h : SqT X.K H a xs) : ∃ its : List Value, Vals xs its ∧ IsTup s.heap a its.toArray ∧ xs.length ≤ sizeLine := by
 rcases h with h | ⟨o, its, n, hk, hc, hs, hz, r⟩
 ·obtain ⟨z, its, r, p⟩ := h.ok I.hok
  exact ⟨its, r, p, z⟩
 ·refine ⟨its.toList, r, ⟨o, I.kIn a o hk, hc, n, by simpa using hs⟩, ?_⟩
  have e := r.length
  simp only [Array.length_toList] at e
  lia
theorem Inv.list_inj (I : Inv X pins σ H s) (h : SqL X.K H a xs) (h' : SqL X.K H a ys) : xs = ys := by
 obtain ⟨its, r, ⟨o, n, e, _, _, d⟩, _⟩ := I.list h
 obtain ⟨its', r', ⟨o', n', e', _, _, d'⟩, _⟩ := I.list h'
 rw [e] at e'; cases e'
 rw [d] at d'
 injection d' with d1 _
 have : its = its' := by simpa using congrArg Array.toList d1
 subst this
 exact r.inj r'
theorem Inv.tuple_inj (I : Inv X pins σ H s) (h : SqT X.K H a xs) (h' : SqT X.K H a ys) : xs = ys := by
 obtain ⟨its, r, ⟨o, e, _, n, d⟩, _⟩ := I.tuple h
 obtain ⟨its', r', ⟨o', e', _, n', d'⟩, _⟩ := I.tuple h'
 rw [e] at e'; cases e'
 rw [d] at d'
 injection d' with d1 _
 have : its = its' := by simpa using congrArg Array.toList d1
 subst this
 exact r.inj r'
end
abbrev Cx.wish (X : Cx) (E : Value → Shared → Prop) : Cx := { X with xe := E }
abbrev Cx.nox (X : Cx) : Cx := X.wish fun _ _ => False
theorem Cx.Ok.wish {X : Cx} (ok : X.Ok) (E : Value → Shared → Prop) : (X.wish E).Ok :=
 ⟨ok.mod, ok.kind, ok.glob, ok.blt, ok.above, ok.inj, ok.has, ok.cab, ok.hd, ok.frames, ok.stk, ok.exf, ok.bs, ok.bsz, ok.noex, ok.exfs, ok.funs, ok.frf⟩
theorem Cx.Ok.unwish {X : Cx} {E : Value → Shared → Prop} (ok : (X.wish E).Ok) : X.Ok :=
 ⟨ok.mod, ok.kind, ok.glob, ok.blt, ok.above, ok.inj, ok.has, ok.cab, ok.hd, ok.frames, ok.stk, ok.exf, ok.bs, ok.bsz, ok.noex, ok.exfs, ok.funs, ok.frf⟩
section
variable {X : Cx} {pins : List (Addr × Obj)} {σ : St} {H : Hp} {s : Shared} {E : Value → Shared → Prop}
theorem Inv.wish (I : Inv X pins σ H s) (E : Value → Shared → Prop) : Inv (X.wish E) pins σ H s := ⟨I.ok.wish E, I.os, I.bare, I.base, I.loc, I.cell, I.free, I.freeC, I.pin, I.hok, I.len⟩
theorem Inv.unwish (I : Inv (X.wish E) pins σ H s) : Inv X pins σ H s := ⟨I.ok.unwish, I.os, I.bare, I.base, I.loc, I.cell, I.free, I.freeC, I.pin, I.hok, I.len⟩
theorem SP.unwish {D : Ends} {f : Flow} {s' : Shared} (h : SP (X.wish E) pins D f s') : SP X pins D f s' := by
 cases f with
 | next => obtain ⟨σ', H', I, q⟩ := h; exact ⟨σ', H', I.unwish, q⟩
 | brk => obtain ⟨σ', H', I, q⟩ := h; exact ⟨σ', H', I.unwish, q⟩
 | cont => obtain ⟨σ', H', I, q⟩ := h; exact ⟨σ', H', I.unwish, q⟩
 | ret u => obtain ⟨v, σ', H', I, r, q⟩ := h; exact ⟨v, σ', H', I.unwish, r, q⟩
theorem PSs.nox {st : List Stmt} {t : TS} (h : PSs X.nox st t) : PSs X st t := fun pins s σ H D I hw =>
 wpAny_mono (h pins s σ H D (I.wish _) hw) (fun _ _ q => q.unwish) fun _ _ z => False.elim z
end
section
variable {X : Cx} {st : Stmt} {rest : List Stmt} {t u : TS} {e : Expr} {te : TE} {pos : Pos}
def tNext : TS := fun D σ H => D.nx σ H
def tSeq (t u : TS) : TS := fun D σ H => t { D with nx := u D } σ H
theorem pss_nil : PSs X [] tNext := fun _ _ σ H _ I h => wpAny_execs_nil ⟨σ, H, I, h⟩
theorem pss_cons (h1 : PS X st t) (h2 : PSs X rest u) : PSs X (st :: rest) (tSeq t u) := by
 intro pins s σ H D I h
 refine wpAny_execs_cons (thn (h1 pins s σ H { D with nx := u D } I h) fun f s1 q => ?_)
 cases f with
 | next =>
   obtain ⟨σ', H', I', q⟩ := q
   exact h2 pins s1 σ' H' D I' q
 | ret v => exact q
 | brk => exact q
 | cont => exact q
theorem pss_one (h1 : PS X st t) : PSs X [st] t := by
 intro pins s σ H D I h
 refine wpAny_execs_cons (thn (h1 pins s σ H D I h) fun f s1 q => ?_)
 cases f with
 | next => exact wpAny_execs_nil q
 | ret v => exact q
 | brk => exact q
 | cont => exact q
theorem Inv.quiet {pins : List (Addr × Obj)} {σ : St} {H : Hp} {s : Shared} (I : Inv X pins σ H s) : interactive X.env = false := by simp [interactive, I.ok.kind]
def tDrop (te : TE) : TS := fun D σ H => te σ H fun _ H1 => D.nx σ H1
theorem ps_expr (he : PE X e te) (hs : swapsWith e none pos.line X.env = pure false := by rfl) : PS X (.Expr e pos) (tDrop te) := by
 intro pins s σ H D I h
 exact wpAny_Expr_any (thn (he pins s σ H _ I h) fun v s1 ⟨x, H1, I1, r1, q1⟩ => ⟨σ, H1, I1, q1⟩) I.quiet hs
def tRet (te : TE) : TS := fun D σ H => te σ H D.rt
theorem ps_ret (he : PE X e te) : PS X (.Return (some e) pos) (tRet te) := by
 intro pins s σ H D I h
 exact wpAny_Return_some (thn (he pins s σ H _ I h) fun v s1 ⟨x, H1, I1, r1, q1⟩ => ⟨x, σ, H1, I1, r1, q1⟩)
def tRetN : TS := fun D _ H => D.rt .non H
def tIfS (c : TT) (t u : TS) : TS := fun D σ H => c σ H fun b H1 => if b = true then t D σ H1 else u D σ H1
theorem ps_if {c : Expr} {a b : List Stmt} {tc : TT} (hc : PT X c tc) (ha : PSs X a t) (hb : PSs X b u) : PS X (.If c a b pos) (tIfS tc t u) := by
 intro pins s σ H D I h
 refine wpAny_If (thn (hc pins s σ H _ I h) fun d s1 ⟨H1, I1, q1⟩ => ?_)
 cases d with
 | true => exact ha pins s1 σ H1 D I1 q1
 | false => exact hb pins s1 σ H1 D I1 q1
def tNever : TS := fun _ _ _ => False
theorem ps_never : PS X st tNever := fun _ _ _ _ _ _ h => h.elim
theorem pss_never {sts : List Stmt} : PSs X sts tNever := fun _ _ _ _ _ _ h => h.elim
end
abbrev TG := V → St → Hp → (St → Hp → Prop) → Prop
abbrev TGs := List V → St → Hp → (St → Hp → Prop) → Prop
def PG (X : Cx) (target : Expr) (t : TG) : Prop :=
 ∀ (pins : List (Addr × Obj)) (s : Shared) (σ : St) (H : Hp) (v : V) (u : Value) (Q : St → Hp → Prop), Inv X pins σ H s → RelV v u → t v σ H Q →
  wpAny (model X.prog X.w) X.A (assign target X.env u) (fun _ s' => ∃ σ' H', Inv X pins σ' H' s' ∧ Q σ' H') X.xe s
def PGs (X : Cx) (ts : List Expr) (t : TGs) : Prop :=
 ∀ (pins : List (Addr × Obj)) (s : Shared) (σ : St) (H : Hp) (vs : List V) (us : List Value) (Q : St → Hp → Prop), Inv X pins σ H s → Vals vs us → t vs σ H Q →
  wpAny (model X.prog X.w) X.A (assignInOrder ((assignEach ts X.env).map (·.2)) us) (fun _ s' => ∃ σ' H', Inv X pins σ' H' s' ∧ Q σ' H') X.xe s
abbrev TSet := V → V → V → Hp → (Hp → Prop) → Prop
def PSet (X : Cx) (t : TSet) : Prop :=
 ∀ (pins : List (Addr × Obj)) (s : Shared) (σ : St) (H : Hp) (o i v : V) (ov iv u : Value) (Q : Hp → Prop), Inv X pins σ H s → RelV o ov → RelV i iv → RelV v u → t o i v H Q →
  wpAny (model X.prog X.w) X.A (setItem ov iv u) (fun _ s' => ∃ H', Inv X pins σ H' s' ∧ Q H') X.xe s
abbrev TIp := V → V → Hp → VK → Prop
section
variable {X : Cx} {pos : Pos}
def gName (i : Nat) : TG := fun v σ H Q => Q (σ.set i (some v)) H
theorem pg_name {i : Nat} {x : Str} (hN : X.N.Nodup) (hi : X.N[i]? = some x) (hx : Loc X.env.scope x) (hf : X.fn x = true ∨ X.env.scope.names.lookup x = some .local := by first | exact .inl rfl | exact .inr rfl | assumption) : PG X (.Name x pos) (gName i) := by
 intro pins s σ H v u Q I r h
 exact wpAny_assign_Name (store_ok I hN hi hx r (fun s' I' => ⟨_, H, I', h⟩) hf)
def gNil : TGs := fun vs σ H Q => vs = [] ∧ Q σ H
def gCons (t : TG) (u : TGs) : TGs := fun vs σ H Q => ∃ v r, vs = v :: r ∧ t v σ H fun σ' H' => u r σ' H' Q
theorem pgs_nil : PGs X [] gNil := by
 intro pins s σ H vs us Q I r h
 obtain ⟨e, h⟩ := h
 subst e
 cases r
 exact assignInOrder_nil ⟨σ, H, I, h⟩
theorem pgs_cons {e : Expr} {es : List Expr} {t : TG} {u : TGs} (h1 : PG X e t) (h2 : PGs X es u)
 (hs : (assignEach (e :: es) X.env).map (·.2) = assign e X.env :: (assignEach es X.env).map (·.2) := by rfl) : PGs X (e :: es) (gCons t u) := by
 intro pins s σ H vs us Q I r h
 obtain ⟨v, vr, e1, h⟩ := h
 subst e1
 cases r with
 | cons r rr =>
   rw [hs]
   refine assignInOrder_cons (thn (h1 pins s σ H _ _ _ I r h) fun _ s1 ⟨σ1, H1, I1, q1⟩ => ?_)
   exact h2 pins s1 σ1 H1 _ _ Q I1 rr q1
def gTup (K : PySem.W.Frag) (n : Nat) (t : TGs) : TG := fun v σ H Q => ∃ a xs, v = .ref a ∧ SqT K H a xs ∧ xs.length = n ∧ t xs σ H Q
theorem pg_tup {es : List Expr} {k : Nat} {t : TGs} {n : Nat} (hc : X.calm = true) (h : PGs X es t)
 (hn : (assignEach es X.env).length = n := by rfl) (hst : (assignEach es X.env).findIdx? (·.1) = none := by rfl) : PG X (.Tuple es k pos) (gTup X.K n t) := by
 intro pins s σ H v u Q I r hw
 obtain ⟨a, xs, e1, hq, hl, hw⟩ := hw
 subst e1
 cases r
 obtain ⟨its, rv, ht, hz⟩ := I.tuple hq
 refine assign_Tuple_tuple (I.ok.hd hc) ht (by simp [hn, ← hl, rv.length]) hst fun h' hx => ?_
 have I1 : Inv X pins σ H { s with heap := h' } := I.kept (t' := s.toks) fun b o e => hx b o (Nat.ne_of_lt (Heap.lt_size e)) e
 exact h pins _ σ H xs _ Q I1 (by simpa using rv) hw
def gSub (to ti : TE) (t : TSet) : TG := fun v σ H Q => to σ H fun o H1 => ti σ H1 fun i H2 => t o i v H2 fun H3 => Q σ H3
theorem pg_sub {o i : Expr} {to ti : TE} {t : TSet} (ho : PE X o to) (hi : PE X i ti) (hs : PSet X t)
 (ha : ∀ v, assign (.Subscript o i pos) X.env v = (do
  let ov ← holding [v] (eval o X.env)
  let iv ← holding [v, ov] (eval i X.env)
  standAt pos
  holding [v, ov, iv] (setItem ov iv v)
  release [v, ov, iv] []) := by intro _; rfl) : PG X (.Subscript o i pos) (gSub to ti t) := by
 intro pins s σ H v u Q I r h
 rw [ha]
 refine wpAny_bind (wpAny_holding (thn (ho pins s σ H _ I h) fun ov s1 ⟨x, H1, I1, r1, q1⟩ => ?_))
 refine wpAny_bind (wpAny_holding (thn (hi pins s1 σ H1 _ I1 q1) fun iv s2 ⟨y, H2, I2, r2, q2⟩ => ?_))
 refine wpAny_bind (wpAny_standAt (wpAny_bind (wpAny_holding (thn (hs pins s2 σ H2 x y v ov iv u _ I2 r1 r2 r q2) fun _ s3 ⟨H3, I3, q3⟩ => ?_))))
 exact wpAny_release ⟨σ, H3, I3, q3⟩
def tAsg (te : TE) (g : TG) : TS := fun D σ H => te σ H fun x H1 => g x σ H1 D.nx
theorem ps_asg {tg e : Expr} {te : TE} {g : TG} (he : PE X e te) (hg : PG X tg g) (hs : swapsWithSole [tg] e pos.line X.env = pure false := by rfl) (hw : swappedStores [tg] e X.env = pure none := by rfl)
 (h1 : (assignEach [tg] X.env).map (·.2) = [assign tg X.env] := by rfl) : PS X (.Assign [tg] e pos) (tAsg te g) := by
 intro pins s σ H D I h
 refine wpAny_Assign_stores (thn (he pins s σ H _ I h) fun v s1 ⟨x, H1, I1, r1, q1⟩ => ?_) hs hw
 rw [h1]
 exact thn (hg pins s1 σ H1 x v _ I1 r1 q1) fun _ s2 q => q
theorem ps_set {i : Nat} {x : Str} {e : Expr} {te : TE} {pos' : Pos} (hN : X.N.Nodup) (hi : X.N[i]? = some x) (hx : Loc X.env.scope x) (he : PE X e te) (hs : swapsWith e (some (.Name x pos')) pos.line X.env = pure false := by rfl) (hf : X.fn x = true ∨ X.env.scope.names.lookup x = some .local := by first | exact .inl rfl | exact .inr rfl | assumption) :
 PS X (.Assign [.Name x pos'] e pos) (tAsg te (gName i)) := by
 intro pins s σ H D I h
 refine wpAny_Assign_Name (thn (he pins s σ H _ I h) fun v s1 ⟨y, H1, I1, r1, q1⟩ => ?_) hs
 exact store_ok I1 hN hi hx r1 (fun s2 I2 => ⟨_, H1, I2, q1⟩) hf
def tPar (i j : Nat) (ta : TA) : TS := fun D σ H => ta σ H fun vs H1 => ∃ v w, vs = [v, w] ∧ D.nx ((σ.set i (some v)).set j (some w)) H1
def tAug (i : Nat) (te : TE) (ti : TIp) : TS := fun D σ H => ∃ x, σ[i]? = some (some x) ∧ te σ H fun y H1 => ti x y H1 fun z H2 => D.nx (σ.set i (some z)) H2
def ipI (f : Int → Int → Int) : TIp := fun x y H Q => ∃ i j, x = .int i ∧ y = .int j ∧ Q (.int (f i j)) H
end
section
variable {X : Cx} {pos : Pos}
def tWhile (c : TT) (tb : TS) : TS := fun D σ H => ∃ W : Nat → St → Hp → Prop, (∃ m, W m σ H) ∧ ∀ m σ H, W m σ H →
 c σ H fun b H1 => if b = true then ∃ N : St → Hp → Prop, (∀ σ' H', N σ' H' → ∃ m', m' < m ∧ W m' σ' H') ∧ tb { D with nx := N, ct := N, bk := D.nx } σ H1 else D.nx σ H1
end
structure It where
 go : Nat → Hp → Prop
 yld : Nat → Hp → V → Hp → Prop
 stop : Nat → Hp → Prop
def FpOk (X : Cx) (pins : List (Addr × Obj)) (H : Hp) (b : Addr) : Prop :=
 H b = none ∧ b ≠ X.env.locals ∧ b ∉ X.fs ∧ (b ∈ X.ex ∨ X.s₀.heap.objs.size ≤ b) ∧ (∀ x c, X.env.cells.lookup x = some c → c ≠ b) ∧ ∀ p ∈ X.pn ++ pins, p.1 ≠ b
theorem Inv.fpOk {X : Cx} {pins : List (Addr × Obj)} {σ : St} {H H' : Hp} {s : Shared} {b : Addr} (I : Inv X pins σ H s) (hb : s.heap.objs.size ≤ b) (hn : H' b = none) : FpOk X pins H' b := by
 refine ⟨hn, Nat.ne_of_gt (Nat.lt_of_lt_of_le I.lt hb), I.nofs hb, .inr (Nat.le_trans I.sz hb), fun x c e z => ?_, fun p hp z => ?_⟩
 ·obtain ⟨v, q⟩ := I.cell x c e
  exact absurd (Nat.lt_of_lt_of_le q.lt (by rw [z]; exact hb)) (Nat.lt_irrefl _)
 ·exact absurd (Nat.lt_of_lt_of_le (Heap.lt_size (I.pin p hp).1) (by rw [z]; exact hb)) (Nat.lt_irrefl _)
structure Turn (P : Program) (w : World) (K : PySem.W.Frag) (tg : Expr) (J : It) (fp : List Addr) (it : Addr) (tn : Nat → Heap → Prop) : Prop where
 mem : it ∈ fp
 obj : ∀ i h, tn i h → ∀ b ∈ fp, ∃ o, h.get? b = some o ∧ ∀ v, o.data ≠ .cell v
 keep : ∀ i h h', tn i h → (∀ b ∈ fp, ∀ o, h.get? b = some o → h'.get? b = some o) → tn i h'
 item : ∀ (X : Cx), X.prog = P → X.w = w → X.K = K → X.calm = true → ∀ (i : Nat) (pins : List (Addr × Obj)) (s : Shared) (σ : St) (H : Hp) (E : Value → Shared → Prop), Inv X pins σ H s → (∀ b ∈ fp, FpOk X pins H b) → tn i s.heap → J.go i H →
  wpAny (model P w) X.A (pyNext (.ref it)) (fun r s1 => ∃ u, r = some u ∧
   wpAny (model P w) X.A (letOwnedTupleGo tg (.ref it) u) (fun _ s2 => ∃ x H', Inv X pins σ H' s2 ∧ RelV x u ∧ J.yld i H x H' ∧ tn (i + 1) s2.heap ∧ ∀ b ∈ fp, H' b = none) E s1) E s
 done : ∀ (X : Cx), X.prog = P → X.w = w → X.K = K → X.calm = true → ∀ (i : Nat) (pins : List (Addr × Obj)) (s : Shared) (σ : St) (H : Hp) (E : Value → Shared → Prop), Inv X pins σ H s → (∀ b ∈ fp, FpOk X pins H b) → tn i s.heap → J.stop i H →
  wpAny (model P w) X.A (pyNext (.ref it)) (fun r s1 => r = none ∧ Inv X pins σ H s1) E s
 self : ∀ (A : Around) (i : Nat) (s : Shared) (Q : Value → Shared → Prop) (E : Value → Shared → Prop), tn i s.heap → Q (.ref it) s → wpAny (model P w) A (pyIter (.ref it)) Q E s
abbrev TI := St → Hp → (It → Hp → Prop) → Prop
def PIE (X : Cx) (pins : List (Addr × Obj)) (σ : St) (tg : Expr) (R : It → Hp → Prop) (itv : Value) (s2 : Shared) : Prop :=
 ∃ (it : Addr) (fp : List Addr) (tn : Nat → Heap → Prop) (J : It) (H' : Hp), itv = .ref it ∧ Inv X pins σ H' s2 ∧ Turn X.prog X.w X.K tg J fp it tn ∧ tn 0 s2.heap ∧ (∀ b ∈ fp, FpOk X pins H' b) ∧ R J H'
def PI (X : Cx) (tg iter : Expr) (wi : TI) : Prop :=
 ∀ (pins : List (Addr × Obj)) (s : Shared) (σ : St) (H : Hp) (R : It → Hp → Prop), Inv X pins σ H s → wi σ H R →
  wpAny (model X.prog X.w) X.A (eval iter X.env) (fun v s1 => wpAny (model X.prog X.w) X.A (pyIter v) (PIE X pins σ tg R) X.xe s1) X.xe s
theorem go_of {M : Model} {A : Around} {E : Value → Shared → Prop} {s : Shared} {tg : Expr} {it : Addr} {u : Value} {o : Obj} {n : String} {vs : Array Value} {Q : Unit → Shared → Prop} (ho : s.heap.get? it = some o) (hc : o.cls = .type n) (hd : o.data = .fields vs)
 (hn : ["enumerate", "zip", "dict_itemiterator", "dict_reverseitemiterator", "odict_iterator", "itertools.zip_longest", "itertools.pairwise"].contains n = false) (hQ : Q () s) : wpAny M A (letOwnedTupleGo tg (.ref it) u) Q E s := by
 unfold letOwnedTupleGo
 cases tg <;> first
  | exact wpAny_pure hQ
  | (cases u <;> first
   | exact wpAny_pure hQ
   | (refine wpAny_bind (wpAny_load ho ?_)
      rw [hc, hd]
      show wpAny M A (if (["enumerate", "zip", "dict_itemiterator", "dict_reverseitemiterator", "odict_iterator", "itertools.zip_longest", "itertools.pairwise"].contains n && vs[0]? == some (rawInt _)) = true then _ else _) Q E s
      rw [if_neg (by intro h; rw [hn, Bool.false_and] at h; cases h)]
      exact wpAny_pure hQ))
def Itl (K : PySem.W.Frag) (a : Addr) : It :=
 ⟨fun i H => ∃ xs x, SqL K H a xs ∧ xs[i]? = some x, fun i H x H' => H' = H ∧ ∀ xs, SqL K H a xs → xs[i]? = some x, fun i H => ∃ xs, SqL K H a xs ∧ xs.length ≤ i⟩
def Itt (K : PySem.W.Frag) (a : Addr) : It :=
 ⟨fun i H => ∃ xs x, SqT K H a xs ∧ xs[i]? = some x, fun i H x H' => H' = H ∧ ∀ xs, SqT K H a xs → xs[i]? = some x, fun i H => ∃ xs, SqT K H a xs ∧ xs.length ≤ i⟩
def Itr (lo : Int) (n : Nat) : It := ⟨fun i _ => i < n, fun i H x H' => H' = H ∧ x = .int (lo + i), fun i _ => n ≤ i⟩
theorem turn_list {P : Program} {w : World} {K : PySem.W.Frag} {tg : Expr} (a it : Addr) : Turn P w K tg (Itl K a) [it] it (fun i h => h.IsListIter it a i) where
 mem := by simp
 obj := fun i h st b hb => by
  have e : b = it := by simpa using hb
  subst e
  obtain ⟨o, e, c, d⟩ := st
  exact ⟨o, e, fun v z => by rw [d] at z; cases z⟩
 keep := fun i h h' st k => st.at fun o e => k it (by simp) o e
 item := by
  walk_at "z25"
  subst hP hw hK
  obtain ⟨xs, x, hq, hx⟩ := hg
  obtain ⟨its, rv, p, hz⟩ := I.list hq
  obtain ⟨u, hu, ru⟩ := rv.get hx
  walk_at "z40"
  refine wpAny_pyNext_list_item st p.isList (x := u) (by simpa using hu) fun h' st' sb => ?_
  have I1 : Inv X pins σ H { s with heap := h' } := I.turned (t' := s.toks) (fun b o hb e => (sb.2 b hb).trans e) f0 f1 f3 f4 f5
  obtain ⟨o, e, c, d⟩ := id st'
  exact ⟨u, rfl, go_of (s := { s with heap := h' }) e c d (by decide) ⟨x, H, I1, ru, ⟨rfl, fun ys hy => by rw [I.list_inj hy hq]; exact hx⟩, st', fun b hb => (hf b hb).1⟩⟩
 done := by
  walk_at "z25"
  subst hP hw hK
  obtain ⟨xs, hq, hx⟩ := hg
  obtain ⟨its, rv, p, hz⟩ := I.list hq
  walk_at "z40"
  have hl := rv.length
  exact wpAny_pyNext_list_end (I.ok.hd hc) st p.isList (by simp; lia) fun h' eb => ⟨rfl, I.turned (t' := s.toks) (fun b o hb e => eb b o hb e) f0 f1 f3 f4 f5⟩
 self := fun _ _ _ _ _ st h => wpAny_pyIter_listiter st h
theorem turn_tuple {P : Program} {w : World} {K : PySem.W.Frag} {tg : Expr} (a it : Addr) : Turn P w K tg (Itt K a) [it] it (fun i h => h.IsTupleIter it a i) where
 mem := by simp
 obj := fun i h st b hb => by
  have e : b = it := by simpa using hb
  subst e
  obtain ⟨o, e, c, d⟩ := st
  exact ⟨o, e, fun v z => by rw [d] at z; cases z⟩
 keep := fun i h h' st k => st.at fun o e => k it (by simp) o e
 item := by
  walk_at "z25"
  subst hP hw hK
  obtain ⟨xs, x, hq, hx⟩ := hg
  obtain ⟨its, rv, p, hz⟩ := I.tuple hq
  obtain ⟨u, hu, ru⟩ := rv.get hx
  walk_at "z40"
  refine wpAny_pyNext_tuple_item st (show s.heap.IsTuple a its.toArray from p) (x := u) (by simpa using hu) fun h' st' sb => ?_
  have I1 : Inv X pins σ H { s with heap := h' } := I.turned (t' := s.toks) (fun b o hb e => (sb.2 b hb).trans e) f0 f1 f3 f4 f5
  obtain ⟨o, e, c, d⟩ := id st'
  exact ⟨u, rfl, go_of (s := { s with heap := h' }) e c d (by decide) ⟨x, H, I1, ru, ⟨rfl, fun ys hy => by rw [I.tuple_inj hy hq]; exact hx⟩, st', fun b hb => (hf b hb).1⟩⟩
 done := by
  walk_at "z25"
  subst hP hw hK
  obtain ⟨xs, hq, hx⟩ := hg
  obtain ⟨its, rv, p, hz⟩ := I.tuple hq
  walk_at "z40"
  have hl := rv.length
  exact wpAny_pyNext_tuple_end (I.ok.hd hc) st (show s.heap.IsTuple a its.toArray from p) (by simp; lia) fun h' eb => ⟨rfl, I.turned (t' := s.toks) (fun b o hb e => eb b o hb e) f0 f1 f3 f4 f5⟩
 self := fun _ _ _ _ _ st h => wpAny_pyIter_tupleiter st h
theorem turn_range {P : Program} {w : World} {K : PySem.W.Frag} {tg : Expr} (it : Addr) (lo : Int) (n : Nat) : Turn P w K tg (Itr lo n) [it] it (fun i h => IsRangeIter h it (lo + (i : Nat) * 1) ((n : Int) - (i : Nat)) 1) where
 mem := by simp
 obj := fun i h st b hb => by
  have e : b = it := by simpa using hb
  subst e
  exact ⟨_, st, fun v z => by
   have z' : Data.fields _ = Data.cell v := z
   cases z'⟩
 keep := fun i h h' st k => k it (by simp) _ st
 item := by
  walk_at "z25"
  subst hP hw hK
  walk_at "z40"
  have W := Walks.range (prog := X.prog) (w := X.w) (I.ok.hd hc) it lo 1 n
  refine W.item i s _ _ hg st fun v h' tk hv st' kk => ?_
  obtain ⟨t, rfl⟩ := hv
  have I1 : Inv X pins σ H { s with heap := h', toks := tk } := I.turned (fun b o hb e => kk b o (by simpa using hb) e) f0 f1 f3 f4 f5
  refine ⟨_, rfl, go_of (s := { s with heap := h', toks := tk }) (n := "range_iterator") st' rfl rfl (by decide) ⟨.int (lo + i), H, I1, ⟨t, ?_⟩, ⟨rfl, rfl⟩, st', fun b hb => (hf b hb).1⟩⟩
  rw [Int.mul_one]
 done := by
  walk_at "z25"
  subst hP hw hK
  walk_at "z40"
  exact wpAny_pyNext_range_end (I.ok.hd hc) st (by have : n ≤ i := hg; lia) fun h' eb => ⟨rfl, I.turned (t' := s.toks) (fun b o hb e => eb b o hb e) f0 f1 f3 f4 f5⟩
 self := fun _ _ _ _ _ st h => wpAny_pyIter_rangeiter st h
end L2
namespace L2
open PySem PySem.Spec PyProof.Rows
section
variable {X : Cx} {tg : Expr}
def iList (K : PySem.W.Frag) (tl : TE) : TI := fun σ H R => tl σ H fun x H1 => ∃ a, x = .ref a ∧ (∃ xs, SqL K H1 a xs) ∧ R (Itl K a) H1
def iTup (K : PySem.W.Frag) (tl : TE) : TI := fun σ H R => tl σ H fun x H1 => ∃ a, x = .ref a ∧ (∃ xs, SqT K H1 a xs) ∧ R (Itt K a) H1
theorem pi_list {l : Expr} {tl : TE} (hl : PE X l tl) : PI X tg l (iList X.K tl) := by
 intro pins s σ H R I h
 refine thn (hl pins s σ H _ I h) fun v s1 ⟨x, H1, I1, r1, q1⟩ => ?_
 obtain ⟨a, e, ⟨xs, hq⟩, q⟩ := q1
 subst e
 cases r1
 obtain ⟨its, rv, p, hz⟩ := I1.list hq
 refine wpAny_pyIter_list p.isList ?_
 refine ⟨s1.heap.objs.size, [s1.heap.objs.size], _, _, H1, rfl, I1.kept (t' := s1.toks) fun b o e => Heap.get?_push_of_some _ e, turn_list a _, ⟨_, Heap.get?_push_size _ rfl, rfl, rfl⟩, fun b hb => ?_, q⟩
 have e : b = s1.heap.objs.size := by simpa using hb
 subst e
 exact I1.fpOk (Nat.le_refl _) (I1.hok.fresh (Nat.le_refl _))
theorem pi_tup {l : Expr} {tl : TE} (hl : PE X l tl) : PI X tg l (iTup X.K tl) := by
 intro pins s σ H R I h
 refine thn (hl pins s σ H _ I h) fun v s1 ⟨x, H1, I1, r1, q1⟩ => ?_
 obtain ⟨a, e, ⟨xs, hq⟩, q⟩ := q1
 subst e
 cases r1
 obtain ⟨its, rv, p, hz⟩ := I1.tuple hq
 refine wpAny_pyIter_tuple (show s1.heap.IsTuple a its.toArray from p) ?_
 refine ⟨s1.heap.objs.size, [s1.heap.objs.size], _, _, H1, rfl, I1.kept (t' := s1.toks) fun b o e => Heap.get?_push_of_some _ e, turn_tuple a _, ⟨_, Heap.get?_push_size _ rfl, rfl, rfl⟩, fun b hb => ?_, q⟩
 have e : b = s1.heap.objs.size := by simpa using hb
 subst e
 exact I1.fpOk (Nat.le_refl _) (I1.hok.fresh (Nat.le_refl _))
theorem range_it {pins : List (Addr × Obj)} {σ : St} {H : Hp} {s : Shared} {R : It → Hp → Prop} {E : Value → Shared → Prop} {lo hi : Int} {t u v : Tok} {tk : Nat} (I : Inv X pins σ H s) (h1 : -(2 ^ 62) ≤ lo) (h2 : lo < 2 ^ 62) (h3 : -(2 ^ 62) ≤ hi) (h4 : hi < 2 ^ 62)
 (q : R (Itr lo (hi - lo).toNat) H) : wpAny (model X.prog X.w) X.A (pyIter (.ref s.heap.objs.size)) (PIE X pins σ tg R) E { s with heap := s.heap.push { cls := .type "range", data := .fields #[.int lo t, .int hi u, .int 1 v] }, toks := tk } := by
 refine wpAny_pyIter_range (IsRange.new ..) (small_one h1 h2 h3 h4) ?_
 have I1 : Inv X pins σ H { s with heap := s.heap.push { cls := .type "range", data := .fields #[.int lo t, .int hi u, .int 1 v] }, toks := tk } := I.kept fun b o e => Heap.get?_push_of_some _ e
 refine ⟨(s.heap.push { cls := .type "range", data := .fields #[.int lo t, .int hi u, .int 1 v] }).objs.size, [(s.heap.push { cls := .type "range", data := .fields #[.int lo t, .int hi u, .int 1 v] }).objs.size], _, _, H, rfl,
  I1.kept (t' := tk) fun b o e => Heap.get?_push_of_some _ e, turn_range _ lo (hi - lo).toNat, ?_, fun b hb => ?_, q⟩
 ·have e1 : lo + ((0 : Nat) : Int) * 1 = lo := by simp
  have e2 : (((hi - lo).toNat : Nat) : Int) - ((0 : Nat) : Int) = Builtin.Range.rangeSize lo hi 1 := by rw [rangeSize_one]; split <;> lia
  show IsRangeIter _ _ (lo + ((0 : Nat) : Int) * 1) ((((hi - lo).toNat : Nat) : Int) - ((0 : Nat) : Int)) 1
  rw [e1, e2]
  exact Heap.get?_push_size _ rfl
 ·have e : b = (s.heap.push { cls := .type "range", data := .fields #[.int lo t, .int hi u, .int 1 v] }).objs.size := by simpa using hb
  subst e
  exact I1.fpOk (Nat.le_refl _) (I1.hok.fresh (Nat.le_refl _))
def iRng1 (ta : TA) : TI := fun σ H R => ta σ H fun vs H1 => ∃ j : Int, vs = [.int j] ∧ -(2 ^ 62) ≤ j ∧ j < 2 ^ 62 ∧ R (Itr 0 j.toNat) H1
def iRng2 (ta : TA) : TI := fun σ H R => ta σ H fun vs H1 => ∃ i j : Int, vs = [.int i, .int j] ∧ (-(2 ^ 62) ≤ i ∧ i < 2 ^ 62 ∧ -(2 ^ 62) ≤ j ∧ j < 2 ^ 62) ∧ R (Itr i (j - i).toNat) H1
theorem pi_range1 {a : Expr} {ta : TA} {p pos : Pos} (hg : Gl X "range") (hm : X.mg "range" = none) (ha : PA X [a] ta) (hs : starEach [a] X.env = [(false, eval a X.env)] := by rfl) : PI X tg (.Call (.Name "range" p) [a] [] pos) (iRng1 ta) := by
 intro pins s σ H R I h
 refine Call_ (ld_blt I hg hm boot_range (PyProof.Rows.callWith_type1 (thn (ha pos pins s σ H _ I h) fun us s1 ⟨vs, H1, I1, r1, q1⟩ => ?_) hs rfl))
 obtain ⟨j, e, q1, q2, q⟩ := q1
 subst e
 cases r1 with
 | cons r rr =>
   cases rr
   obtain ⟨t, rfl⟩ := r
   exact call_range_1 (range_it I1 (by lia) (by lia) q1 q2 (by simpa using q))
theorem pi_range2 {a b : Expr} {ta : TA} {p pos : Pos} (hg : Gl X "range") (hm : X.mg "range" = none) (ha : PA X [a, b] ta) (hs : starEach [a, b] X.env = [(false, eval a X.env), (false, eval b X.env)] := by rfl) (hs2 : starEach [b] X.env = [(false, eval b X.env)] := by rfl) :
 PI X tg (.Call (.Name "range" p) [a, b] [] pos) (iRng2 ta) := by
 intro pins s σ H R I h
 refine Call_ (ld_blt I hg hm boot_range (PyProof.Rows.callWith_type1 (thn (ha pos pins s σ H _ I h) fun us s1 ⟨vs, H1, I1, r1, q1⟩ => ?_) (by rw [hs, hs2]) (by rw [hs2]; rfl)))
 obtain ⟨i, j, e, ⟨q1, q2, q3, q4⟩, q⟩ := q1
 subst e
 cases r1 with
 | cons r rr =>
   cases rr with
   | cons r' rr =>
     cases rr
     obtain ⟨t, rfl⟩ := r
     obtain ⟨t', rfl⟩ := r'
     exact call_range_2 (range_it I1 q1 q2 q3 q4 q)
def tFor (wi : TI) (g : TG) (tb : TS) : TS := fun D σ H => wi σ H fun J H1 => ∃ W : Nat → Nat → St → Hp → Prop, (∃ m, W 0 m σ H1) ∧ ∀ i m σ H, W i m σ H →
 (J.stop i H ∧ D.nx σ H) ∨ (J.go i H ∧ ∃ N : St → Hp → Prop, (∀ σ' H', N σ' H' → ∃ m', m' < m ∧ W (i + 1) m' σ' H') ∧ ∀ x H', J.yld i H x H' → g x σ H' fun σ2 H2 => tb { D with nx := N, ct := N, bk := D.nx } σ2 H2)
def pinsAt (fp : List Addr) (h : Heap) : List (Addr × Obj) := fp.filterMap fun b => (h.get? b).map fun o => (b, o)
theorem mem_pinsAt {fp : List Addr} {h : Heap} {b : Addr} {o : Obj} (hb : b ∈ fp) (e : h.get? b = some o) : (b, o) ∈ pinsAt fp h := List.mem_filterMap.mpr ⟨b, hb, by rw [e]; rfl⟩
theorem of_pinsAt {fp : List Addr} {h : Heap} {p : Addr × Obj} (hp : p ∈ pinsAt fp h) : p.1 ∈ fp ∧ h.get? p.1 = some p.2 := by
 obtain ⟨b, hb, e⟩ := List.mem_filterMap.mp hp
 cases q : h.get? b with
 | none => rw [q] at e; cases e
 | some o =>
   rw [q] at e
   have e' : (b, o) = p := Option.some.inj e
   subst e'
   exact ⟨hb, q⟩
theorem Inv.pinned {pins : List (Addr × Obj)} {σ : St} {H : Hp} {s : Shared} {fp : List Addr} (I : Inv X pins σ H s) (hf : ∀ b ∈ fp, FpOk X pins H b) (ho : ∀ b ∈ fp, ∃ o, s.heap.get? b = some o ∧ ∀ v, o.data ≠ .cell v) : Inv X (pins ++ pinsAt fp s.heap) σ H s :=
 I.pins_of fun p hp => (List.mem_append.mp hp).elim (fun z => I.pin p (List.mem_append_right _ z)) fun z => by
  obtain ⟨hb, e⟩ := of_pinsAt z
  obtain ⟨f0, f1, f2, _⟩ := hf p.1 hb
  obtain ⟨o, e', d⟩ := ho p.1 hb
  rw [e] at e'; cases e'
  exact ⟨e, f0, f1, f2, d⟩
theorem Inv.unpinned {pins pl : List (Addr × Obj)} {σ : St} {H : Hp} {s : Shared} (I : Inv X (pins ++ pl) σ H s) : Inv X pins σ H s := I.pins_of fun p hp => I.pin p (List.mem_append_right _ (List.mem_append_left _ hp))
theorem ps_for {iter : Expr} {body : List Stmt} {wi : TI} {g : TG} {tb : TS} {pos : Pos} (hp : PassesOwn (model X.prog X.w) X.A X.env X.xe) (hc : X.calm = true) (hi : PI X tg iter wi) (hg : PG X tg g) (hb : PSs X body tb)
 (hs : ∀ x, foldedSetIterable iter X.env x = pure x := by intro _; rfl) : PS X (.For tg iter body [] pos) (tFor wi g tb) := by
 intro pins s σ H D I h
 refine wpAny_For (thn (hi pins s σ H _ I h) fun v s1 h1 => thn h1 fun itv s2 h2 => ?_) hs
 obtain ⟨it, fp, tn, J, H2, e, I2, T, st2, f2, W, ⟨m0, w0⟩, turn⟩ := h2
 subst e
 have stat : ∀ {H' : Hp}, (∀ b ∈ fp, H' b = none) → ∀ b ∈ fp, FpOk X pins H' b := fun hn b hb => ⟨hn b hb, (f2 b hb).2⟩
 refine codeAny_forLoop_any (fun n s' => ∃ i σ' H', Inv X pins σ' H' s' ∧ tn i s'.heap ∧ (∀ b ∈ fp, H' b = none) ∧ W i n σ' H') ?_ m0 ⟨0, σ, H2, I2, st2, fun b hb => (f2 b hb).1, w0⟩
 rintro n s3 ⟨i, σ3, H3, I3, st3, fr3, w3⟩
 rcases turn i n σ3 H3 w3 with ⟨stop, qn⟩ | ⟨go, N, hN, step⟩
 ·refine wpAny_passesOwn hp (thn (T.done X rfl rfl rfl hc i pins s3 σ3 H3 X.xe I3 (stat fr3) st3 stop) fun r s4 ⟨hr, I4⟩ => ?_)
  subst hr
  exact wpAny_execs_nil ⟨σ3, H3, I4, qn⟩
 ·refine wpAny_passesOwn hp (thn (T.item X rfl rfl rfl hc i pins s3 σ3 H3 X.xe I3 (stat fr3) st3 go) fun r s4 ⟨u, hr, h4⟩ => ?_)
  subst hr
  refine wpAny_passesOwn hp (thn h4 fun _ s5 ⟨x, H5, I5, r5, y5, st5, fr5⟩ => ?_)
  have I5' := I5.pinned (stat fr5) (T.obj _ _ st5)
  refine wpAny_passesOwn hp (thn (hg _ s5 σ3 H5 x u _ I5' r5 (step x H5 y5)) fun _ s6 ⟨σ6, H6, I6, q6⟩ => ?_)
  refine wpAny_passesOwn hp (thn (hb _ s6 σ6 H6 _ I6 q6) fun f s7 q7 => ?_)
  have again : ∀ {σ7 : St} {H7 : Hp}, Inv X (pins ++ pinsAt fp s5.heap) σ7 H7 s7 → N σ7 H7 → ∃ m, m < n ∧ ∃ i σ' H', Inv X pins σ' H' s7 ∧ tn i s7.heap ∧ (∀ b ∈ fp, H' b = none) ∧ W i m σ' H' := fun {σ7 H7} I7 n7 => by
   obtain ⟨m', hm, w7⟩ := hN σ7 H7 n7
   refine ⟨m', hm, i + 1, σ7, H7, I7.unpinned, T.keep _ _ _ st5 fun b hb o e => (I7.pin (b, o) (List.mem_append_right _ (List.mem_append_right _ (mem_pinsAt hb e)))).1, fun b hb => ?_, w7⟩
   obtain ⟨o, e, d⟩ := T.obj _ _ st5 b hb
   exact (I7.pin (b, o) (List.mem_append_right _ (List.mem_append_right _ (mem_pinsAt hb e)))).2.1
  cases f with
  | next => obtain ⟨σ7, H7, I7, n7⟩ := q7; exact again I7 n7
  | cont => obtain ⟨σ7, H7, I7, n7⟩ := q7; exact again I7 n7
  | brk => obtain ⟨σ7, H7, I7, q7⟩ := q7; exact ⟨σ7, H7, I7.unpinned, q7⟩
  | ret v => obtain ⟨x7, σ7, H7, I7, r7, q7⟩ := q7; exact ⟨x7, σ7, H7, I7.unpinned, r7, q7⟩
end
theorem for_list {K : PySem.W.Frag} {a : Addr} {xs : List V} {g : TG} {tb : TS} {D : Ends} {σ : St} {H : Hp} (Pv : Nat → St → Hp → Prop) (h0 : Pv 0 σ H) (hl : ∀ i σ H, i ≤ xs.length → Pv i σ H → SqL K H a xs)
 (hs : ∀ i x σ H, xs[i]? = some x → Pv i σ H → g x σ H fun σ2 H2 => tb { D with nx := Pv (i + 1), ct := Pv (i + 1), bk := D.nx } σ2 H2) (hd : ∀ σ H, Pv xs.length σ H → D.nx σ H) :
 ∃ W : Nat → Nat → St → Hp → Prop, (∃ m, W 0 m σ H) ∧ ∀ i m σ H, W i m σ H →
  ((Itl K a).stop i H ∧ D.nx σ H) ∨ ((Itl K a).go i H ∧ ∃ N : St → Hp → Prop, (∀ σ' H', N σ' H' → ∃ m', m' < m ∧ W (i + 1) m' σ' H') ∧ ∀ x H', (Itl K a).yld i H x H' → g x σ H' fun σ2 H2 => tb { D with nx := N, ct := N, bk := D.nx } σ2 H2) := by
 refine ⟨fun i m σ H => m = xs.length - i ∧ i ≤ xs.length ∧ Pv i σ H, ⟨xs.length, by simp, Nat.zero_le _, h0⟩, ?_⟩
 rintro i m σ H ⟨rfl, hi, p⟩
 have q := hl i σ H hi p
 by_cases hlt : i < xs.length
 ·refine .inr ⟨⟨xs, xs[i], q, by simp [hlt]⟩, Pv (i + 1), fun σ' H' p' => ⟨xs.length - (i + 1), by lia, rfl, hlt, p'⟩, fun x H' y => ?_⟩
  obtain ⟨e, y⟩ := y
  subst e
  exact hs i x σ _ (y xs q) p
 ·have e : i = xs.length := by lia
  subst e
  exact .inl ⟨⟨xs, q, Nat.le_refl _⟩, hd σ H p⟩
theorem for_range {lo : Int} {n : Nat} {g : TG} {tb : TS} {D : Ends} {σ : St} {H : Hp} (Pv : Nat → St → Hp → Prop) (h0 : Pv 0 σ H)
 (hs : ∀ i σ H, i < n → Pv i σ H → g (.int (lo + i)) σ H fun σ2 H2 => tb { D with nx := Pv (i + 1), ct := Pv (i + 1), bk := D.nx } σ2 H2) (hd : ∀ σ H, Pv n σ H → D.nx σ H) :
 ∃ W : Nat → Nat → St → Hp → Prop, (∃ m, W 0 m σ H) ∧ ∀ i m σ H, W i m σ H →
  ((Itr lo n).stop i H ∧ D.nx σ H) ∨ ((Itr lo n).go i H ∧ ∃ N : St → Hp → Prop, (∀ σ' H', N σ' H' → ∃ m', m' < m ∧ W (i + 1) m' σ' H') ∧ ∀ x H', (Itr lo n).yld i H x H' → g x σ H' fun σ2 H2 => tb { D with nx := N, ct := N, bk := D.nx } σ2 H2) := by
 refine ⟨fun i m σ H => m = n - i ∧ i ≤ n ∧ Pv i σ H, ⟨n, by simp, Nat.zero_le _, h0⟩, ?_⟩
 rintro i m σ H ⟨rfl, hi, p⟩
 by_cases hlt : i < n
 ·refine .inr ⟨hlt, Pv (i + 1), fun σ' H' p' => ⟨n - (i + 1), by lia, rfl, hlt, p'⟩, fun x H' y => ?_⟩
  obtain ⟨e, y⟩ := y
  subst e y
  exact hs i σ _ hlt p
 ·have e : i = n := by lia
  subst e
  exact .inl ⟨Nat.le_refl _, hd σ H p⟩
end L2
namespace L2
open PySem PySem.Spec PyProof.Rows
abbrev R2 := V → V → Hp → VK → Prop
def OpR (X : Cx) (f : Value → Value → Sem Value) (r : R2) : Prop :=
 ∀ (pins : List (Addr × Obj)) (s : Shared) (σ : St) (H : Hp) (x y : V) (v u : Value) (Q : VK), Inv X pins σ H s → RelV x v → RelV y u → r x y H Q →
  wpAny (model X.prog X.w) X.A (f v u) (EP X pins σ Q) X.xe s
def UnR (X : Cx) (f : Value → Sem Value) (r : V → Hp → VK → Prop) : Prop :=
 ∀ (pins : List (Addr × Obj)) (s : Shared) (σ : St) (H : Hp) (x : V) (v : Value) (Q : VK), Inv X pins σ H s → RelV x v → r x H Q →
  wpAny (model X.prog X.w) X.A (f v) (EP X pins σ Q) X.xe s
def CallR (X : Cx) (f : Value) (r : List V → Hp → VK → Prop) : Prop :=
 ∀ (pins : List (Addr × Obj)) (s : Shared) (σ : St) (H : Hp) (xs : List V) (us : List Value) (Q : VK), Inv X pins σ H s → Vals xs us → r xs H Q →
  wpAny (model X.prog X.w) X.A (call f us) (EP X pins σ Q) X.xe s
def TruR (X : Cx) (r : V → Hp → (Bool → Hp → Prop) → Prop) : Prop :=
 ∀ (pins : List (Addr × Obj)) (s : Shared) (σ : St) (H : Hp) (x : V) (v : Value) (Q : Bool → Hp → Prop), Inv X pins σ H s → RelV x v → r x H Q →
  wpAny (model X.prog X.w) X.A (truthy v) (TP X pins σ Q) X.xe s
def tOp (r : R2) (ta tb : TE) : TE := fun σ H Q => ta σ H fun x H1 => tb σ H1 fun y H2 => r x y H2 Q
def tUn (r : V → Hp → VK → Prop) (ta : TE) : TE := fun σ H Q => ta σ H fun x H1 => r x H1 Q
def rI (C : Int → Int → Prop) (g : Int → Int → V) : R2 := fun x y H Q => ∃ i j, x = .int i ∧ y = .int j ∧ C i j ∧ Q (g i j) H
def rI0 (g : Int → Int → V) : R2 := fun x y H Q => ∃ i j, x = .int i ∧ y = .int j ∧ Q (g i j) H
def rU (g : Int → V) : V → Hp → VK → Prop := fun x H Q => ∃ i, x = .int i ∧ Q (g i) H
section
variable {X : Cx} {a b c : Expr} {ta tb tc : TE} {pos : Pos}
theorem binT (ha : PE X a ta) (hb : PE X b tb) {pins : List (Addr × Obj)} {s : Shared} {σ : St} {H : Hp} {R : V → V → Hp → Prop} (I : Inv X pins σ H s)
 (h : ta σ H fun x H1 => tb σ H1 fun y H2 => R x y H2) {Q : Value → Shared → Prop} {f : Value → Value → Sem Value}
 (hf : ∀ v u s2 x y H2, Inv X pins σ H2 s2 → RelV x v → RelV y u → R x y H2 → wpAny (model X.prog X.w) X.A (f v u) Q X.xe s2) :
 wpAny (model X.prog X.w) X.A (eval a X.env) (fun v s₁ => wpAny (model X.prog X.w) X.A (eval b X.env) (fun u s₂ => wpAny (model X.prog X.w) X.A (f v u) Q X.xe s₂) X.xe s₁) X.xe s := by
 refine thn (ha pins s σ H _ I h) fun v s1 ⟨x, H1, I1, r1, q1⟩ => ?_
 refine thn (hb pins s1 σ H1 _ I1 q1) fun u s2 ⟨y, H2, I2, r2, q2⟩ => ?_
 exact hf v u s2 x y H2 I2 r1 r2 q2
theorem pe_op {op : Operator} {r : R2} (ho : OpR X (binaryOp op) r) (ha : PE X a ta) (hb : PE X b tb) : PE X (.BinOp a op b pos) (tOp r ta tb) := by
 walk_at "z3"
 exact wpAny_BinOp (binT ha hb I h fun v u s2 x y H2 I2 rx ry q => ho pins s2 σ H2 x y v u Q I2 rx ry q)
theorem pe_un {op : UnaryOp} {r : V → Hp → VK → Prop} (ho : UnR X (unaryOp op) r) (ha : PE X a ta) : PE X (.UnaryOp op a pos) (tUn r ta) := by
 walk_at "z3"
 exact UnaryOp_ (thn (ha pins s σ H _ I h) fun v s1 ⟨x, H1, I1, r1, q1⟩ => ho pins s1 σ H1 x v Q I1 r1 q1)
theorem opI {f : Value → Value → Sem Value} {C : Int → Int → Prop} {g : Int → Int → Int}
 (rule : ∀ (i j : Int) (t u : Tok) (s : Shared) (Q : Value → Shared → Prop) (E : Value → Shared → Prop), C i j → Q (.int (g i j) s.toks) { s with toks := s.toks + 1 } → wpAny (model X.prog X.w) X.A (f (.int i t) (.int j u)) Q E s) :
 OpR X f (rI C fun i j => .int (g i j)) := by
 intro pins s σ H x y v u Q I rx ry h
 obtain ⟨i, j, rfl, rfl, hc, q⟩ := h
 obtain ⟨t, rfl⟩ := rx
 obtain ⟨t', rfl⟩ := ry
 exact rule i j t t' s _ _ hc ⟨.int (g i j), H, I.tok _, ⟨_, rfl⟩, q⟩
theorem opI0 {f : Value → Value → Sem Value} {g : Int → Int → Int}
 (rule : ∀ (i j : Int) (t u : Tok) (s : Shared) (Q : Value → Shared → Prop) (E : Value → Shared → Prop), Q (.int (g i j) s.toks) { s with toks := s.toks + 1 } → wpAny (model X.prog X.w) X.A (f (.int i t) (.int j u)) Q E s) :
 OpR X f (rI0 fun i j => .int (g i j)) := by
 intro pins s σ H x y v u Q I rx ry h
 obtain ⟨i, j, rfl, rfl, q⟩ := h
 obtain ⟨t, rfl⟩ := rx
 obtain ⟨t', rfl⟩ := ry
 exact rule i j t t' s _ _ ⟨.int (g i j), H, I.tok _, ⟨_, rfl⟩, q⟩
theorem opB0 {f : Value → Value → Sem Value} {g : Int → Int → Bool}
 (rule : ∀ (i j : Int) (t u : Tok) (s : Shared) (Q : Value → Shared → Prop) (E : Value → Shared → Prop), Q (.bool (g i j)) s → wpAny (model X.prog X.w) X.A (f (.int i t) (.int j u)) Q E s) :
 OpR X f (rI0 fun i j => .bl (g i j)) := by
 intro pins s σ H x y v u Q I rx ry h
 obtain ⟨i, j, rfl, rfl, q⟩ := h
 obtain ⟨t, rfl⟩ := rx
 obtain ⟨t', rfl⟩ := ry
 exact rule i j t t' s _ _ ⟨.bl (g i j), H, I, rfl, q⟩
def CDiv (i j : Int) : Prop := 0 < j ∧ j < 1073741824
def CPow (i j : Int) : Prop := 0 ≤ j ∧ j ≤ 1000000 ∧ i.natAbs < 2 ^ 64
def CMul (i j : Int) : Prop := (-(2 ^ 64) < i ∧ i < 2 ^ 64) ∨ (-(2 ^ 64) < j ∧ j < 2 ^ 64)
theorem CMul.ok {i j : Int} (h : CMul i j) : IntMulOk i j := by
 rcases h with ⟨h1, h2⟩ | ⟨h1, h2⟩
 ·exact .of_left (intBits_le_64 h1 h2)
 ·exact .of_right (intBits_le_64 h1 h2)
theorem op_add : OpR X (binaryOp .Add) (rI0 fun i j => .int (i + j)) := opI0 fun _ _ _ _ _ _ _ q => add_int q
theorem op_sub : OpR X (binaryOp .Sub) (rI0 fun i j => .int (i - j)) := opI0 fun _ _ _ _ _ _ _ q => sub_int q
theorem op_mul : OpR X (binaryOp .Mult) (rI CMul fun i j => .int (i * j)) := opI fun _ _ _ _ _ _ _ hc q => mul_int q hc.ok
theorem op_fdiv : OpR X (binaryOp .FloorDiv) (rI CDiv fun i j => .int (i / j)) := opI fun i j _ _ _ _ _ hc q => by
 have h1 : (0 : Int) < j := hc.1
 have h2 : j < 1073741824 := hc.2
 exact floordiv_int (by lia) (by rw [Int.fdiv_eq_ediv_of_nonneg i (by lia)]; exact q) (.inl (PyProof.noPylong_small (by lia)))
theorem op_mod : OpR X (binaryOp .Mod) (rI (fun _ j => 0 < j) fun i j => .int (i % j)) := opI fun i j _ _ _ _ _ hc q => by
 have h1 : (0 : Int) < j := hc
 exact mod_int' (by lia) (by rw [Int.fmod_eq_emod_of_nonneg i (by lia)]; exact q)
theorem op_pow : OpR X (binaryOp .Pow) (rI CPow fun i j => .int (i ^ j.toNat)) := opI fun _ _ _ _ _ _ _ hc q => pow_int_small hc.1 hc.2.1 hc.2.2 q
theorem unI {f : Value → Sem Value} {g : Int → Int}
 (rule : ∀ (i : Int) (t : Tok) (s : Shared) (Q : Value → Shared → Prop) (E : Value → Shared → Prop), Q (.int (g i) s.toks) { s with toks := s.toks + 1 } → wpAny (model X.prog X.w) X.A (f (.int i t)) Q E s) :
 UnR X f (rU fun i => .int (g i)) := by
 intro pins s σ H x v Q I rx h
 obtain ⟨i, rfl, q⟩ := h
 obtain ⟨t, rfl⟩ := rx
 exact rule i t s _ _ ⟨.int (g i), H, I.tok _, ⟨_, rfl⟩, q⟩
theorem un_neg : UnR X (unaryOp .USub) (rU fun i => .int (-i)) := unI fun _ _ _ _ _ q => neg_int q
end
section
variable {X : Cx} {a b c : Expr} {ta tb tc : TE} {pos : Pos}
theorem fin_bl {pins : List (Addr × Obj)} {σ : St} {H : Hp} {s : Shared} {Q : VK} {k k' : Bool} (I : Inv X pins σ H s) (q : Q (.bl k) H) (e : k = k') : EP X pins σ Q (.bool k') s := by
 subst e
 exact ⟨.bl k, H, I, rfl, q⟩
theorem op_lt : OpR X (compareOp .Lt) (rI0 fun i j => .bl (decide (i < j))) := opB0 fun _ _ _ _ _ _ _ q => lt_int q
theorem op_le : OpR X (compareOp .LtE) (rI0 fun i j => .bl (decide (i ≤ j))) := opB0 fun _ _ _ _ _ _ _ q => le_int q
theorem op_gt : OpR X (compareOp .Gt) (rI0 fun i j => .bl (decide (j < i))) := opB0 fun _ _ _ _ _ _ _ q => gt_int q
theorem op_ge : OpR X (compareOp .GtE) (rI0 fun i j => .bl (decide (j ≤ i))) := opB0 fun _ _ _ _ _ _ _ q => ge_int q
theorem OpR.or {f : Value → Value → Sem Value} {r r' : R2} (h : OpR X f r) (h' : OpR X f r') : OpR X f (fun x y H Q => r x y H Q ∨ r' x y H Q) := by
 intro pins s σ H x y v u Q I rx ry q
 rcases q with q | q
 ·exact h pins s σ H x y v u Q I rx ry q
 ·exact h' pins s σ H x y v u Q I rx ry q
theorem nomark (b : Expr) {op : CmpOp} (h : op ≠ .In := by decide) (h2 : op ≠ .NotIn := by decide) : behindInMarks op b = false := by
 have e1 : (op == CmpOp.In) = false := by cases op <;> first | rfl | exact absurd rfl h
 have e2 : (op == CmpOp.NotIn) = false := by cases op <;> first | rfl | exact absurd rfl h2
 cases b <;> simp [behindInMarks, e1, e2]
theorem pe_cmpR {op : CmpOp} {r : R2} (ho : OpR X (compareOp op) r) (ha : PE X a ta) (hb : PE X b tb) (hm : behindInMarks op b = false) : PE X (.Compare a [op] [b] pos) (tOp r ta tb) := by
 walk_at "z3"
 exact wpAny_Compare1 (binT ha hb I h fun v u s2 x y H2 I2 rx ry q => ho pins s2 σ H2 x y v u Q I2 rx ry q) hm
def tTest (t : TE) : TT := fun σ H Q => t σ H fun x H' => ∃ k, x = .bl k ∧ Q k H'
theorem pt_cmpR {op : CmpOp} {r : R2} (ho : OpR X (compareOp op) r) (ha : PE X a ta) (hb : PE X b tb) (hm : behindInMarks op b = false) : PT X (.Compare a [op] [b] pos) (tTest (tOp r ta tb)) := by
 walk_at "z3"
 refine wpAny_isTrue_Compare1 (thn (ha pins s σ H _ I h) fun v s1 ⟨x, H1, I1, r1, q1⟩ => thn (hb pins s1 σ H1 _ I1 q1) fun u s2 ⟨y, H2, I2, r2, q2⟩ =>
  thn (ho pins s2 σ H2 x y v u _ I2 r1 r2 q2) fun c s3 ⟨z, H3, I3, r3, k, e, q3⟩ => ?_) hm
 subst e
 cases r3
 exact wpAny_truthy_bool ⟨H3, I3, q3⟩
def tChain (r r' : R2) (ta tb tc : TE) : TE := fun σ H Q => ta σ H fun x H1 => tb σ H1 fun y H2 => r x y H2 fun z H3 => ∃ k, z = .bl k ∧
 (if k = true then tc σ H3 fun w' H4 => r' y w' H4 Q else Q (.bl false) H3)
theorem pt_chain {op op' : CmpOp} {r r' : R2} (ho : OpR X (compareOp op) r) (ho' : OpR X (compareOp op') r') (ha : PE X a ta) (hb : PE X b tb) (hc : PE X c tc)
 (hm : lastMarks [op, op'] [b, c] = false := by with_unfolding_all rfl) : PT X (.Compare a [op, op'] [b, c] pos) (tTest (tChain r r' ta tb tc)) := by
 walk_at "z3"
 refine isTrue_chain (thn (ha pins s σ H _ I h) fun v s1 ⟨x, H1, I1, r1, q1⟩ => test_link (thn (hb pins s1 σ H1 _ I1 q1) fun u s2 ⟨y, H2, I2, r2, q2⟩ =>
  thn (ho pins s2 σ H2 x y v u _ I2 r1 r2 q2) fun d s3 ⟨z, H3, I3, r3, k, e, q3⟩ => ?_)) hm
 subst e
 cases r3
 refine wpAny_truthy_bool ?_
 cases k with
 | false =>
   obtain ⟨k', e', q'⟩ := q3
   cases e'
   exact ite_ff ⟨H3, I3, q'⟩
 | true =>
   refine ite_tt (test_last (thn (hc pins s3 σ H3 _ I3 q3) fun w' s4 ⟨z', H4, I4, r4, q4⟩ => thn (ho' pins s4 σ H4 y z' u w' _ I4 r2 r4 q4) fun d' s5 ⟨z2, H5, I5, r5, k2, e2, q5⟩ => ?_))
   subst e2
   cases r5
   exact wpAny_truthy_bool ⟨H5, I5, q5⟩
def TruV (K : PySem.W.Frag) (x : V) (H : Hp) (k : Bool) : Prop :=
 match x with
 | .non => k = false
 | .bl b => k = b
 | .int i => k = (i != 0)
 | .str y => y.length ≤ sizeLine ∧ k = ((y.length : Int) != 0)
 | .byt y => y.size ≤ sizeLine ∧ k = ((y.size : Int) != 0)
 | .ref p => (∃ xs, SqL K H p xs ∧ k = !xs.isEmpty) ∨ (∃ xs, SqT K H p xs ∧ k = !xs.isEmpty) ∨ ∃ kvs, H p = some (.dK kvs) ∧ k = !kvs.isEmpty
 | _ => False
theorem isEmpty_kv {κ : Type} {kvs : List (κ × V)} {vs : List (κ × Value)} (r : KV kvs vs) : (!vs.isEmpty) = !kvs.isEmpty := by
 cases r <;> rfl
theorem isEmpty_of {xs : List V} {its : List Value} (r : Vals xs its) : (!its.toArray.isEmpty) = !xs.isEmpty := by
 cases r <;> simp
theorem line63 : (sizeLine : Nat) < 2 ^ 63 := by rw [sizeLine_eq]; decide
theorem tru_ok : TruR X (fun x H Q => ∃ k, TruV X.K x H k ∧ Q k H) := by
 intro pins s σ H x v Q I rx h
 obtain ⟨k, e, q⟩ := h
 have hl := line63
 have hs : sizeLine = 16777216 := sizeLine_eq
 cases x with
 | non =>
   cases rx
   have e' : k = false := e
   subst e'
   exact truthy_none ⟨H, I, q⟩
 | bl b =>
   cases rx
   have e' : k = b := e
   subst e'
   exact wpAny_truthy_bool ⟨H, I, q⟩
 | int i =>
   obtain ⟨t, rfl⟩ := rx
   have e' : k = (i != 0) := e
   subst e'
   exact PySem.P.truthy_int ⟨H, I, q⟩
 | str y =>
   obtain ⟨t, rfl⟩ := rx
   obtain ⟨hy, e'⟩ : y.length ≤ sizeLine ∧ k = ((y.length : Int) != 0) := e
   subst e'
   exact PySem.P.truthy_str (by lia) ⟨H, I.tok _, q⟩
 | byt y =>
   obtain ⟨t, rfl⟩ := rx
   obtain ⟨hy, e'⟩ : y.size ≤ sizeLine ∧ k = ((y.size : Int) != 0) := e
   subst e'
   exact PySem.W.truthy_bytes (by lia) ⟨H, I.tok _, q⟩
 | ref p =>
   cases rx
   have e' : (∃ xs, SqL X.K H p xs ∧ k = !xs.isEmpty) ∨ (∃ xs, SqT X.K H p xs ∧ k = !xs.isEmpty) ∨ ∃ kvs, H p = some (.dK kvs) ∧ k = !kvs.isEmpty := e
   rcases e' with ⟨xs, hx, e'⟩ | ⟨xs, hx, e'⟩ | ⟨kvs, hx, e'⟩
   ·subst e'
    obtain ⟨its, r, pl, hz⟩ := I.list hx
    have hlen := r.length
    exact wpAny_truthy_list pl.isList (by simp only [List.size_toArray]; lia) ⟨H, I.tok _, by rw [isEmpty_of r]; exact q⟩
   ·subst e'
    obtain ⟨its, r, pl, hz⟩ := I.tuple hx
    have hlen := r.length
    exact truthy_tuple pl (by simp only [List.size_toArray]; lia) ⟨H, I.tok _, by rw [isEmpty_of r]; exact q⟩
   ·subst e'
    obtain ⟨hz, hS, vs, r, m⟩ : kvs.length ≤ sizeLine ∧ (p == sysModules) = false ∧ ∃ vs, KV kvs vs ∧ s.heap.DictOf (mixKind X.prog X.w) p vs := I.hok p _ hx
    have hlen : kvs.length = vs.length := Paired.length r
    exact wpAny_truthy_dict hS m (by lia) ⟨H, I.tok _, by rw [isEmpty_kv r]; exact q⟩
 | _ => exact (show False from e).elim
theorem pt_truth (ha : PE X a ta) (he : ∀ whole, isTrue a X.env whole = (do let v ← whole; standAt a.pos; holding [v] (truthy v))) :
 PT X a (fun σ H Q => ta σ H fun x H' => ∃ k, TruV X.K x H' k ∧ Q k H') := by
 walk_at "z3"
 exact isTrue_plain (thn (ha pins s σ H _ I h) fun v s1 ⟨x, H1, I1, r1, q1⟩ => tru_ok pins s1 σ H1 x v Q I1 r1 q1) (he _)
theorem vals1 {x : V} {us : List Value} (r : Vals [x] us) : ∃ u, us = [u] ∧ RelV x u := by
 cases r with
 | cons r1 r2 => cases r2; exact ⟨_, rfl, r1⟩
theorem vals2 {x y : V} {us : List Value} (r : Vals [x, y] us) : ∃ u w', us = [u, w'] ∧ RelV x u ∧ RelV y w' := by
 cases r with
 | cons r1 r2 =>
   cases r2 with
   | cons r3 r4 => cases r4; exact ⟨_, _, rfl, r1, r3⟩
theorem call_min2 (hc : X.calm = true) : CallR X (.builtin "min") (fun xs H Q => ∃ i j, xs = [.int i, .int j] ∧ Q (.int (if j < i then j else i)) H) := by
 intro pins s σ H xs us Q I r h
 obtain ⟨i, j, rfl, q⟩ := h
 obtain ⟨u, w', rfl, ⟨t, rfl⟩, ⟨t', rfl⟩⟩ := vals2 r
 refine min_two_ints (I.ok.hd hc) fun h' tk k => ⟨_, H, I.kept k, ?_, q⟩
 by_cases hj : j < i
 ·rw [if_pos hj, if_pos hj]; exact ⟨_, rfl⟩
 ·rw [if_neg hj, if_neg hj]; exact ⟨_, rfl⟩
theorem call_int1 : CallR X (.type "int") (fun xs H Q => (∃ i, xs = [.int i] ∧ Q (.int i) H) ∨ ∃ k, xs = [.bl k] ∧ Q (.int (if k then 1 else 0)) H) := by
 intro pins s σ H xs us Q I r h
 rcases h with ⟨i, rfl, q⟩ | ⟨k, rfl, q⟩
 ·obtain ⟨u, rfl, t, rfl⟩ := vals1 r
  exact call_int_int ⟨.int i, H, I, ⟨_, rfl⟩, q⟩
 ·obtain ⟨u, rfl, r1⟩ := vals1 r
  cases r1
  exact call_int_bool ⟨.int (if k then 1 else 0), H, I.tok _, ⟨_, rfl⟩, q⟩
def LenV (K : PySem.W.Frag) (x : V) (H : Hp) (n : Nat) : Prop :=
 match x with
 | .str y => y.length ≤ sizeLine ∧ n = y.length
 | .byt y => y.size ≤ sizeLine ∧ n = y.size
 | .ref p => (∃ xs, SqL K H p xs ∧ n = xs.length) ∨ ∃ xs, SqT K H p xs ∧ n = xs.length
 | _ => False
theorem call_len : CallR X (.builtin "len") (fun xs H Q => ∃ x n, xs = [x] ∧ LenV X.K x H n ∧ Q (.int n) H) := by
 intro pins s σ H xs us Q I r h
 obtain ⟨x, n, rfl, e, q⟩ := h
 obtain ⟨u, rfl, rx⟩ := vals1 r
 have hl := line63
 have hs : sizeLine = 16777216 := sizeLine_eq
 cases x with
 | str y =>
   obtain ⟨t, rfl⟩ := rx
   obtain ⟨hy, e'⟩ : y.length ≤ sizeLine ∧ n = y.length := e
   subst e'
   exact len_str (by lia) ⟨.int _, H, I.tok _, ⟨_, rfl⟩, q⟩
 | byt y =>
   obtain ⟨t, rfl⟩ := rx
   obtain ⟨hy, e'⟩ : y.size ≤ sizeLine ∧ n = y.size := e
   subst e'
   exact PySem.W.len_bytes (by lia) ⟨.int _, H, I.tok _, ⟨_, rfl⟩, q⟩
 | ref p =>
   cases rx
   have e' : (∃ xs, SqL X.K H p xs ∧ n = xs.length) ∨ ∃ xs, SqT X.K H p xs ∧ n = xs.length := e
   rcases e' with ⟨xs, hx, e'⟩ | ⟨xs, hx, e'⟩
   ·subst e'
    obtain ⟨its, r', pl, hz⟩ := I.list hx
    have hlen := r'.length
    exact Calls.call_len_list pl.isList (by simp only [List.size_toArray]; lia) ⟨.int xs.length, H, I.tok _, ⟨_, by simp only [List.size_toArray]; rw [hlen]⟩, q⟩
   ·subst e'
    obtain ⟨its, r', pl, hz⟩ := I.tuple hx
    have hlen := r'.length
    exact len_tuple pl (by simp only [List.size_toArray]; lia) ⟨.int xs.length, H, I.tok _, ⟨_, by simp only [List.size_toArray]; rw [hlen]⟩, q⟩
 | _ => exact (show False from e).elim
end
end L2
namespace L2
open PySem PySem.Spec PyProof.Rows
structure ObjM (h : Heap) (x dx C : Addr) (mA : Str → Option Value) : Prop where
 obj : h.get? x = some (PySem.W.instObj C dx)
 ns : h.Ns1 dx mA
 ne : dx ≠ x
theorem lookIn_ns {h : Heap} {dx : Addr} {mA : Str → Option Value} (n : h.Ns1 dx mA) : ∃ od, h.get? dx = some od ∧ ∀ name, PySem.W.lookIn name od = some (mA name) := by
 obtain ⟨o, es, ep, ho, hd, hk, _, hm⟩ := n
 refine ⟨o, ho, fun name => ?_⟩
 have e := hm name
 unfold nsFind findBy at e
 rw [← Array.find?_toList] at e
 unfold PySem.W.lookIn
 rw [hd]
 dsimp only
 split
 ·rename_i y q
  rw [q] at e
  exact congrArg some e
 ·rename_i q
  rw [q] at e
  have a : es.toList.any (·.refKey) = false := by
   rw [List.any_eq_false]
   intro y hy
   obtain ⟨z, t, hkey⟩ := hk y (Array.mem_toList_iff.mp hy)
   simp [DictEntry.refKey, hkey]
  have a' : ¬ es.toList.any (·.refKey) = true := by rw [a]; exact Bool.false_ne_true
  rw [if_neg a']
  exact congrArg some e
theorem ObjM.look {h : Heap} {x dx C : Addr} {mA : Str → Option Value} (I : ObjM h x dx C mA) : ∃ od, PySem.W.InstAt h x (PySem.W.instObj C dx) C (some od) ∧ ∀ name, PySem.W.lookIn name od = some (mA name) :=
 let ⟨od, ho, hl⟩ := lookIn_ns I.ns
 ⟨od, ⟨I.obj, rfl, rfl, ho⟩, hl⟩
section
variable {prog : Program} {w : World} {A : Around} {E : Value → Shared → Prop} {s : Shared} {K : PySem.W.Frag} {x dx C f : Addr} {mA : Str → Option Value} {name : Str} {v : Value}
theorem get_map {expr : Bool} {Q : Value → Shared → Prop} (X : K.In s.heap) (I : ObjM s.heap x dx C mA) (hg : PySem.W.plainGet K C name = true) (hh : PySem.W.hasDictIn K C = true)
 (ha : PySem.W.findIn K (.ref C) name = some none) (hv : mA name = some v) (hv' : PySem.W.handedIn v = true) (h : Q v { s with toks := s.toks + 1 }) :
 wpAny (model prog w) A (getAttr (.ref x) name expr) Q E s := by
 obtain ⟨od, J, hl⟩ := I.look
 exact PySem.W.get_value X J (PySem.W.plainGet_of hg).1 (PySem.W.findObj_own hh ha rfl (by rw [hl, hv])) hv' h
theorem get_meth {pl : Sem Bool} {Q : Value × List Value → Shared → Prop} (X : K.In s.heap) (I : ObjM s.heap x dx C mA) (hg : PySem.W.plainGet K C name = true)
 (hf : PySem.W.findIn K (.ref C) name = some (some (.ref f))) (ht : PySem.W.isFn K (.ref f) = true) (hv : mA name = none) (h : Q (.ref f, [.ref x]) s) :
 wpAny (model prog w) A (getMethod (.ref x) name pl) Q E s := by
 obtain ⟨od, J, hl⟩ := I.look
 exact PySem.W.method_fn X J (PySem.W.plainGet_of hg).1 (PySem.W.plainGet_of hg).2 hf (beq_iff_eq.mp ht) (by show (PySem.W.lookIn name od).map (·.isSome) = some false; rw [hl, hv]; rfl) h
theorem set_map {ns : List Str} {Q : Unit → Shared → Prop} (X : K.In s.heap) (I : ObjM s.heap x dx C mA)
 (hs : PySem.W.findIn K (.ref C) "__setattr__" = some (some (.builtin "object.__setattr__"))) (hp : PySem.W.plainOver K C = true) (ht : PySem.W.takerIn K C name = some none) (hh : PySem.W.hasDictIn K C = true)
 (hw : PySem.Within mA ns) (hsz : ns.length ≤ sizeLine)
 (h : ∀ h', ObjM h' x dx C (fun y => if y = name then some v else mA y) → Heap.SameBut dx s.heap h' → Q () { s with heap := h', toks := s.toks + 2 }) :
 wpAny (model prog w) A (setAttr (.ref x) name v) Q E s := by
 obtain ⟨od, J, hl⟩ := I.look
 refine PySem.W.set_plain X J hs (PySem.W.osa_open (s := { s with toks := s.toks + 1 }) (r := none) X J hp ht fun b => ?_)
 obtain ⟨cd, hc, hd'⟩ := PySem.W.any_some hh
 have hx : s.heap.get? x = some ⟨.ref C, some dx, .plain, #[]⟩ := I.obj
 refine wpAny_bind (wpAny_pure (wpAny_bind (wpAny_bind (wpAny_loadPart hx (wpAny_bind (PySem.W.Looks.here (s := { s with toks := s.toks + 1 }) (PySem.W.looks_clsIn X hc) ?_))))))
 rw [hd']
 refine wpAny_pure (a := some dx) (wpAny_bind (wpAny_pure (wpAny_bind ?_)))
 refine wpAny_nsSet1 (s := { s with toks := s.toks + 1 }) I.ns fun h' hn2 hs2 => ?_
 obtain ⟨oD, esD, epD, hoD, hdD, hcD⟩ := hn2.count (PySem.Within.cons name v hw)
 refine wpAny_bind (wpAny_lookBehind hoD (by rw [hdD]; exact pastItsLine_dict (Nat.le_trans hcD (by rw [List.length_cons]; lia))) ?_)
 exact wpAny_pure (h _ ⟨(hs2.2 _ (Ne.symm I.ne)).trans I.obj, hn2, I.ne⟩ hs2)
theorem make_map {R : Result → Shared → Prop} {vs : List Value} {kw : List (Str × Value)} (X : K.In s.heap) (hm : PySem.W.makesIn K C = true)
 (hi : PySem.W.findIn K (.ref C) "__init__" = some (some (.ref f))) (hf : PySem.W.typeIn K (.ref f) = some (.type "function"))
 (h : codeAny (model prog w) (A.under (.builtin "type.__call__" ⟨.ref C :: vs, kw⟩)) (.call (.ref f) ⟨.ref (s.heap.objs.size + 1) :: vs, kw⟩) (PySem.W.InitBack (s.heap.objs.size + 1) R)
  { s with heap := (s.heap.push PySem.W.emptyDict).push (PySem.W.instObj C s.heap.objs.size) }) :
 codeAny (model prog w) A (.call (.ref C) ⟨vs, kw⟩) R s := by
 obtain ⟨hh, g, d, t, os⟩ := s
 exact PySem.W.make_core (PySem.W.makes_of X hm) (PySem.W.looks_findIn X hi) (fun self => PySem.W.bind_fn X self hf) (.inl rfl) h
end
def putF (f : Str) (v : V) : List (Str × V) → List (Str × V)
 | [] => [(f, v)]
 | (g, x) :: r => if g = f then (g, v) :: r else (g, x) :: putF f v r
theorem lookup_putF (f g : Str) (v : V) : ∀ fs : List (Str × V), (putF f v fs).lookup g = if g = f then some v else fs.lookup g
 | [] => by
   show List.lookup g [(f, v)] = _
   by_cases h : g = f
   ·have hb : (g == f) = true := beq_iff_eq.mpr h
    simp only [List.lookup, hb, if_pos h]
   ·have hb : (g == f) = false := beq_eq_false_iff_ne.mpr h
    simp only [List.lookup, hb, if_neg h]
 | (k, x) :: r => by
   have ih := lookup_putF f g v r
   rw [show putF f v ((k, x) :: r) = (if k = f then (k, v) :: r else (k, x) :: putF f v r) from rfl]
   by_cases hk : k = f
   ·rw [if_pos hk]
    by_cases h : g = k
    ·have hb : (g == k) = true := beq_iff_eq.mpr h
     simp only [List.lookup, hb, if_pos (h.trans hk)]
    ·have hb : (g == k) = false := beq_eq_false_iff_ne.mpr h
     simp only [List.lookup, hb, if_neg (fun e : g = f => h (e.trans hk.symm))]
   ·rw [if_neg hk]
    by_cases h : g = k
    ·have hb : (g == k) = true := beq_iff_eq.mpr h
     simp only [List.lookup, hb, if_neg (fun e : g = f => hk (h.symm.trans e))]
    ·have hb : (g == k) = false := beq_eq_false_iff_ne.mpr h
     simp only [List.lookup, hb]
     exact ih
theorem keys_putF (f : Str) (v : V) : ∀ fs : List (Str × V), f ∈ (putF f v fs).map (·.1) ∧ ∀ g, g ∈ fs.map (·.1) → g ∈ (putF f v fs).map (·.1)
 | [] => ⟨by simp [putF], fun g h => by simp at h⟩
 | (k, x) :: r => by
   obtain ⟨i1, i2⟩ := keys_putF f v r
   rw [show putF f v ((k, x) :: r) = (if k = f then (k, v) :: r else (k, x) :: putF f v r) from rfl]
   by_cases hk : k = f
   ·rw [if_pos hk]
    subst hk
    exact ⟨by simp, fun g h => by simpa using h⟩
   ·rw [if_neg hk]
    refine ⟨?_, fun g h => ?_⟩
    ·rw [List.map_cons]
     exact List.mem_cons_of_mem _ i1
    ·rw [List.map_cons] at h ⊢
     rcases List.mem_cons.mp h with e | e
     ·exact List.mem_cons.mpr (.inl e)
     ·exact List.mem_cons_of_mem _ (i2 g e)
theorem length_putF (f : Str) (v : V) : ∀ fs : List (Str × V), (putF f v fs).length ≤ fs.length + 1
 | [] => by simp [putF]
 | (k, x) :: r => by
   have ih := length_putF f v r
   rw [show putF f v ((k, x) :: r) = (if k = f then (k, v) :: r else (k, x) :: putF f v r) from rfl]
   by_cases hk : k = f
   ·rw [if_pos hk, List.length_cons, List.length_cons]; lia
   ·rw [if_neg hk, List.length_cons, List.length_cons]; lia
theorem RelO.some_of {v : V} {o : Option Value} (r : RelO (some v) o) : ∃ u, o = some u ∧ RelV v u := by
 cases o with
 | none => exact (show False from r).elim
 | some u => exact ⟨u, rfl, r⟩
theorem RelO.none_of {o : Option Value} (r : RelO none o) : o = none := by
 cases o with
 | none => rfl
 | some u => exact (show False from r).elim
theorem handed_of {v : V} {u : Value} (r : RelV v u) : PySem.W.handedIn u = true := by
 cases v with
 | non => cases (show u = Value.none from r); rfl
 | bl b => cases (show u = Value.bool b from r); rfl
 | int i => obtain ⟨t, e⟩ := (show ∃ t, u = Value.int i t from r); cases e; rfl
 | str x => obtain ⟨t, e⟩ := (show ∃ t, u = Value.str x t from r); cases e; rfl
 | byt b => obtain ⟨t, e⟩ := (show ∃ t, u = Value.bytes b t from r); cases e; rfl
 | flt b => obtain ⟨t, e⟩ := (show ∃ t, u = Value.float b t from r); cases e; rfl
 | ref a => cases (show u = Value.ref a from r); rfl
 | ty n => cases (show u = Value.type n from r); rfl
section
variable {P : Program} {w : World} {H H' : Hp} {h h' : Heap} {a C dx : Addr} {fs fs' : List (Str × V)}
theorem ins_get (hok : HOk P w H h) (e : H a = some (.ins C dx fs)) : ∃ mA, ObjM h a dx C mA ∧ (∀ f, RelO (fs.lookup f) (mA f)) ∧ PySem.Within mA (fs.map (·.1)) ∧ fs.length ≤ 1000 ∧ H dx = some (.own a) := by
 obtain ⟨d, z, ne, ob, mA, n, r, q⟩ := (show ObjOk P w H h a (.ins C dx fs) from hok a _ e)
 exact ⟨mA, ⟨ob, n, ne⟩, r, q, z, d⟩
end
structure Cls (K : PySem.W.Frag) (C : Addr) : Prop where
 pg : PySem.W.plainGet K C Str.empty = true
 hd : PySem.W.hasDictIn K C = true
 po : PySem.W.plainOver K C = true
 sa : PySem.W.findIn K (.ref C) "__setattr__" = some (some (.builtin "object.__setattr__"))
theorem Cls.get {K : PySem.W.Frag} {C : Addr} (c : Cls K C) (f : Str) : PySem.W.plainGet K C f = true := c.pg
def NoAttr (K : PySem.W.Frag) (C : Addr) (f : Str) : Prop := PySem.W.findIn K (.ref C) f = some none
theorem NoAttr.taker {K : PySem.W.Frag} {C : Addr} {f : Str} (n : NoAttr K C f) : PySem.W.takerIn K C f = some none := by
 unfold PySem.W.takerIn
 rw [show PySem.W.findIn K (.ref C) f = some none from n]
 rfl
structure Con (K : PySem.W.Frag) (C : Addr) (f : Str) (v : V) (u : Value) : Prop where
 at_ : PySem.W.findIn K (.ref C) f = some (some u)
 rel : RelV v u
 get : PySem.W.specialIn K u "__get__" = some none
 cp : PySem.W.copiedNames.contains f = false
structure Meth (K : PySem.W.Frag) (C : Addr) (m : Str) (f : Addr) : Prop where
 at_ : PySem.W.findIn K (.ref C) m = some (some (.ref f))
 fn : PySem.W.isFn K (.ref f) = true
 kp : PySem.W.keepIn K (.ref f) = true
section
variable {X : Cx} {pins : List (Addr × Obj)} {σ : St} {H : Hp} {s : Shared} {a C dx : Addr} {fs : List (Str × V)} {f : Str} {v : V} {A : Around} {E : Value → Shared → Prop}
theorem getattr_ok {b : Bool} {Q : Value → Shared → Prop} (I : Inv X pins σ H s) (e : H a = some (.ins C dx fs)) (c : Cls X.K C) (n : NoAttr X.K C f) (l : fs.lookup f = some v)
 (h : ∀ u s', Inv X pins σ H s' → RelV v u → Q u s') : wpAny (model X.prog X.w) A (getAttr (.ref a) f b) Q E s := by
 obtain ⟨mA, O, r, _, _, _⟩ := ins_get I.hok e
 obtain ⟨u, hu, ru⟩ := RelO.some_of (v := v) (o := mA f) (by rw [← l]; exact r f)
 exact get_map I.kIn O (c.get f) c.hd n hu (handed_of ru) (h u _ (I.tok _) ru)
theorem getmeth_ok {m : Str} {g : Addr} {pl : Sem Bool} {Q : Value × List Value → Shared → Prop} (I : Inv X pins σ H s) (e : H a = some (.ins C dx fs)) (c : Cls X.K C) (k : Meth X.K C m g) (l : fs.lookup m = none)
 (h : Q (.ref g, [.ref a]) s) : wpAny (model X.prog X.w) A (getMethod (.ref a) m pl) Q E s := by
 obtain ⟨mA, O, r, _, _, _⟩ := ins_get I.hok e
 have hn : mA m = none := RelO.none_of (by rw [← l]; exact r m)
 exact get_meth I.kIn O (c.get m) k.at_ k.fn hn h
theorem setattr_ok {y : V} {u : Value} {Q : Unit → Shared → Prop} (I : Inv X pins σ H s) (e : H a = some (.ins C dx fs)) (c : Cls X.K C) (n : NoAttr X.K C f) (hl : fs.length < 1000) (ry : RelV y u)
 (h : ∀ s', Inv X pins σ (upd H a (.ins C dx (putF f y fs))) s' → Q () s') : wpAny (model X.prog X.w) A (setAttr (.ref a) f u) Q E s := by
 obtain ⟨mA, O, r, wi, _, ho⟩ := ins_get I.hok e
 have hz : (fs.map (·.1)).length ≤ sizeLine := by rw [List.length_map, sizeLine_eq]; lia
 refine set_map I.kIn O c.sa c.po n.taker c.hd wi hz fun h' O' sb => h _ ?_
 have hd : ∃ o, h'.get? dx = some o := let ⟨o, _, _, e', _⟩ := O'.ns; ⟨o, e'⟩
 refine I.write (x := a) (e := dx) (by rw [e]; exact True.intro) (.inr ho) (fun b q hb z => (sb.2 b hb).trans z) hd ?_
 refine ⟨by rw [upd_ne O.ne]; exact ho, ?_, O.ne, O'.obj, _, O'.ns, fun g => ?_, fun g hg => ?_⟩
 ·have := length_putF f y fs; lia
 ·show RelO ((putF f y fs).lookup g) (if g = f then some u else mA g)
  rw [lookup_putF]
  by_cases q : g = f
  ·rw [if_pos q, if_pos q]; exact ry
  ·rw [if_neg q, if_neg q]; exact r g
 ·by_cases q : g = f
  ·rw [q]; exact (keys_putF f y fs).1
  ·refine (keys_putF f y fs).2 g (wi g fun z => hg ?_)
   show (if g = f then some u else mA g) = none
   rw [if_neg q]; exact z
theorem Inv.made (I : Inv X pins σ H s) : Inv X pins σ (upd (upd H s.heap.objs.size (.own (s.heap.objs.size + 1))) (s.heap.objs.size + 1) (.ins C s.heap.objs.size []))
 { s with heap := (s.heap.push PySem.W.emptyDict).push (PySem.W.instObj C s.heap.objs.size) } := by
 have e1 : (s.heap.push PySem.W.emptyDict).get? s.heap.objs.size = some PySem.W.emptyDict := Heap.get?_push_size s.heap rfl
 have e2 : ((s.heap.push PySem.W.emptyDict).push (PySem.W.instObj C s.heap.objs.size)).get? (s.heap.objs.size + 1) = some (PySem.W.instObj C s.heap.objs.size) := by
  have := Heap.get?_push_size (s.heap.push PySem.W.emptyDict) (o := PySem.W.instObj C s.heap.objs.size) rfl
  rwa [Heap.size_push] at this
 have e3 : (s.heap.push PySem.W.emptyDict).Ns s.heap.objs.size (fun _ => none) := ⟨PySem.W.emptyDict, #[], _, e1, rfl, (fun e he => absurd he (by simp)), fun _ => rfl⟩
 have I1 := I.laid (a := s.heap.objs.size) (o := .own (s.heap.objs.size + 1)) (h' := s.heap.push PySem.W.emptyDict) (t' := s.toks) (fun b u q => Heap.get?_push_of_some _ q) (Nat.le_refl _) ⟨_, e1⟩
 refine I1.laid (a := s.heap.objs.size + 1) (o := .ins C s.heap.objs.size []) (t' := s.toks) (fun b u q => Heap.get?_push_of_some _ q) (Nat.le_of_eq (Heap.size_push _ _)) ?_
 have ne : s.heap.objs.size ≠ s.heap.objs.size + 1 := Nat.ne_of_lt (Nat.lt_succ_self _)
 refine ⟨by rw [upd_ne ne, upd_same], Nat.zero_le _, ne, e2, fun _ => none, (Heap.Ns1.of_empty e3).at fun o q => Heap.get?_push_of_some _ q, fun _ => True.intro, fun y hy => absurd rfl hy⟩
theorem attr_of {prog : Program} {w : World} {env : Env} {e : Expr} {f : Str} {pos : Pos} {s : Shared} {Q : Value → Shared → Prop} (hb : attributeBase e f env (eval e env) = eval e env)
 (h : wpAny (model prog w) A (eval e env) (fun o s₁ => wpAny (model prog w) A (getAttr o f true) Q E s₁) E s) : wpAny (model prog w) A (eval (.Attribute e f pos) env) Q E s :=
 Attribute_any_ h (by rw [arm_eval_Attribute, hb])
end
def tFld (K : PySem.W.Frag) (ta : TE) (f : Str) : TE := fun σ H Q => ta σ H fun x H1 => ∃ a C dx fs v, x = .ref a ∧ H1 a = some (.ins C dx fs) ∧ Cls K C ∧ NoAttr K C f ∧ fs.lookup f = some v ∧ Q v H1
def sFld (K : PySem.W.Frag) (ta tv : TE) (f : Str) : TS := fun D σ H => tv σ H fun y H1 => ta σ H1 fun x H2 => ∃ a C dx fs, x = .ref a ∧ H2 a = some (.ins C dx fs) ∧ Cls K C ∧ NoAttr K C f ∧ fs.length < 1000 ∧
 D.nx σ (upd H2 a (.ins C dx (putF f y fs)))
section
variable {X : Cx} {o e value : Expr} {f : Str} {pos pos' tpos : Pos} {ta tv : TE}
theorem pe_fld (he : PE X e ta) (hb : attributeBase e f X.env (eval e X.env) = eval e X.env) : PE X (.Attribute e f pos) (tFld X.K ta f) := by
 walk_at "z3"
 refine attr_of hb (thn (he pins s σ H _ I h) fun u s1 ⟨x, H1, I1, rx, a, C, dx, fs, v, ex, ea, c, n, l, q⟩ => ?_)
 subst ex
 obtain rfl : u = Value.ref a := rx
 exact getattr_ok I1 ea c n l fun u' s2 I2 ru => ⟨v, H1, I2, ru, q⟩
theorem ps_fld (ha : PE X o ta) (hv : PE X value tv) (hs : swapsWith value (some (.Attribute o f pos')) pos.line X.env = pure false) : PS X (.Assign [.Attribute o f pos'] value pos) (sFld X.K ta tv f) := by
 intro pins s σ H D I h
 refine plainObj_wpAny_Assign_Attribute (thn (hv pins s σ H _ I h) fun u s1 ⟨y, H1, I1, ry, q⟩ => thn (ha pins s1 σ H1 _ I1 q) fun ov s2 ⟨x, H2, I2, rx, a, C, dx, fs, ex, ea, c, n, l, q2⟩ => ?_) hs
 subst ex
 obtain rfl : ov = Value.ref a := rx
 exact setattr_ok I2 ea c n l ry fun s3 I3 => ⟨σ, _, I3, q2⟩
end
section
variable {X : Cx} {pins : List (Addr × Obj)} {σ : St} {H : Hp} {s : Shared} {A : Around} {E : Value → Shared → Prop} {Q : Value → Shared → Prop} {c : Value} {b : Bool}
inductive TyOf (K : PySem.W.Frag) (H : Hp) : V → Value → Prop where
 | non : TyOf K H .non (.type "NoneType")
 | bl (x : Bool) : TyOf K H (.bl x) (.type "bool")
 | int (i : Int) : TyOf K H (.int i) (.type "int")
 | str (x : Str) : TyOf K H (.str x) (.type "str")
 | flt (x : UInt64) : TyOf K H (.flt x) (.type "float")
 | lst {a : Addr} {xs : List V} (e : H a = some (.lst xs)) : TyOf K H (.ref a) (.type "list")
 | frz {a : Addr} {o : Obj} {xs : List V} (e : H a = some (.frz o (.lst xs))) : TyOf K H (.ref a) (.type "list")
 | tup {a : Addr} {xs : List V} (e : H a = some (.tup xs)) : TyOf K H (.ref a) (.type "tuple")
 | dK {a : Addr} {kvs : List (Key × V)} (e : H a = some (.dK kvs)) : TyOf K H (.ref a) (.type "dict")
 | dT {a : Addr} {kvs : List (List Key × V)} (e : H a = some (.dT kvs)) : TyOf K H (.ref a) (.type "dict")
 | ins {a C dx : Addr} {fs : List (Str × V)} (e : H a = some (.ins C dx fs)) (cl : Cls K C) (ha : PySem.W.findIn K (.ref C) "__class__" = some (some (.builtin "object.__class__")))
  (hn : PySem.W.specialIn K (.builtin "object.__class__") "__get__" = some (some (.builtin "getset_descriptor.__get__"))) (htk : PySem.W.takesIn K (.builtin "object.__class__") = some true)
  (hm : PySem.W.mroIn K C (.type "object") = some true) : TyOf K H (.ref a) (.ref C)
theorem isinst_ok {x : V} {u t : Value} (I : Inv X pins σ H s) (rx : RelV x u) (ty : TyOf X.K H x t) (e : PySem.W.kitOne X.K t c = some b) (h : ∀ tk, Q (.bool b) { s with toks := tk }) :
 wpAny (model X.prog X.w) A (call (.builtin "isinstance") [u, c]) Q E s := by
 cases ty with
 | non => cases (show u = Value.none from rx); exact PySem.W.kia_one PySem.W.kitx_none I.kIn True.intro e (fun z => nomatch z) h
 | bl y => cases (show u = Value.bool y from rx); exact PySem.W.kia_one PySem.W.kitx_bool I.kIn True.intro e (fun z => nomatch z) h
 | int i => obtain ⟨t, q⟩ := (show ∃ t, u = Value.int i t from rx); cases q; exact PySem.W.kia_one PySem.W.kitx_int I.kIn True.intro e (fun z => nomatch z) h
 | str y => obtain ⟨t, q⟩ := (show ∃ t, u = Value.str y t from rx); cases q; exact PySem.W.kia_one PySem.W.kitx_str I.kIn True.intro e (fun z => nomatch z) h
 | flt y => obtain ⟨t, q⟩ := (show ∃ t, u = Value.float y t from rx); cases q; exact PySem.W.kia_one PySem.W.kitx_float I.kIn True.intro e (fun z => nomatch z) h
 | @lst a xs ea =>
   cases (show u = Value.ref a from rx)
   obtain ⟨_, _, n, _, h1⟩ := (show ObjOk X.prog X.w H s.heap a (.lst xs) from I.hok a _ ea)
   exact PySem.W.kia_one PySem.W.kitx_list I.kIn ⟨_, h1, rfl⟩ e (fun z => nomatch z) h
 | @frz a ob xs ea =>
   cases (show u = Value.ref a from rx)
   obtain ⟨_, _, _, n, _, h1⟩ := (show ObjOk X.prog X.w H s.heap a (.frz ob (.lst xs)) from I.hok a _ ea)
   exact PySem.W.kia_one PySem.W.kitx_list I.kIn ⟨_, h1, rfl⟩ e (fun z => nomatch z) h
 | @tup a xs ea =>
   cases (show u = Value.ref a from rx)
   obtain ⟨_, _, _, p⟩ := (show ObjOk X.prog X.w H s.heap a (.tup xs) from I.hok a _ ea)
   obtain ⟨o, h1, h2, _⟩ := p
   exact PySem.W.kia_one PySem.W.kitx_tuple I.kIn ⟨o, h1, h2⟩ e (fun z => nomatch z) h
 | @dK a kvs ea =>
   cases (show u = Value.ref a from rx)
   obtain ⟨_, _, vs, _, p⟩ := (show ObjOk X.prog X.w H s.heap a (.dK kvs) from I.hok a _ ea)
   obtain ⟨o, es, ep, h1, h2, _⟩ := p
   exact PySem.W.kia_one PySem.W.kitx_dict I.kIn ⟨o, h1, h2.1⟩ e (fun z => nomatch z) h
 | @dT a kvs ea =>
   cases (show u = Value.ref a from rx)
   obtain ⟨_, _, xs, _, o, es, ep, h1, h2, _⟩ := (show ObjOk X.prog X.w H s.heap a (.dT kvs) from I.hok a _ ea)
   exact PySem.W.kia_one PySem.W.kitx_dict I.kIn ⟨o, h1, h2.1⟩ e (fun z => nomatch z) h
 | @ins a C dx fs ea cl ha hn htk hm =>
   cases (show u = Value.ref a from rx)
   obtain ⟨mA, O, _⟩ := ins_get I.hok ea
   obtain ⟨od, J, _⟩ := O.look
   exact PySem.W.kia_one (PySem.W.kitx_own (cl.get _) cl.hd ha hn htk hm) I.kIn J e (fun z => nomatch z) h
end
end L2
namespace L2
open PySem PySem.Spec PyProof.Rows
structure Room (k : Nat) (A : Around) : Prop where
 hd : A.handled = none
 dp : A.depth + 3 * k + 5 < recursionLimit
 un : A.units + 16 * k + 200 < cLine
theorem Room.mono {j k : Nat} {A : Around} (r : Room k A) (h : j ≤ k) : Room j A := ⟨r.hd, by have := r.dp; lia, by have := r.un; lia⟩
theorem Room.deeper {k : Nat} {A : Around} (r : Room (k + 1) A) (env : Env) : Room k (A.deeper env) :=
 ⟨r.hd, by have := r.dp; show A.depth + 1 + 3 * k + 5 < _; lia, by have := r.un; show A.units + 3 + 16 * k + 200 < _; lia⟩
theorem make_depth {A : Around} {C : Addr} {us : List Value} {kw : List (Str × Value)} : (A.under (.builtin "type.__call__" ⟨.ref C :: us, kw⟩)).depth = A.depth + 1 := by
 first | rfl | simp [Around.under, Code.weight, Code.isCreation, Code.isGuard, Code.isCaller, Code.frames, Code.isFrame, guardIds]
theorem make_units {A : Around} {C : Addr} {us : List Value} {kw : List (Str × Value)} : (A.under (.builtin "type.__call__" ⟨.ref C :: us, kw⟩)).units = A.units + 1 := by
 first | rfl | simp [Around.under, Code.cUnits, Code.frames, Code.isFrame]
theorem Room.make {k : Nat} {A : Around} (r : Room (k + 1) A) (C : Addr) (us : List Value) (kw : List (Str × Value)) : Room k (A.under (.builtin "type.__call__" ⟨.ref C :: us, kw⟩)) :=
 ⟨r.hd, by have := r.dp; rw [make_depth]; lia, by have := r.un; rw [make_units]; lia⟩
theorem Room.depth {k : Nat} {A : Around} (r : Room k A) : A.depth < recursionLimit := by have := r.dp; lia
theorem Room.units {k : Nat} {A : Around} (r : Room k A) : A.units + 64 < cLine := by have := r.un; lia
def tNil : TA := fun _ H Q => Q [] H
def tCons (ta : TE) (tr : TA) : TA := fun σ H Q => ta σ H fun x H1 => tr σ H1 fun xs H2 => Q (x :: xs) H2
section
variable {X : Cx} {e : Expr} {es : List Expr} {te : TE} {t : TA} {pos : Pos}
theorem pa_nil : PA X [] tNil := fun _ _ _ _ H Q I h => Calls.spliced_nil ⟨[], H, I, .nil, h⟩
theorem pa_cons (ha : PE X e te) (hr : PA X es t) (hs : starEach (e :: es) X.env = (false, eval e X.env) :: starEach es X.env := by rfl) : PA X (e :: es) (tCons te t) := by
 intro pos pins s σ H Q I h
 rw [hs]
 show wpAny _ _ (spliced ((false, eval e X.env) :: backTo pos (starEach es X.env))) _ _ s
 refine Calls.spliced_cons (thn (ha pins s σ H _ I h) fun u s1 ⟨x, H1, I1, r1, q1⟩ => ?_)
 exact thn (hr pos pins s1 σ H1 _ I1 q1) fun us s2 ⟨xs, H2, I2, r2, q2⟩ => ⟨x :: xs, H2, I2, .cons r1 r2, q2⟩
def tTup (t : TA) : TE := fun σ H Q => t σ H fun xs H1 => xs.length ≤ sizeLine ∧ ∀ p, H1 p = none → Q (.ref p) (upd H1 p (.tup xs))
def tLst (t : TA) : TE := fun σ H Q => t σ H fun xs H1 => xs.length ≤ sizeLine ∧ ∀ p, H1 p = none → Q (.ref p) (upd H1 p (.lst xs))
theorem pe_tup {x1} (h : PA X es t) : PE X (.Tuple es x1 pos) (tTup t) := by
 intro pins s σ H Q I hq
 refine wpAny_Tuple_spliced (thn (h pos pins s σ H _ I hq) fun us s1 ⟨xs, H1, I1, r, z, q⟩ => ⟨by rw [← r.length]; exact z, ?_⟩)
 have hf : H1 s1.heap.objs.size = none := I1.hok.fresh (Nat.le_refl _)
 refine ⟨.ref s1.heap.objs.size, upd H1 s1.heap.objs.size (.tup xs), I1.laid (t' := s1.toks) (fun b u e => Heap.get?_push_of_some _ e) (Nat.le_refl _) ?_, rfl, q _ hf⟩
 exact ⟨z, us, r, ⟨_, Heap.get?_push_size _ rfl, rfl, _, rfl⟩⟩
theorem pe_lst (h : PA X es t) : PE X (.List es pos) (tLst t) := by
 intro pins s σ H Q I hq
 refine wpAny_List_spliced (thn (h pos pins s σ H _ I hq) fun us s1 ⟨xs, H1, I1, r, z, q⟩ => ⟨by rw [← r.length]; exact z, ?_⟩)
 have hf : H1 s1.heap.objs.size = none := I1.hok.fresh (Nat.le_refl _)
 refine ⟨.ref s1.heap.objs.size, upd H1 s1.heap.objs.size (.lst xs), I1.laid (t' := s1.toks) (fun b u e => Heap.get?_push_of_some _ e) (Nat.le_refl _) ?_, rfl, q _ hf⟩
 exact ⟨z, us, 0, r, Heap.get?_push_size _ rfl⟩
end
abbrev Sp := List V → Hp → VK → XK → Prop
abbrev CXT := List Env → Hp → Shared → XK → Value → Shared → Prop
structure Env0 (P : Program) (w : World) (K : PySem.W.Frag) (mg : Str → Option Value) (base : Heap) (A : Around) (outer : List Env) (s : Shared) (H : Hp) : Prop where
 frames : A.frames = some outer
 mod : Mod K mg base
 bs : ∀ b o, base.get? b = some o → s.heap.get? b = some o ∧ H b = none
 bsz : base.objs.size ≤ s.heap.objs.size
 funs : s.heap.FunFrames base outer
 frf : ∀ b ∈ frs outer, H b = none
 hok : HOk P w H s.heap
 bare : AllBare s.gens
def CE (outer : List Env) (P : Program) (w : World) (H : Hp) (s : Shared) (Q : VK) (u : Value) (s' : Shared) : Prop :=
 ∃ v H', s'.os = s.os ∧ AllBare s'.gens ∧ Un (frs outer) [] H H' s.heap s'.heap ∧ HOk P w H' s'.heap ∧ RelV v u ∧ Q v H'
def CR (CX : CXT) (outer : List Env) (P : Program) (w : World) (H : Hp) (s : Shared) (Q : VK) (E : XK) (r : Result) (s' : Shared) : Prop :=
 match r with
 | .ok (.ret u) => CE outer P w H s Q u s'
 | .ok _ => False
 | .error e => CX outer H s E e s'
structure FnOk (P : Program) (w : World) (K : PySem.W.Frag) (mg : Str → Option Value) (base : Heap) (CX : CXT) (k : Nat) (f : Addr) (fd : FuncData) (ps : List Str) (sp : Sp) : Prop where
 len : ∀ vs H Q E, sp vs H Q E → vs.length = ps.length
 run : ∀ (A : Around) (outer : List Env) (s : Shared) (H : Hp) (args : Args) (us : List Value) (vs : List V) (Q : VK) (E : XK), Room k A → Env0 P w K mg base A outer s H → BindsTo s fd args (ps.zip us) → Vals vs us → sp vs H Q E →
  codeAny (model P w) A (.call (.ref f) args) (CR CX outer P w H s Q E) s
theorem Env0.make {P : Program} {w : World} {K : PySem.W.Frag} {mg : Str → Option Value} {base : Heap} {A : Around} {outer : List Env} {s : Shared} {H : Hp} (e : Env0 P w K mg base A outer s H) (C : Addr) (us : List Value) (kw : List (Str × Value)) :
 Env0 P w K mg base (A.under (.builtin "type.__call__" ⟨.ref C :: us, kw⟩)) outer s H := ⟨by first | exact e.frames | (simpa [Around.under, Code.envs, Code.isFrame, pushEnvs] using e.frames), e.mod, e.bs, e.bsz, e.funs, e.frf, e.hok, e.bare⟩
section
variable {X : Cx} {pins : List (Addr × Obj)} {σ : St} {H : Hp} {s s' : Shared}
theorem Inv.env0 (I : Inv X pins σ H s) : Env0 X.prog X.w X.K X.mg X.base X.A X.stack s H :=
 ⟨I.ok.frames, I.ok.mod, I.bs, Nat.le_trans I.ok.bsz I.sz, I.stack, I.stkFree, I.hok, I.bare⟩
theorem Inv.after {Q : VK} {u : Value} (I : Inv X pins σ H s) (h : CE X.stack X.prog X.w H s Q u s') : EP X pins σ Q u s' := by
 obtain ⟨v, H', os, bare, un, hok, r, q⟩ := h
 obtain ⟨hh, g, d, t, os'⟩ := s'
 obtain rfl : os' = s.os := os
 exact ⟨v, H', I.call (h' := hh) (g' := g) (d' := d) (t' := t) (ch := []) un hok bare (fun b z => absurd z (by simp)), r, q⟩
end
def tCall (sp : Sp) (dvs : List V) (E : XK) (t : TA) : TE := fun σ H Q => t σ H fun vs H1 => sp (vs ++ dvs) H1 Q E
def tMeth (C : Addr) (m : Str) (sp : Sp) (dvs : List V) (E : XK) (ta : TE) (t : TA) : TE := fun σ H Q => ta σ H fun x H1 => ∃ a dx fs, x = .ref a ∧ H1 a = some (.ins C dx fs) ∧ fs.lookup m = none ∧
 t σ H1 fun vs H2 => sp (x :: (vs ++ dvs)) H2 Q E
def tMake (C : Addr) (sp : Sp) (dvs : List V) (E : XK) (t : TA) : TE := fun σ H Q => t σ H fun vs H1 => ∀ x dx, H1 x = none → H1 dx = none → dx ≠ x →
 sp (.ref x :: (vs ++ dvs)) (upd (upd H1 dx (.own x)) x (.ins C dx [])) (fun v H2 => v = .non ∧ Q (.ref x) H2) E
def Binds (K : PySem.W.Frag) (fd : FuncData) (ps : List Str) (ds : List Value) : Prop :=
 ∀ (s : Shared) (us : List Value), K.In s.heap → (us ++ ds).length = ps.length → BindsTo s fd ⟨us, []⟩ (ps.zip (us ++ ds))
theorem Binds.all {K : PySem.W.Frag} {fd : FuncData} {ps : List Str} (h : ∀ us : List Value, us.length = ps.length → bindArgs fd ⟨us, []⟩ = pure (ps.zip us)) : Binds K fd ps [] := fun s us _ hl => by
 rw [List.append_nil] at hl ⊢
 exact .of_eq (h us hl)
def Passes (CX : CXT) (X : Cx) (E : XK) : Prop := ∀ (pins : List (Addr × Obj)) (σ : St) (H : Hp) (s : Shared) (e : Value) (s' : Shared), Inv X pins σ H s → CX X.stack H s E e s' → X.xe e s'
section
variable {X : Cx} {CX : CXT} {k : Nat} {f C : Addr} {fd : FuncData} {ps : List Str} {sp : Sp} {dvs : List V} {ds : List Value} {E : XK} {x m : Str} {p pos apos : Pos} {e o : Expr} {es : List Expr} {ta : TE} {t : TA}
theorem run_fn {pins : List (Addr × Obj)} {σ : St} {H : Hp} {s : Shared} {Q : VK} {us : List Value} {vs : List V} (F : FnOk X.prog X.w X.K X.mg X.base CX k f fd ps sp) (hr : Room k X.A) (hb : Binds X.K fd ps ds) (hd : Vals dvs ds) (hx : Passes CX X E)
 (I : Inv X pins σ H s) (r : Vals vs us) (h : sp (vs ++ dvs) H Q E) : wpAny (model X.prog X.w) X.A (call (.ref f) us) (EP X pins σ Q) X.xe s := by
 have r2 : Vals (vs ++ dvs) (us ++ ds) := r.append hd
 have hl : (us ++ ds).length = ps.length := by rw [← r2.length]; exact F.len _ _ _ _ h
 refine wpAny_call (codeAny_mono (F.run X.A X.stack s H ⟨us, []⟩ (us ++ ds) (vs ++ dvs) Q E hr I.env0 (hb s us I.kIn hl) r2 h) fun r s' hq => ?_)
 cases r with
 | error e => exact hx pins σ H s e s' I hq
 | ok fl =>
   cases fl with
   | ret u => exact I.after hq
   | next => exact False.elim hq
   | brk => exact False.elim hq
   | cont => exact False.elim hq
theorem pe_call (F : FnOk X.prog X.w X.K X.mg X.base CX k f fd ps sp) (hr : Room k X.A) (hg : Gl X x) (hm : X.mg x = some (.ref f)) (hk : PySem.W.keepIn X.K (.ref f) = true) (hb : Binds X.K fd ps ds) (hd : Vals dvs ds) (hx : Passes CX X E)
 (ha : PA X (e :: es) t) (hdb : (x == ("__debug__" : Str)) = false := by decide) (he : starEach (e :: es) X.env = (false, eval e X.env) :: starEach es X.env := by rfl) (hpl : (backTo pos (starEach es X.env)).any (·.1) = false := by rfl) :
 PE X (.Call (.Name x p) (e :: es) [] pos) (tCall sp dvs E t) := by
 walk_at "z3"
 refine wpAny_Call_Name_kw (ld_glob I hg hm ?_ hdb)
 walk_at "z21"
 exact run_fn F hr hb hd hx I1 r q
theorem pe_meth {pl : Sem Bool} (he : PE X o ta) (c : Cls X.K C) (hm : Meth X.K C m f) (F : FnOk X.prog X.w X.K X.mg X.base CX k f fd ps sp) (hr : Room k X.A) (hb : Binds X.K fd ps ds) (hd : Vals dvs ds) (hx : Passes CX X E) (ha : PA X (e :: es) t)
 (hst : starEach (e :: es) X.env = (false, eval e X.env) :: starEach es X.env := by rfl) (hpl : (backTo pos (starEach es X.env)).any (·.1) = false := by rfl)
 (ht : eval (.Call (.Attribute o m apos) (e :: es) [] pos) X.env = (do
  let ov ← eval o X.env
  standAt apos.atName
  let (f, first) ← holding [ov] (getMethod ov m pl)
  callWith pos f first (backTo pos (starEach (e :: es) X.env)) (backToKw pos (keywordEach [] X.env))) := by rfl) :
 PE X (.Call (.Attribute o m apos) (e :: es) [] pos) (tMeth C m sp dvs E ta t) := by
 walk_at "z3"
 refine PySem.W.methodCall_KW (pl := pl) (thn (he pins s σ H _ I h) fun u s1 ⟨x, H1, I1, rx, a, dx, fs, ex, ea, l, q⟩ => ?_) ht
 subst ex
 obtain rfl : u = Value.ref a := rx
 refine getmeth_ok I1 ea c hm l ?_
 refine PySem.W.callWith_K (first := [.ref a]) (h₀ := X.base) I.ok.mod.kin hm.kp (thn (ha pos pins s1 σ H1 _ I1 q) fun us s2 ⟨vs, H2, I2, r, q2⟩ => ⟨I2.kIn, ?_⟩) hst hpl
 exact run_fn (us := .ref a :: us) (vs := .ref a :: vs) F hr hb hd hx I2 (.cons rfl r) q2
theorem pe_meth0 {pl : Sem Bool} (he : PE X o ta) (c : Cls X.K C) (hm : Meth X.K C m f) (F : FnOk X.prog X.w X.K X.mg X.base CX k f fd ps sp) (hr : Room k X.A) (hb : Binds X.K fd ps ds) (hd : Vals dvs ds) (hx : Passes CX X E)
 (ht : eval (.Call (.Attribute o m apos) [] [] pos) X.env = (do
  let ov ← eval o X.env
  standAt apos.atName
  let (f, first) ← holding [ov] (getMethod ov m pl)
  callWith pos f first (backTo pos (starEach [] X.env)) (backToKw pos (keywordEach [] X.env))) := by rfl) :
 PE X (.Call (.Attribute o m apos) [] [] pos) (tMeth C m sp dvs E ta tNil) := by
 walk_at "z3"
 refine PySem.W.methodCall_KW (pl := pl) (thn (he pins s σ H _ I h) fun u s1 ⟨x, H1, I1, rx, a, dx, fs, ex, ea, l, q⟩ => ?_) ht
 subst ex
 obtain rfl : u = Value.ref a := rx
 refine getmeth_ok I1 ea c hm l ?_
 exact PySem.W.callWith_K0 (first := [.ref a]) I1.kIn hm.kp (run_fn (us := [.ref a]) (vs := [.ref a]) F hr hb hd hx I1 (.cons rfl .nil) q)
structure Mk (K : PySem.W.Frag) (C f : Addr) : Prop where
 makes : PySem.W.makesIn K C = true
 init : PySem.W.findIn K (.ref C) "__init__" = some (some (.ref f))
 fn : PySem.W.isFn K (.ref f) = true
 kp : PySem.W.keepIn K (.ref C) = true
theorem run_make {pins : List (Addr × Obj)} {σ : St} {H : Hp} {s : Shared} {Q : VK} {us : List Value} {vs : List V} (M : Mk X.K C f) (F : FnOk X.prog X.w X.K X.mg X.base CX k f fd ps sp) (hr : Room (k + 1) X.A) (hb : Binds X.K fd ps ds) (hd : Vals dvs ds)
 (hx : Passes CX X E) (I : Inv X pins σ H s) (r : Vals vs us)
 (h : ∀ x dx, H x = none → H dx = none → dx ≠ x → sp (.ref x :: (vs ++ dvs)) (upd (upd H dx (.own x)) x (.ins C dx [])) (fun v H2 => v = .non ∧ Q (.ref x) H2) E) :
 wpAny (model X.prog X.w) X.A (call (.ref C) us) (EP X pins σ Q) X.xe s := by
 have hq := h (s.heap.objs.size + 1) s.heap.objs.size (I.hok.fresh (Nat.le_succ _)) (I.hok.fresh (Nat.le_refl _)) (Nat.ne_of_lt (Nat.lt_succ_self _))
 have I2 := Inv.made (C := C) I
 have r2 : Vals (V.ref (s.heap.objs.size + 1) :: (vs ++ dvs)) (Value.ref (s.heap.objs.size + 1) :: (us ++ ds)) := .cons rfl (r.append hd)
 have hl : (Value.ref (s.heap.objs.size + 1) :: us ++ ds).length = ps.length := by
  have e := r2.length
  rw [F.len _ _ _ _ hq] at e
  exact e.symm
 refine wpAny_call (make_map (f := f) I.kIn M.makes M.init (beq_iff_eq.mp M.fn) (codeAny_mono (F.run _ X.stack _ _ ⟨Value.ref (s.heap.objs.size + 1) :: us, []⟩ (Value.ref (s.heap.objs.size + 1) :: (us ++ ds)) _ _ E (hr.make C us [])
  (I2.env0.make C us []) (hb _ (Value.ref (s.heap.objs.size + 1) :: us) I2.kIn hl) r2 hq) fun r s' hq' => ?_))
 cases r with
 | error e => exact hx pins σ _ _ e s' I2 hq'
 | ok fl =>
   cases fl with
   | ret u =>
     obtain ⟨v, H', I3, rv, ev, q3⟩ := I2.after hq'
     subst ev
     exact ⟨rv, ⟨V.ref (s.heap.objs.size + 1), H', I3, rfl, q3⟩⟩
   | next => exact False.elim hq'
   | brk => exact False.elim hq'
   | cont => exact False.elim hq'
theorem pe_make (M : Mk X.K C f) (F : FnOk X.prog X.w X.K X.mg X.base CX k f fd ps sp) (hr : Room (k + 1) X.A) (hg : Gl X x) (hm : X.mg x = some (.ref C)) (hb : Binds X.K fd ps ds) (hd : Vals dvs ds) (hx : Passes CX X E)
 (ha : PA X (e :: es) t) (hdb : (x == ("__debug__" : Str)) = false := by decide) (he : starEach (e :: es) X.env = (false, eval e X.env) :: starEach es X.env := by rfl) (hpl : (backTo pos (starEach es X.env)).any (·.1) = false := by rfl) :
 PE X (.Call (.Name x p) (e :: es) [] pos) (tMake C sp dvs E t) := by
 walk_at "z3"
 refine wpAny_Call_Name_kw (ld_glob I hg hm ?_ hdb)
 refine PySem.W.callWith_K (h₀ := X.base) I.ok.mod.kin M.kp (thn (ha pos pins s σ H _ I h) fun us s1 ⟨vs, H1, I1, r, q⟩ => ⟨I1.kIn, ?_⟩) he hpl
 exact run_make M F hr hb hd hx I1 r q
end
section
variable {X : Cx} {CX : CXT} {k : Nat} {f C : Addr} {fd : FuncData} {ps ks : List Str} {sp : Sp} {E : XK} {x m : Str} {p pos apos kpos : Pos} {e o : Expr} {es : List Expr} {kws : List Keyword} {te ta : TE} {t tk : TA} {nm : Option Str}
structure KBinds (K : PySem.W.Frag) (fd : FuncData) (ps ks : List Str) (g : List Value → List Value → List Value) (gV : List V → List V → List V) : Prop where
 to : ∀ (s : Shared) (us ws : List Value), K.In s.heap → (g us ws).length = ps.length → BindsTo s fd ⟨us, ks.zip ws⟩ (ps.zip (g us ws))
 rel : ∀ {vs : List V} {us : List Value} {zs : List V} {ws : List Value}, Vals vs us → Vals zs ws → Vals (gV vs zs) (g us ws)
variable {g : List Value → List Value → List Value} {gV : List V → List V → List V}
end
structure FnScope (N P : List Str) (sc : Scope) : Prop where
 kind : sc.kind = .function
 co : sc.isCoroutine = false
 gen : sc.isGenerator = false
 nd : N.Nodup
 pre : N.take P.length = P
 par : ∀ x ∈ P, sc.names.lookup x = some .local ∨ sc.names.lookup x = some .cell
 nofree : ∀ y ∈ sc.names, y.2 ≠ .free
theorem bindL_out {kindOf : Str → Option NameKind} {x : Str} : ∀ {binds : List (Str × Value)} {m : Str → Option Value}, (∀ v, (x, v) ∉ binds) → bindL kindOf binds m x = m x
 | [], _, _ => rfl
 | (n, v) :: r, m, h => by
   unfold bindL
   rw [bindL_out fun w hw => h w (List.mem_cons_of_mem _ hw)]
   split
   ·have : x ≠ n := by rintro rfl; exact h v List.mem_cons_self
    simp [this]
   ·rfl
theorem bindC_out {kindOf : Str → Option NameKind} {x : Str} : ∀ {binds : List (Str × Value)} {m : Str → Option Value}, (∀ v, (x, v) ∉ binds) → bindC kindOf binds m x = m x
 | [], _, _ => rfl
 | (n, v) :: r, m, h => by
   unfold bindC
   rw [bindC_out fun w hw => h w (List.mem_cons_of_mem _ hw)]
   split
   ·rfl
   ·have : x ≠ n := by rintro rfl; exact h v List.mem_cons_self
    simp [this]
theorem bindL_get {kindOf : Str → Option NameKind} {x : Str} {v : Value} : ∀ {P : List Str} {vs : List Value} {i : Nat} {m : Str → Option Value}, P.Nodup → P[i]? = some x → vs[i]? = some v → kindOf x = some .local →
 bindL kindOf (P.zip vs) m x = some v
 | [], _, _, _, _, h, _, _ => by simp at h
 | _ :: _, [], _, _, _, _, h, _ => by simp at h
 | p :: P, w :: vs, 0, m, nd, h1, h2, hk => by
   simp at h1 h2; subst h1; subst h2
   show bindL kindOf ((p, w) :: P.zip vs) m p = _
   unfold bindL
   rw [bindL_out fun v hv => (List.nodup_cons.mp nd).1 (List.of_mem_zip hv).1, if_pos hk]
   simp
 | p :: P, w :: vs, i + 1, m, nd, h1, h2, hk => by
   show bindL kindOf ((p, w) :: P.zip vs) m x = _
   unfold bindL
   exact bindL_get (i := i) (List.nodup_cons.mp nd).2 (by simpa using h1) (by simpa using h2) hk
theorem bindC_get {kindOf : Str → Option NameKind} {x : Str} {v : Value} : ∀ {P : List Str} {vs : List Value} {i : Nat} {m : Str → Option Value}, P.Nodup → P[i]? = some x → vs[i]? = some v → kindOf x ≠ some .local →
 bindC kindOf (P.zip vs) m x = some v
 | [], _, _, _, _, h, _, _ => by simp at h
 | _ :: _, [], _, _, _, _, h, _ => by simp at h
 | p :: P, w :: vs, 0, m, nd, h1, h2, hk => by
   simp at h1 h2; subst h1; subst h2
   show bindC kindOf ((p, w) :: P.zip vs) m p = _
   unfold bindC
   rw [bindC_out fun v hv => (List.nodup_cons.mp nd).1 (List.of_mem_zip hv).1, if_neg hk]
   simp
 | p :: P, w :: vs, i + 1, m, nd, h1, h2, hk => by
   show bindC kindOf ((p, w) :: P.zip vs) m x = _
   unfold bindC
   exact bindC_get (i := i) (List.nodup_cons.mp nd).2 (by simpa using h1) (by simpa using h2) hk
def start (N : List Str) (vs : List V) : St := vs.map some ++ List.replicate (N.length - vs.length) none
def cxOf (CX : CXT) (P : Program) (w : World) (K : PySem.W.Frag) (mg : Str → Option Value) (base : Heap) (N : List Str) (qual : Str) (scope : Scope) (f : Addr) (cd : Value) (A : Around) (outer : List Env) (s : Shared) (H : Hp) (E : XK) : Cx where
 prog := P
 w := w
 K := K
 mg := mg
 base := base
 A := A.deeper (envOfC qual scope s.heap.objs.size f cd)
 N := N
 s₀ := s
 H₀ := H
 env := envOfC qual scope s.heap.objs.size f cd
 outer := outer
 stack := envOfC qual scope s.heap.objs.size f cd :: outer
 ex := []
 calm := true
 fn := fun _ => true
 pn := []
 xe := fun e s' => wpAny (model P w) (A.deeper (envOfC qual scope s.heap.objs.size f cd)) (leaving (envOfC qual scope s.heap.objs.size f cd) e) (fun _ s'' => CX outer H s E e s'') (fun e' s'' => CX outer H s E e' s'') s'
theorem cell_has {sc : Scope} {n : Nat} {x : Str} (h : sc.names.lookup x = some .cell) : ∃ c, (cellsFrom n sc.names []).lookup x = some c := by
 have q := PySem.W.cellsFrom_some sc.names n [] (.inl h)
 exact Option.isSome_iff_exists.mp q
theorem inv_start {CX : CXT} {P : Program} {w : World} {K : PySem.W.Frag} {mg : Str → Option Value} {base : Heap} {N ps : List Str} {qual : Str} {scope : Scope} {f : Addr} {cd : Value} {A : Around} {outer : List Env} {s s1 : Shared} {H : Hp} {E : XK} {us : List Value} {vs : List V}
 (S : FnScope N ps scope) (hd : A.handled = none) (e0 : Env0 P w K mg base A outer s H) (hl : vs.length = ps.length) (r : Vals vs us)
 (x : InCallC s s.heap.objs.size (bindL (envOfC qual scope s.heap.objs.size f cd).kindOf (ps.zip us) fun _ => none) (cellsFrom (s.heap.objs.size + 1) scope.names []) (bindC (envOfC qual scope s.heap.objs.size f cd).kindOf (ps.zip us) fun _ => none) s1) :
 Inv (cxOf CX P w K mg base N qual scope f cd A outer s H E) [] (start N vs) H s1 := by
 have hpl : ps.length ≤ N.length := by have := congrArg List.length S.pre; rw [List.length_take] at this; lia
 obtain ⟨h1, tk, rfl, hk⟩ := x.done
 have noA : ∀ b : Addr, b ∉ (cxOf CX P w K mg base N qual scope f cd A outer s H E).ex := fun b z => absurd (show b ∈ ([] : List Addr) from z) (by simp)
 refine ⟨⟨e0.mod, S.kind, rfl, rfl, Nat.le_refl _, fun y z c h1 h2 => ?_, fun y hy => ?_, fun y c _ h => ?_, fun _ => hd, Around.frames_deeper e0.frames, .inr ⟨rfl, rfl⟩, fun b z => absurd z (noA b), e0.bs, e0.bsz, fun b _ _ => noA b, fun b z => absurd z (noA b), e0.funs, e0.frf⟩,
  rfl, e0.bare, Un.kept hk, ⟨_, x.toInCall.ns, fun i y v h1 h2 h3 => ?_⟩, fun y c h => ⟨_, x.cell y c h⟩, e0.hok.fresh (Nat.le_refl _), fun y c h => ?_, fun p hp => absurd (show p ∈ ([] : List (Addr × Obj)) from hp) (by simp), e0.hok.kept hk, ?_⟩
 ·exact name_of_addr x.apart (PySem.mem_of_lookup h1) (PySem.mem_of_lookup h2)
 ·have hy : scope.names.lookup y = some .cell ∨ scope.names.lookup y = some .free := hy
  rcases hy with hy | hy
  ·exact cell_has hy
  ·exact absurd rfl (S.nofree _ (PySem.mem_of_lookup hy))
 ·exact Nat.le_of_lt (x.above y c (PySem.mem_of_lookup h))
 ·have hi : i < vs.length := by
   unfold start at h2
   by_cases hi : i < vs.length
   ·exact hi
   ·rw [List.getElem?_append_right (by simpa using hi)] at h2
    rw [List.getElem?_replicate] at h2
    split at h2 <;> cases h2
  have ha : vs[i]? = some v := by
   unfold start at h2
   rw [List.getElem?_append_left (by simpa using hi), List.getElem?_map] at h2
   cases e : vs[i]? with
   | none => rw [e] at h2; cases h2
   | some a => rw [e] at h2; cases h2; rfl
  obtain ⟨u, hu, rv⟩ := r.get ha
  have hp : ps[i]? = some y := by
   rw [← S.pre, List.getElem?_take_of_lt (by lia)]; exact h1
  have ndP : ps.Nodup := by rw [← S.pre]; exact S.nd.sublist (List.take_sublist _ _)
  refine ⟨u, rv, ?_⟩
  rcases S.par y (List.mem_of_getElem? hp) with k | k
  ·exact .inl ⟨k, bindL_get ndP hp hu k⟩
  ·obtain ⟨c, e⟩ := cell_has (n := s.heap.objs.size + 1) k
   refine .inr ⟨.inl k, c, e, ?_⟩
   have q := x.cell y c e
   rw [bindC_get ndP hp hu (by show scope.names.lookup y ≠ _; rw [k]; decide)] at q
   exact q
 ·exact e0.hok.fresh (Nat.le_of_lt (x.above y c (PySem.mem_of_lookup h)))
 ·unfold start
  show _ = N.length
  rw [List.length_append, List.length_map, List.length_replicate]
  lia
theorem fn_of {CX : CXT} {P : Program} {w : World} {K : PySem.W.Frag} {mg : Str → Option Value} {base : Heap} {k : Nat} {f : Addr} {name qual : Str} {params : Arguments} {body : List Stmt} {scope : Scope} {dV kV doc pm cdv ct oc : Value} {an od : Option Addr}
 {osl : Array (Option Value)} {N ps : List Str} {sp : Sp} (lk : K.lookup f = some ⟨oc, od, .func (PySem.W.fnOf name qual params body scope dV kV doc pm an cdv ct), osl⟩) (hcd : PySem.W.codeIn K cdv qual = true) (S : FnScope N ps scope)
 (len : ∀ vs H Q E, sp vs H Q E → vs.length = ps.length)
 (hbody : ∀ (A : Around) (outer : List Env) (s : Shared) (H : Hp) (vs : List V) (Q : VK) (E : XK), Room k (A.deeper (envOfC qual scope s.heap.objs.size f cdv)) → sp vs H Q E →
  ∃ t, PSs (cxOf CX P w K mg base N qual scope f cdv A outer s H E) body t ∧ t { nx := fun _ H' => Q .non H', rt := Q } (start N vs) H) :
 FnOk P w K mg base CX (k + 1) f (PySem.W.fnOf name qual params body scope dV kV doc pm an cdv ct) ps sp := by
 refine ⟨len, fun A outer s H args us vs Q E hr e0 hb r hsp => ?_⟩
 have hl := len _ _ _ _ hsp
 have KX : K.In s.heap := e0.mod.kin.keeps fun b o e => (e0.bs b o e).1
 have lim : s.heap.NoLimit := e0.mod.nolimit.keeps fun b o e => (e0.bs b o e).1
 have hkind : ∀ y ∈ ps.zip us, scope.names.lookup y.1 = some .local ∨ (scope.names.lookup y.1 = some .cell ∧ ((cellsFrom (s.heap.objs.size + 1) scope.names []).lookup y.1).isSome = true) := fun ⟨n, v⟩ hy => by
  rcases S.par n (List.of_mem_zip hy).1 with q | q
  ·exact .inl q
  ·exact .inr ⟨q, PySem.W.cellsFrom_some _ _ _ (.inl q)⟩
 refine codeAny_call_function hr.depth (KX _ _ lk) rfl S.co S.gen rfl (PySem.W.codeRec_of KX hcd) (hb _ _ _ _ ?_)
 refine wpAny_newFunctionEnv_cells S.kind hkind fun env he s1 x => ?_
 subst he
 refine ⟨lim.keeps x.toInCall.keep, codeAny_func ?_⟩
 obtain ⟨t, ht, hq⟩ := hbody A outer s H vs Q E (hr.deeper _) hsp
 have I : Inv (cxOf CX P w K mg base N qual scope f cdv A outer s H E) [] (start N vs) H s1 := inv_start S hr.hd e0 hl r x
 refine wpAny_mono (ht [] s1 (start N vs) H _ I hq) (fun fl s' hs => ?_) fun e s' hs => hs
 have fin : ∀ {σ' : St} {H' : Hp} {v : V} {u : Value}, Inv (cxOf CX P w K mg base N qual scope f cdv A outer s H E) [] σ' H' s' → RelV v u → Q v H' → CE outer P w H s Q u s' :=
  fun {σ' H' v u} J rv q => ⟨v, H', J.os, J.bare, J.base, J.hok, rv, q⟩
 cases fl with
 | ret u =>
   obtain ⟨v, σ', H', J, rv, q⟩ := hs
   exact fin J rv q
 | next =>
   obtain ⟨σ', H', J, q⟩ := hs
   exact fin (v := V.non) (u := Value.none) J rfl q
 | brk =>
   obtain ⟨_, _, _, q⟩ := hs
   exact False.elim q
 | cont =>
   obtain ⟨_, _, _, q⟩ := hs
   exact False.elim q
end L2
namespace L2
open PySem PySem.Spec PyProof.Rows
section
variable {X : Cx} {x : Str} {p pos : Pos} {e : Expr} {es : List Expr} {t : TA} {id T : String} {r : List V → Hp → VK → Prop}
def tCB (r : List V → Hp → VK → Prop) (t : TA) : TE := fun σ H Q => t σ H fun vs H1 => r vs H1 Q
theorem pe_callB (hc : CallR X (.builtin id) r) (hg : Gl X x) (hm : X.mg x = none) (hv : bootBuiltins x = some (.builtin id)) (ha : PA X (e :: es) t) (hn : x ≠ "__name__" := by decide) (hdb : (x == ("__debug__" : Str)) = false := by decide)
 (he : starEach (e :: es) X.env = (false, eval e X.env) :: starEach es X.env := by rfl) (hpl : (backTo pos (starEach es X.env)).any (·.1) = false := by rfl) : PE X (.Call (.Name x p) (e :: es) [] pos) (tCB r t) := by
 walk_at "z3"
 refine wpAny_Call_Name_kw (ld_blt I hg hm hv ?_ hn hdb)
 exact PyProof.Rows.callWith_builtin1 (thn (ha pos pins s σ H _ I h) fun us s1 ⟨vs, H1, I1, r1, q1⟩ => hc pins s1 σ H1 vs us Q I1 r1 q1) he hpl
theorem pe_callTy (hc : CallR X (.type T) r) (hg : Gl X x) (hm : X.mg x = none) (hv : bootBuiltins x = some (.type T)) (ha : PA X (e :: es) t) (hn : x ≠ "__name__" := by decide) (hdb : (x == ("__debug__" : Str)) = false := by decide)
 (he : starEach (e :: es) X.env = (false, eval e X.env) :: starEach es X.env := by rfl) (hpl : (backTo pos (starEach es X.env)).any (·.1) = false := by rfl) : PE X (.Call (.Name x p) (e :: es) [] pos) (tCB r t) := by
 walk_at "z3"
 refine wpAny_Call_Name_kw (ld_blt I hg hm hv ?_ hn hdb)
 exact PyProof.Rows.callWith_type1 (thn (ha pos pins s σ H _ I h) fun us s1 ⟨vs, H1, I1, r1, q1⟩ => hc pins s1 σ H1 vs us Q I1 r1 q1) he hpl
end
end L2
namespace HT
open PySem PyProof.Rows
def lexLt : List Int → List Int → Bool
 | [], [] => false
 | [], _ :: _ => true
 | _ :: _, [] => false
 | x :: xs, y :: ys => if x = y then lexLt xs ys else decide (x < y)
theorem lexLt_cons (x y : Int) (xs ys : List Int) : lexLt (x :: xs) (y :: ys) = if x = y then lexLt xs ys else decide (x < y) := rfl
theorem lexLt_nil_nil : lexLt [] [] = false := rfl
theorem lexLt_nil_cons (y : Int) (ys : List Int) : lexLt [] (y :: ys) = true := rfl
theorem lexLt_cons_nil (x : Int) (xs : List Int) : lexLt (x :: xs) [] = false := rfl
theorem eqAt_int (A : Around) (s : Shared) (a : Int) (t : Tok) (c : Int) (u : Tok) : ∃ e, SeqAt.EqAt A s (.int a t) (.int c u) e ∧ (e = true ↔ a = c) :=
 ⟨(a == c), SeqAt.EqAt.int_int a t c u, by simp⟩
section
open PySem.SeqAt
open PySem.AutoSeq1 (wpAny_loadPart')
open PySem.MeetsSeq PySem.MeetsSeq2 PySem.MeetsSeq3
end
section
variable {prog : Program} {w : World} {A : Around} {E : Value → Shared → Prop} {s : Shared}
def sIx (n d : Nat) : Option Int → Nat
 | none => d
 | some v => if v < 0 then (v + (n : Int)).toNat else min v.toNat n
theorem sIx_none (n d : Nat) : sIx n d none = d := rfl
theorem sIx_nat (n d k : Nat) : sIx n d (some (k : Int)) = min k n := by
 show (if (k : Int) < 0 then ((k : Int) + (n : Int)).toNat else min (k : Int).toNat n) = min k n
 rw [if_neg (by lia), Int.toNat_natCast]
theorem sIx_le (n d : Nat) (hd : d ≤ n) (o : Option Int) : sIx n d o ≤ n := by
 cases o with
 | none => exact hd
 | some v =>
   show (if v < 0 then (v + (n : Int)).toNat else min v.toNat n) ≤ n
   by_cases hv : v < 0
   ·rw [if_pos hv]; lia
   ·rw [if_neg hv]; exact Nat.min_le_right _ _
theorem clip_eq (v : Int) (n d : Nat) : (if v < 0 then max (v + (n : Int)) 0 else min v (n : Int)) = ((sIx n d (some v) : Nat) : Int) := by
 show (if v < 0 then max (v + (n : Int)) 0 else min v (n : Int)) = (((if v < 0 then (v + (n : Int)).toNat else min v.toNat n) : Nat) : Int)
 by_cases hv : v < 0
 ·simp only [if_pos hv]; lia
 ·simp only [if_neg hv]; lia
theorem adjust_gen (lo hi : Option Int) (n : Nat) : Builtin.Slice.sliceAdjust lo hi 1 (n : Int) = (((sIx n 0 lo : Nat) : Int), ((sIx n n hi : Nat) : Int)) := by
 have h1 : ¬ ((1 : Int) < 0) := by lia
 unfold Builtin.Slice.sliceAdjust
 simp only [h1, if_false]
 refine Prod.ext ?_ ?_
 ·cases lo with
  | none => rfl
  | some v => exact clip_eq v n 0
 ·cases hi with
  | none => rfl
  | some v => exact clip_eq v n n
theorem places_gen (i j : Nat) : Builtin.Slice.slicePlaces (i : Int) (j : Int) 1 = j - i := by
 unfold Builtin.Slice.slicePlaces
 have h1 : (1 : Int) > 0 := by lia
 simp only [h1, if_true, Int.ediv_one]
 split <;> lia
theorem slicePart_ {v : Value} {o : Option Int} {Q : Option Int → Shared → Prop} (p : IsPart v o) (h : Q o s) : wpAny (model prog w) A (Builtin.Slice.slicePartIndex v) Q E s := by
 cases p with
 | none => exact slicePart_none h
 | int i t => exact slicePart_int h
theorem sliceApplied_gen {sl : Addr} {vl vu : Value} {lo hi : Option Int} {n : Nat} {Q : Int × Int × Nat → Shared → Prop} (hs : s.heap.IsSliceOf sl vl vu .none) (pl : IsPart vl lo) (pu : IsPart vu hi)
 (h : Q (((sIx n 0 lo : Nat) : Int), 1, sIx n n hi - sIx n 0 lo) s) : wpAny (model prog w) A (Builtin.Slice.sliceApplied (.ref sl) (pure (n : Int))) Q E s := by
 obtain ⟨os, hos, hcs, hds⟩ := id hs
 unfold Builtin.Slice.sliceApplied Builtin.Slice.sliceFields
 refine wpAny_bind (wpAny_bind (wpAny_field hos hds (x := vl) rfl (wpAny_bind (wpAny_field hos hds (x := vu) rfl (wpAny_bind (wpAny_field hos hds (x := .none) rfl (wpAny_pure ?_)))))))
 refine wpAny_bind (slicePart_none ?_)
 show wpAny _ _ (if ((1 : Int) == 0) = true then _ else _) _ _ s
 rw [if_neg (by decide)]
 refine wpAny_bind (slicePart_ pl (wpAny_bind (slicePart_ pu (wpAny_bind (wpAny_pure ?_)))))
 show wpAny _ _ (match Builtin.Slice.sliceAdjust lo hi 1 (n : Int) with | (lo, hi) => pure (lo, (1 : Int), Builtin.Slice.slicePlaces lo hi 1)) _ _ s
 rw [adjust_gen lo hi n]
 show wpAny _ _ (pure (((sIx n 0 lo : Nat) : Int), (1 : Int), Builtin.Slice.slicePlaces ((sIx n 0 lo : Nat) : Int) ((sIx n n hi : Nat) : Int) 1)) _ _ s
 rw [places_gen]
 exact wpAny_pure h
theorem pick_gen (xs : Array Value) (i k : Nat) : ((List.range k).filterMap fun (m : Nat) => xs[((i : Int) + (m : Int) * 1).toNat]?).toArray = ((xs.toList.drop i).take k).toArray := by
 have e : (fun (m : Nat) => xs[((i : Int) + (m : Int) * 1).toNat]?) = fun m => xs[i + m]? := by
  funext m
  have : ((i : Int) + (m : Int) * 1).toNat = i + m := by lia
  rw [this]
 rw [e]
 have := pick_run xs i k
 rw [List.filterMap_map] at this
 have e2 : ((fun x => xs[x]?) ∘ fun x => i + x) = fun m => xs[i + m]? := rfl
 rw [e2] at this
 rw [this]
theorem getItem_tuple_cut {t sl : Addr} {items : Array Value} {vl vu : Value} {lo hi : Option Int} {Q : Value → Shared → Prop} (ht : IsTup s.heap t items) (hs : s.heap.IsSliceOf sl vl vu .none) (pl : IsPart vl lo) (pu : IsPart vu hi)
 (hw : ¬ (sIx items.size 0 lo = 0 ∧ sIx items.size items.size hi = items.size))
 (h : Q (.ref s.heap.objs.size) { s with heap := s.heap.push { cls := .type "tuple", data := .seq ((items.toList.drop (sIx items.size 0 lo)).take (sIx items.size items.size hi - sIx items.size 0 lo)).toArray } })
 (hsz : items.size ≤ sizeLine) : wpAny (model prog w) A (getItem (.ref t) (.ref sl)) Q E s := by
 have htake : sizeOk (.seq ((items.toList.drop (sIx items.size 0 lo)).take (sIx items.size items.size hi - sIx items.size 0 lo)).toArray) := by
  show ((items.toList.drop (sIx items.size 0 lo)).take (sIx items.size items.size hi - sIx items.size 0 lo)).toArray.size ≤ sizeLine
  rw [List.size_toArray, List.length_take, List.length_drop, Array.length_toList]
  lia
 have hj : sIx items.size items.size hi ≤ items.size := sIx_le _ _ (Nat.le_refl _) hi
 obtain ⟨os, hos, hcs, hds⟩ := id hs
 have hTs : s.TypeIs (.ref sl) "slice" := ⟨os, hos, hcs⟩
 unfold getItem
 try with_reducible refine wpAny_holding ?_
 first | refine wpAny_bind (wpAny_pure ?_) | skip
 refine wpAny_bind (wpAny_sequenceKey ht.typeIs (by decide) ?_)
 refine wpAny_bind (wpAny_callSpecial?_slot (name := Str.ofString "__getitem__") ht.typeIs PyProof.Rows.slot_tuple_getitem
  (wpAny_call_entry PyProof.Rows.slot_tuple_getitem ht.typeIs entry_tuple_getitem ?_ (args_tuple_getitem _ _)))
 show wpAny _ _ (Builtin.Tuple.tupleItemsOf (.ref t) >>= _) _ _ s
 refine wpAny_bind (tupleItemsOf_ ht ?_)
 refine wpAny_bind (wpAny_typeOf hTs ?_)
 rw [if_pos (by decide)]
 refine wpAny_bind (sliceApplied_gen hs pl pu ?_)
 have hno : ¬ ((((sIx items.size 0 lo : Nat) : Int) == 0 && (1 : Int) == 1 && (sIx items.size items.size hi - sIx items.size 0 lo) == items.size) = true) := by
  intro q
  rw [Bool.and_eq_true, Bool.and_eq_true] at q
  have q1 : ((sIx items.size 0 lo : Nat) : Int) = 0 := eq_of_beq q.1.1
  have q2 : sIx items.size items.size hi - sIx items.size 0 lo = items.size := eq_of_beq q.2
  exact hw ⟨by lia, by lia⟩
 show wpAny _ _ (if (((sIx items.size 0 lo : Nat) : Int) == 0 && (1 : Int) == 1 && (sIx items.size items.size hi - sIx items.size 0 lo) == items.size) = true then _ else _) _ _ s
 rw [if_neg hno, pick_gen]
 first
  | exact wpAny_bind (m := Builtin.Tuple.tupleExact _) (wpAny_newObj_type (wpAny_pure ⟨_, rfl, wpAny_pure h⟩) htake)
  | exact wpAny_bind (m := Builtin.Tuple.tupleExact _) (wpAny_newObj_type (wpAny_bind (wpAny_pure (wpAny_pure ⟨_, rfl, wpAny_pure h⟩))) htake)
  | exact wpAny_bind (wpAny_bind (m := Builtin.Tuple.tupleExact _) (wpAny_newObj_type (wpAny_pure (wpAny_pure ⟨_, rfl, wpAny_pure h⟩)) htake))
  | exact wpAny_bind (wpAny_bind (m := Builtin.Tuple.tupleExact _) (wpAny_newObj_type (wpAny_pure ⟨_, rfl, wpAny_pure h⟩) htake))
end
end HT
namespace L2
open PySem PySem.Spec PyProof.Rows
abbrev TO := St → Hp → (Option Int → Hp → Prop) → Prop
def PO (X : Cx) (e : Option Expr) (t : TO) : Prop :=
 ∀ (pins : List (Addr × Obj)) (s : Shared) (σ : St) (H : Hp) (Q : Option Int → Hp → Prop), Inv X pins σ H s → t σ H Q →
  wpAny (model X.prog X.w) X.A (evalPart e X.env) (fun u s' => ∃ o H', Inv X pins σ H' s' ∧ IsPart u o ∧ Q o H') X.xe s
def tNoPart : TO := fun _ H Q => Q none H
def tPart (t : TE) : TO := fun σ H Q => t σ H fun x H1 => ∃ i, x = .int i ∧ Q (some i) H1
theorem intsAre_of {ns : List Int} : ∀ {us : List Value}, Vals (ns.map V.int) us → IntsAre us ns := by
 induction ns with
 | nil => intro us r; rw [List.map_nil] at r; cases r; exact .nil
 | cons n ns ih =>
   intro us r
   rw [List.map_cons] at r
   cases r with
   | cons r1 r2 =>
     obtain ⟨t, e⟩ := r1
     subst e
     exact .cons n t (ih r2)
section
variable {X : Cx} {e : Expr} {te : TE} {lo hi : Option Expr} {tl th : TO} {pos p2 : Pos}
theorem po_none : PO X none tNoPart := by
 walk_at "z3"
 rw [evalPart_none]
 exact wpAny_pure ⟨none, H, I, .none, h⟩
theorem po_some (h : PE X e te) : PO X (some e) (tPart te) := by
 intro pins s σ H Q I hw
 rw [evalPart_some]
 refine thn (h pins s σ H _ I hw) fun u s1 ⟨x, H1, I1, r1, q1⟩ => ?_
 obtain ⟨i, rfl, q⟩ := q1
 obtain ⟨t, rfl⟩ := r1
 exact ⟨some i, H1, I1, .int i t, q⟩
def SlR (X : Cx) (r : V → Option Int → Option Int → Hp → VK → Prop) : Prop :=
 ∀ (pins : List (Addr × Obj)) (s : Shared) (σ : St) (H : Hp) (x : V) (v vl vu : Value) (lo hi : Option Int) (sl : Addr) (Q : VK), Inv X pins σ H s → RelV x v → s.heap.IsSliceOf sl vl vu .none → IsPart vl lo → IsPart vu hi → r x lo hi H Q →
  ∃ T id, typeLookup (.type T) "__getitem__" = pure (some (.builtin id)) ∧ s.TypeIs v T ∧ wpAny (model X.prog X.w) X.A (getItem v (.ref sl)) (EP X pins σ Q) X.xe s
def tSl (r : V → Option Int → Option Int → Hp → VK → Prop) (te : TE) (tl th : TO) : TE := fun σ H Q => te σ H fun x H1 => tl σ H1 fun l H2 => th σ H2 fun u H3 => r x l u H3 Q
theorem pe_slice {r : V → Option Int → Option Int → Hp → VK → Prop} (hr : SlR X r) (he : PE X e te) (hl : PO X lo tl) (hu : PO X hi th) : PE X (.Subscript e (.Slice lo hi none p2) pos) (tSl r te tl th) := by
 walk_at "z3"
 refine Subscript_ (thn (he pins s σ H _ I h) fun v s1 ⟨x, H1, I1, r1, q1⟩ => ?_)
 refine wpAny_Slice (thn (hl pins s1 σ H1 _ I1 q1) fun vl s2 ⟨l, H2, I2, pl, q2⟩ => thn (hu pins s2 σ H2 _ I2 q2) fun vu s3 ⟨u, H3, I3, pu, q3⟩ => ?_)
 rw [evalPart_none]
 refine wpAny_pure ?_
 have I4 : Inv X pins σ H3 { s3 with heap := s3.heap.push { cls := .type "slice", data := .fields #[vl, vu, .none] } } := I3.kept (t' := s3.toks) fun b ob q => Heap.get?_push_of_some _ q
 obtain ⟨T, id, hT, ht, hg⟩ := hr pins { s3 with heap := s3.heap.push { cls := .type "slice", data := .fields #[vl, vu, .none] } } σ H3 x v vl vu l u s3.heap.objs.size Q I4 r1 (Heap.IsSliceOf.new ..) pl pu q3
 show wpAny (model X.prog X.w) X.A (subscriptTail e (.Slice lo hi none p2) v (.ref s3.heap.objs.size)) (EP X pins σ Q) X.xe { s3 with heap := s3.heap.push { cls := .type "slice", data := .fields #[vl, vu, .none] } }
 exact tail_any (ops := [.ref s3.heap.objs.size, v]) ht hT hg (by with_unfolding_all rfl)
def cutV (xs : List V) (lo hi : Option Int) : List V := (xs.drop (HT.sIx xs.length 0 lo)).take (HT.sIx xs.length xs.length hi - HT.sIx xs.length 0 lo)
theorem cutV_length (xs : List V) (lo hi : Option Int) : (cutV xs lo hi).length ≤ xs.length := by
 unfold cutV
 rw [List.length_take, List.length_drop]
 lia
def rSlT (K : PySem.W.Frag) : V → Option Int → Option Int → Hp → VK → Prop := fun x lo hi H Q => ∃ a xs, x = .ref a ∧ SqT K H a xs ∧
 ¬ (HT.sIx xs.length 0 lo = 0 ∧ HT.sIx xs.length xs.length hi = xs.length) ∧ ∀ p, H p = none → Q (.ref p) (upd H p (.tup (cutV xs lo hi)))
theorem sl_tup : SlR X (rSlT X.K) := by
 intro pins s σ H x v vl vu lo hi sl Q I rx hs pl pu h
 obtain ⟨a, xs, rfl, hx, hw, q⟩ := h
 cases rx
 obtain ⟨its, r, ht, hz⟩ := I.tuple hx
 have hlen : its.toArray.size = xs.length := by rw [List.size_toArray]; exact r.length.symm
 refine ⟨"tuple", _, PyProof.Rows.slot_tuple_getitem.lookup, ht.typeIs, ?_⟩
 refine HT.getItem_tuple_cut ht hs pl pu (by rw [hlen]; exact hw) ?_ (by rw [hlen]; exact hz)
 rw [hlen]
 refine ⟨.ref s.heap.objs.size, _, I.laid (t' := s.toks) (o := .tup (cutV xs lo hi)) (fun b ob q => Heap.get?_push_of_some _ q) (Nat.le_refl _) ?_, rfl, q _ (I.hok.fresh (Nat.le_refl _))⟩
 exact ⟨Nat.le_trans (cutV_length xs lo hi) hz, _, (r.drop (HT.sIx xs.length 0 lo)).take (HT.sIx xs.length xs.length hi - HT.sIx xs.length 0 lo), IsTup.new _ _⟩
end
end L2
namespace L2
open PySem PySem.Spec PyProof.Rows
def ixN (n : Nat) (i : Int) : Option Nat := if 0 ≤ i then (if i < n then some i.toNat else none) else if -(n : Int) ≤ i then some (i + n).toNat else none
def atI {α : Type} (xs : List α) (i : Int) : Option α := (ixN xs.length i).bind fun j => xs[j]?
theorem ixN_seq {n : Nat} {i : Int} {j : Nat} (h : ixN n i = some j) : seqIndex? i n = some j ∧ j < n ∧ -(n : Int) ≤ i ∧ i < n := by
 unfold ixN at h
 by_cases h0 : 0 ≤ i
 ·rw [if_pos h0] at h
  by_cases h1 : i < n
  ·rw [if_pos h1] at h
   have e : i.toNat = j := Option.some.inj h
   exact ⟨by rw [seqIndex_of h0 h1, e], by lia, by lia, h1⟩
  ·rw [if_neg h1] at h; cases h
 ·rw [if_neg h0] at h
  by_cases h1 : -(n : Int) ≤ i
  ·rw [if_pos h1] at h
   have e : (i + n).toNat = j := Option.some.inj h
   exact ⟨by rw [seqIndex_neg (by lia) h1, e], by lia, h1, by lia⟩
  ·rw [if_neg h1] at h; cases h
theorem atI_get {α : Type} {xs : List α} {i : Int} {v : α} (h : atI xs i = some v) : ∃ j, seqIndex? i xs.length = some j ∧ xs[j]? = some v ∧ j < xs.length ∧ -(xs.length : Int) ≤ i ∧ i < xs.length := by
 unfold atI at h
 cases e : ixN xs.length i with
 | none => rw [e] at h; cases h
 | some j =>
   rw [e] at h
   obtain ⟨h1, h2, h3, h4⟩ := ixN_seq e
   exact ⟨j, h1, h, h2, h3, h4⟩
theorem atI_nat {α : Type} {xs : List α} {j : Nat} {v : α} (h : xs[j]? = some v) : atI xs (j : Int) = some v := by
 have hj : j < xs.length := (List.getElem?_eq_some_iff.mp h).1
 have e : ixN xs.length (j : Int) = some j := by
  unfold ixN
  rw [if_pos (by lia), if_pos (by lia)]; simp
 unfold atI; rw [e]; exact h
def PlainIx (b : Expr) : Prop := ∀ o i, subscripted b false o i = operate [o, i] (getItem o i)
def IxR (X : Cx) (r : R2) : Prop :=
 ∀ (value slice : Expr) (pins : List (Addr × Obj)) (s : Shared) (σ : St) (H : Hp) (x y : V) (v u : Value) (Q : VK), Inv X pins σ H s → RelV x v → RelV y u → r x y H Q →
  subscripted slice false v u = operate [v, u] (getItem v u) → wpAny (model X.prog X.w) X.A (subscriptTail value slice v u) (EP X pins σ Q) X.xe s
def MtR (X : Cx) (id : String) (r : V → List V → Hp → VK → Prop) : Prop :=
 ∀ (pins : List (Addr × Obj)) (s : Shared) (σ : St) (H : Hp) (x : V) (xs : List V) (v : Value) (us : List Value) (Q : VK), Inv X pins σ H s → RelV x v → Vals xs us → r x xs H Q →
  wpAny (model X.prog X.w) X.A (call (.builtin id) (v :: us)) (EP X pins σ Q) X.xe s
section
variable {X : Cx} {a b : Expr} {ta tb : TE} {pos : Pos}
theorem IxR.or {r r' : R2} (h : IxR X r) (h' : IxR X r') : IxR X (fun x y H Q => r x y H Q ∨ r' x y H Q) := by
 intro value slice pins s σ H x y v u Q I rx ry q hs
 rcases q with q | q
 ·exact h value slice pins s σ H x y v u Q I rx ry q hs
 ·exact h' value slice pins s σ H x y v u Q I rx ry q hs
theorem pe_ix {r : R2} (hr : IxR X r) (ha : PE X a ta) (hb : PE X b tb) (hs : PlainIx b) : PE X (.Subscript a b pos) (tOp r ta tb) := by
 walk_at "z3"
 exact Subscript_ (binT ha hb I h fun v u s2 x y H2 I2 rx ry q => hr a b pins s2 σ H2 x y v u Q I2 rx ry q (hs _ _))
def rIxL (K : PySem.W.Frag) : R2 := fun x y H Q => ∃ p xs i v, x = .ref p ∧ y = .int i ∧ SqL K H p xs ∧ atI xs i = some v ∧ Q v H
def rIxT (K : PySem.W.Frag) : R2 := fun x y H Q => ∃ p xs i v, x = .ref p ∧ y = .int i ∧ SqT K H p xs ∧ atI xs i = some v ∧ Q v H
theorem ix_list : IxR X (rIxL X.K) := by
 intro value slice pins s σ H x y v u Q I rx ry h hs
 obtain ⟨p, xs, i, z, rfl, rfl, hq, he, q⟩ := h
 cases rx
 obtain ⟨t, rfl⟩ := ry
 obtain ⟨its, r, pl, hz⟩ := I.list hq
 obtain ⟨j, h1, h2, h3, h4, h5⟩ := atI_get he
 obtain ⟨w, ew, rw'⟩ := r.get h2
 have hl := r.length
 have hn := line63
 have fin : EP X pins σ Q w s := ⟨z, H, I, rw', q⟩
 by_cases h0 : 0 ≤ i
 ·have hj : i.toNat = j := by
   rw [seqIndex_of h0 h5] at h1
   exact Option.some.inj h1
  exact item_listR pl.isList h0 (by lia) (by rw [hj]; simpa using ew) fin hs
 ·have hj : (i + (its.toArray.size : Int)).toNat = j := by
   rw [seqIndex_neg (by lia) h4] at h1
   rw [List.size_toArray, ← hl]
   exact Option.some.inj h1
  exact subscriptTail_builtinR (x := w) pl.isList.typeIs slot_list_getitem.lookup
   (wpAny_getItem_list_neg (Q := fun r s' => r = w ∧ EP X pins σ Q r s') pl.isList (by lia) (by rw [List.size_toArray] <;> lia) (by lia) (by rw [hj]; simpa using ew) ⟨rfl, fin⟩) hs
theorem ix_tup : IxR X (rIxT X.K) := by
 intro value slice pins s σ H x y v u Q I rx ry h hs
 obtain ⟨p, xs, i, z, rfl, rfl, hq, he, q⟩ := h
 cases rx
 obtain ⟨t, rfl⟩ := ry
 obtain ⟨its, r, pl, hz⟩ := I.tuple hq
 obtain ⟨j, h1, h2, h3, h4, h5⟩ := atI_get he
 obtain ⟨w, ew, rw'⟩ := r.get h2
 have hl := r.length
 have hn := line63
 have fin : EP X pins σ Q w s := ⟨z, H, I, rw', q⟩
 exact subscriptTail_builtinR (x := w) pl.typeIs slot_tuple_getitem.lookup
  (getItem_tuple (j := j) (Q := fun r s' => r = w ∧ EP X pins σ Q r s') pl (by lia) (by lia) (by rw [List.size_toArray, ← hl]; exact h1) (by simpa using ew) ⟨rfl, fin⟩) hs
theorem mapSeq_set (its : List Value) (n j : Nat) (u : Value) : Obj.mapSeq (·.setIfInBounds j u) { cls := .type "list", data := .seq its.toArray n } = { cls := .type "list", data := .seq (its.set j u).toArray n } := by
 simp [Obj.mapSeq]
theorem Inv.lst {pins : List (Addr × Obj)} {σ : St} {H : Hp} {s : Shared} {p : Addr} {xs : List V} (I : Inv X pins σ H s) (h : H p = some (.lst xs)) :
 ∃ (its : List Value) (n : Nat), Vals xs its ∧ s.heap.get? p = some { cls := .type "list", data := .seq its.toArray n } ∧ xs.length ≤ sizeLine := by
 obtain ⟨z, its, n, r, e⟩ := I.hok p _ h
 exact ⟨its, n, r, e, z⟩
theorem Inv.lstUpd {pins : List (Addr × Obj)} {σ : St} {H : Hp} {s : Shared} {p : Addr} {xs ys : List V} {its its' : List Value} {n n' : Nat} {f : Obj → Obj} (I : Inv X pins σ H s) (h : H p = some (.lst xs))
 (ho : s.heap.get? p = some { cls := .type "list", data := .seq its.toArray n }) (hf : f { cls := .type "list", data := .seq its.toArray n } = { cls := .type "list", data := .seq its'.toArray n' }) (r : Vals ys its') (hz : ys.length ≤ sizeLine) (t : Nat) :
 Inv X pins σ (upd H p (.lst ys)) { s with heap := s.heap.update p f, toks := t } := by
 have e : (s.heap.update p f).get? p = some { cls := .type "list", data := .seq its'.toArray n' } := by
  rw [Heap.get?_update_self f ho (by rw [hf] <;> rfl), hf]
 refine I.write (x := p) (e := p) (by rw [h]; trivial) (.inl rfl) (fun b u hb q => (Heap.get?_update_other _ _ (Ne.symm hb)).trans q) ⟨_, e⟩ ?_
 exact ⟨hz, its', n', r, e⟩
def rSetL : V → V → V → Hp → (Hp → Prop) → Prop := fun o i v H Q => ∃ p xs k j, o = .ref p ∧ i = .int k ∧ H p = some (.lst xs) ∧ ixN xs.length k = some j ∧ Q (upd H p (.lst (xs.set j v)))
theorem set_list : PSet X rSetL := by
 intro pins s σ H o i v ov iv u Q I ro ri rv h
 obtain ⟨p, xs, k, j, rfl, rfl, hp, hj, q⟩ := h
 cases ro
 obtain ⟨t, rfl⟩ := ri
 obtain ⟨its, n, r, ho, hz⟩ := I.lst hp
 obtain ⟨h1, h2, h3, h4⟩ := ixN_seq hj
 have hl := r.length
 have hn := line63
 have I' : Inv X pins σ (upd H p (.lst (xs.set j v))) { s with heap := s.heap.update p (Obj.mapSeq (·.setIfInBounds j u)) } :=
  I.lstUpd hp ho (mapSeq_set its n j u) (r.set rv j) (by rw [List.length_set]; exact hz) s.toks
 by_cases h0 : 0 ≤ k
 ·have hk : k.toNat = j := by
   rw [seqIndex_of h0 h4] at h1
   exact Option.some.inj h1
  exact PySem.W.ki_setAt ho h0 (by lia) (by rw [List.size_toArray, ← hl]; exact h4) (by rw [hk]; exact ⟨_, I', q⟩)
 ·have hk : (k + (its.toArray.size : Int)).toNat = j := by
   rw [seqIndex_neg (by lia) h3] at h1
   rw [List.size_toArray, ← hl]
   exact Option.some.inj h1
  exact PySem.W.ki_setBack ho (by lia) (by rw [List.size_toArray, ← hl]; exact h3) (by lia) (by rw [hk]; exact ⟨_, I', q⟩)
theorem slice_bounds (lo hi : Option Int) (n : Nat) : (sliceBounds lo hi none n).1 = ((HT.sIx n 0 lo : Nat) : Int) ∧ (sliceBounds lo hi none n).2.1 = ((HT.sIx n n hi : Nat) : Int) ∧ (sliceBounds lo hi none n).2.2 = 1 := by
 refine ⟨?_, ?_, rfl⟩
 ·cases lo with
  | none => simp [sliceBounds, HT.sIx]
  | some i =>
    simp only [sliceBounds, HT.sIx, Option.getD_none, show (1 : Int) > 0 by decide, if_true]
    by_cases h : i < 0
    ·simp only [h, if_true] <;> lia
    ·simp only [h, if_false] <;> lia
 ·cases hi with
  | none => simp [sliceBounds, HT.sIx]
  | some i =>
    simp only [sliceBounds, HT.sIx, Option.getD_none, show (1 : Int) > 0 by decide, if_true]
    by_cases h : i < 0
    ·simp only [h, if_true] <;> lia
    ·simp only [h, if_false] <;> lia
theorem slicePick_cut (its : List Value) (lo hi : Option Int) : slicePick its.toArray lo hi none = ((its.drop (HT.sIx its.length 0 lo)).take (HT.sIx its.length its.length hi - HT.sIx its.length 0 lo)).toArray := by
 obtain ⟨h1, h2, h3⟩ := slice_bounds lo hi its.toArray.size
 unfold slicePick
 rw [h1, h2, h3]
 simp only [sliceRange_one, pick_run, List.size_toArray] <;> rfl
def rSlL (K : PySem.W.Frag) : V → Option Int → Option Int → Hp → VK → Prop := fun x lo hi H Q => ∃ a xs, x = .ref a ∧ SqL K H a xs ∧ ∀ p, H p = none → Q (.ref p) (upd H p (.lst (cutV xs lo hi)))
theorem sl_list : SlR X (rSlL X.K) := by
 intro pins s σ H x v vl vu lo hi sl Q I rx hs pl pu h
 obtain ⟨a, xs, rfl, hx, q⟩ := h
 cases rx
 obtain ⟨its, r, ht, hz⟩ := I.list hx
 have hlen := r.length
 refine ⟨"list", _, slot_list_getitem.lookup, ht.isList.typeIs, ?_⟩
 refine wpAny_getItem_list_slice ht.isList hs pl pu .none (by simp) ?_ (by rw [List.size_toArray] <;> lia)
 rw [slicePick_cut, ← hlen]
 refine ⟨.ref s.heap.objs.size, _, I.laid (t' := s.toks) (o := .lst (cutV xs lo hi)) (fun b ob q => Heap.get?_push_of_some _ q) (Nat.le_refl _) ?_, rfl, q _ (I.hok.fresh (Nat.le_refl _))⟩
 exact ⟨Nat.le_trans (cutV_length xs lo hi) hz, _, 0, (r.drop (HT.sIx xs.length 0 lo)).take (HT.sIx xs.length xs.length hi - HT.sIx xs.length 0 lo), Heap.get?_push_size _ rfl⟩
theorem call_list_of : CallR X (.type "list") (fun xs H Q => ∃ p ys, xs = [.ref p] ∧ (SqL X.K H p ys ∨ SqT X.K H p ys) ∧ ∀ l, H l = none → Q (.ref l) (upd H l (.lst ys))) := by
 intro pins s σ H xs us Q I r h
 obtain ⟨p, ys, rfl, hq, q⟩ := h
 obtain ⟨u, rfl, rx⟩ := vals1 r
 cases rx
 have fin : ∀ (its : List Value), Vals ys its → ys.length ≤ sizeLine → ∀ (h' : Heap) (c' : Nat), (∀ b o', s.heap.get? b = some o' → h'.get? b = some o') →
  h'.get? s.heap.objs.size = some { cls := .type "list", dict := none, data := .seq its.toArray c', slots := #[] } → EP X pins σ Q (.ref s.heap.objs.size) { s with heap := h' } := fun its r' hz h' c' kp e =>
  ⟨.ref s.heap.objs.size, _, I.laid (t' := s.toks) kp (Nat.le_refl _) (show ObjOk X.prog X.w _ h' _ (.lst ys) from ⟨hz, its, c', r', e⟩), rfl, q _ (I.hok.fresh (Nat.le_refl _))⟩
 rcases hq with hq | hq
 ·obtain ⟨its, r', pl, hz⟩ := I.list hq
  have hlen := r'.length
  obtain ⟨o, ho, hc, n, hd⟩ := pl.isList
  exact call_list_seq p (.inl rfl) ho hc hd (fun h' c' kp e => fin its r' hz h' c' kp e) (by simp only [List.size_toArray] <;> lia)
 ·obtain ⟨its, r', pl, hz⟩ := I.tuple hq
  have hlen := r'.length
  obtain ⟨o, ho, hc, n, hd⟩ := pl
  exact call_list_seq p (.inr rfl) ho hc hd (fun h' c' kp e => fin its r' hz h' c' kp e) (by simp only [List.size_toArray] <;> lia)
theorem call_tuple_of : CallR X (.type "tuple") (fun xs H Q => ∃ p ys, xs = [.ref p] ∧ ((SqL X.K H p ys ∧ ∀ l, H l = none → Q (.ref l) (upd H l (.tup ys))) ∨ (SqT X.K H p ys ∧ Q (.ref p) H))) := by
 intro pins s σ H xs us Q I r h
 obtain ⟨p, ys, rfl, h⟩ := h
 obtain ⟨u, rfl, rx⟩ := vals1 r
 cases rx
 rcases h with ⟨hq, q⟩ | ⟨hq, q⟩
 ·obtain ⟨its, r', pl, hz⟩ := I.list hq
  have hlen := r'.length
  refine call_tuple_list pl.isList (fun h' kp => ?_) (by simp only [List.size_toArray] <;> lia)
  have I1 : Inv X pins σ H { s with heap := h' } := I.kept (t' := s.toks) kp
  have I2 : Inv X pins σ (upd H h'.objs.size (.tup ys)) { s with heap := h'.push { cls := .type "tuple", data := .seq its.toArray } } :=
   I1.laid (t' := s.toks) (fun b o e => Heap.get?_push_of_some _ e) (Nat.le_refl _) (show ObjOk X.prog X.w _ _ _ (.tup ys) from ⟨hz, its, r', IsTup.new _ _⟩)
  exact ⟨.ref h'.objs.size, _, I2, rfl, q _ (I1.hok.fresh (Nat.le_refl _))⟩
 ·obtain ⟨its, r', pl, hz⟩ := I.tuple hq
  exact call_tuple_same pl ⟨.ref p, H, I, rfl, q⟩
def tyV (K : PySem.W.Frag) (T : String) (x : V) (H : Hp) : Prop := match x with
 | .str _ => T = "str"
 | .int _ => T = "int"
 | .ref p => (T = "list" ∧ ∃ xs, SqL K H p xs) ∨ (T = "tuple" ∧ ∃ o, K.lookup p = some o ∧ o.cls = .type "tuple" ∧ o.dict = none) ∨
  (T = "dict" ∧ ((∃ kvs, H p = some (.dK kvs)) ∨ ∃ kvs, H p = some (.dT kvs))) ∨ (T = "set" ∧ ∃ S n, H p = some (.set S n))
 | _ => False
theorem tyV_is {pins : List (Addr × Obj)} {σ : St} {H : Hp} {s : Shared} {T : String} {x : V} {v : Value} (I : Inv X pins σ H s) (r : RelV x v) (ty : tyV X.K T x H) :
 s.TypeIs v T ∧ ∀ a, v = .ref a → ∃ ob, s.heap.get? a = some ob ∧ ob.dict = none := by
 cases x with
 | str z =>
   obtain ⟨t, rfl⟩ := r
   cases (show T = "str" from ty)
   exact ⟨typeIs_str s z t, fun _ e => nomatch e⟩
 | int i =>
   obtain ⟨t, rfl⟩ := r
   cases (show T = "int" from ty)
   exact ⟨typeIs_int s i t, fun _ e => nomatch e⟩
 | ref p =>
   cases r
   rcases ty with ⟨rfl, xs, hq⟩ | ⟨rfl, o, hk, hc, hd⟩ | ⟨rfl, hk⟩ | ⟨rfl, S, n, hk⟩
   ·obtain ⟨its, _, pl, _⟩ := I.list hq
    refine ⟨pl.isList.typeIs, fun a e => ?_⟩
    cases e
    obtain ⟨o, n, e, c, hd, _⟩ := pl
    exact ⟨o, e, hd⟩
   ·refine ⟨⟨o, I.kIn p o hk, hc⟩, fun a e => ?_⟩
    cases e
    exact ⟨o, I.kIn _ o hk, hd⟩
   ·have z : ∃ o, s.heap.get? p = some o ∧ o.ExactDict := by
     rcases hk with ⟨kvs, hk⟩ | ⟨kvs, hk⟩
     ·obtain ⟨_, _, _, _, o, _, _, e, ex, _⟩ := I.hok p _ hk
      exact ⟨o, e, ex⟩
     ·obtain ⟨_, _, _, _, o, _, _, e, ex, _⟩ := I.hok p _ hk
      exact ⟨o, e, ex⟩
    obtain ⟨o, e, ex⟩ := z
    refine ⟨⟨o, e, ex.1⟩, fun a e2 => ?_⟩
    cases e2
    exact ⟨o, e, ex.2.1⟩
   ·obtain ⟨o, _, _, _, e, ex, _⟩ := I.hok p _ hk
    refine ⟨⟨o, e, ex.1⟩, fun a e2 => ?_⟩
    cases e2
    exact ⟨o, e, ex.2.1⟩
 | _ => exact False.elim ty
def tBM0 (K : PySem.W.Frag) (T : String) (r : V → List V → Hp → VK → Prop) (to : TE) : TE := fun σ H Q => to σ H fun x H1 => tyV K T x H1 ∧ r x [] H1 Q
def tBM (K : PySem.W.Frag) (T : String) (r : V → List V → Hp → VK → Prop) (to : TE) (t : TA) : TE := fun σ H Q => to σ H fun x H1 => tyV K T x H1 ∧ t σ H1 fun xs H2 => r x xs H2 Q
variable {o e : Expr} {es : List Expr} {to : TE} {t : TA} {name : Str} {apos cpos : Pos} {T id : String} {r : V → List V → Hp → VK → Prop}
theorem pe_bm0 (pa : PlainAttrs T) (slot : Slot T name id) (hty : typeOf (.builtin id) = pure (.type "method_descriptor")) (hm : MtR X id r) (ho : PE X o to)
 (hbase : attributeBase o name X.env (eval o X.env) = eval o X.env := by rfl) (hline : (apos.endLine == cpos.line) = true := by rfl) : PE X (.Call (.Attribute o name apos) [] [] cpos) (tBM0 X.K T r to) := by
 walk_at "z3"
 refine wpAny_Call_method0_late hbase hline (thn (ho pins s σ H _ I h) fun v s1 ⟨x, H1, I1, r1, ty, q1⟩ => ?_)
 obtain ⟨h1, h2⟩ := tyV_is I1 r1 ty
 exact ⟨T, id, pa, slot, hty, h1, h2, Calls.callWith_builtin rfl (PySem.evalArgs_none (hm pins s1 σ H1 x [] v [] Q I1 r1 .nil q1))⟩
theorem pe_bm (pa : PlainAttrs T) (slot : Slot T name id) (hty : typeOf (.builtin id) = pure (.type "method_descriptor")) (hm : MtR X id r) (ho : PE X o to) (ha : PA X (e :: es) t)
 (hbase : attributeBase o name X.env (eval o X.env) = eval o X.env := by rfl)
 (hfew : ((backTo cpos (starEach (e :: es) X.env)).all (fun x => !x.1) && (backToKw cpos (keywordEach [] X.env)).all (fun x => x.1.isSome)
  && decide ((e :: es).length + ([] : List Keyword).length + (if ([] : List Keyword).isEmpty then 0 else 1) < 30)) = true := by rfl)
 (hline : (apos.endLine == cpos.line) = true := by rfl) (hs : starEach (e :: es) X.env = (false, eval e X.env) :: starEach es X.env := by rfl) (hplain : (backTo cpos (starEach es X.env)).any (·.1) = false := by rfl) :
 PE X (.Call (.Attribute o name apos) (e :: es) [] cpos) (tBM X.K T r to t) := by
 walk_at "z3"
 refine wpAny_Call_method_late hbase hfew hline rfl (thn (ho pins s σ H _ I h) fun v s1 ⟨x, H1, I1, r1, ty, q1⟩ => ?_)
 obtain ⟨h1, h2⟩ := tyV_is I1 r1 ty
 refine ⟨T, id, pa, slot, hty, h1, h2, ?_⟩
 have hA := ha cpos pins s1 σ H1 _ I1 q1
 rw [hs] at hA ⊢
 refine Calls.callWith_builtin (by show (false || (backTo cpos (starEach es X.env)).any (·.1)) = false; rw [hplain] <;> rfl) (Calls.evalArgs_plain ?_)
 exact thn hA fun us s2 ⟨vs, H2, I2, r2, q2⟩ => hm pins s2 σ H2 x vs v us Q I2 r1 r2 q2
end
end L2
namespace L2
open PySem PySem.Spec PyProof.Rows
def MtM (X : Cx) (id : String) (r : V → List V → Hp → VK → Prop) : Prop :=
 ∀ (pins : List (Addr × Obj)) (s : Shared) (σ : St) (H : Hp) (x : V) (xs : List V) (v : Value) (us : List Value) (Q : VK), Inv X pins σ H s → RelV x v → Vals xs us → r x xs H Q →
  wpAny (model X.prog X.w) X.A (call (.builtin id) (v :: us)) (EP X pins σ Q) X.xe s
theorem Vals.one : ∀ {x : V} {us : List Value}, Vals [x] us → ∃ u, us = [u] ∧ RelV x u
 | _, _, .cons r .nil => ⟨_, rfl, r⟩
theorem Vals.zero : ∀ {us : List Value}, Vals [] us → us = []
 | _, .nil => rfl
theorem Vals.dropLast {xs : List V} {us : List Value} (h : Vals xs us) : Vals xs.dropLast us.dropLast := by
 induction h with
 | nil => exact .nil
 | cons r t ih =>
   cases t with
   | nil => exact .nil
   | cons q t' => exact .cons r ih
theorem Vals.rep {xs : List V} {us : List Value} (h : Vals xs us) : ∀ k : Nat, Vals (List.replicate k xs).flatten (List.replicate k us).flatten
 | 0 => .nil
 | k + 1 => by
   rw [List.replicate_succ, List.replicate_succ, List.flatten_cons, List.flatten_cons]
   exact Vals.append h (Vals.rep h k)
theorem erase_last {α : Type} (l : List α) : l.eraseIdx (l.length - 1) = l.dropLast := by
 induction l with
 | nil => rfl
 | cons a r ih =>
   cases r with
   | nil => rfl
   | cons b r =>
     have e : (a :: b :: r).length - 1 = ((b :: r).length - 1) + 1 := by
      have h1 : (a :: b :: r).length = r.length + 2 := rfl
      have h2 : (b :: r).length = r.length + 1 := rfl
      lia
     rw [e, List.eraseIdx_cons_succ, ih]
     all_goals rfl
theorem foldl_rep (its : List Value) : ∀ (k : Nat) (acc : List Value),
 List.foldl (fun x1 x2 => x1 ++ x2) acc.toArray (List.replicate k its.toArray) = (acc ++ (List.replicate k its).flatten).toArray
 | 0, acc => by simp
 | k + 1, acc => by
   have e : acc.toArray ++ its.toArray = (acc ++ its).toArray := by simp
   have e2 : (acc ++ its) ++ (List.replicate k its).flatten = acc ++ (List.replicate (k + 1) its).flatten := by
    rw [List.replicate_succ, List.flatten_cons, List.append_assoc]
   rw [← e2, ← foldl_rep its k (acc ++ its), ← e, List.replicate_succ, List.foldl_cons]
section
variable {X : Cx} {pins : List (Addr × Obj)} {σ : St} {H : Hp} {s : Shared} {l b : Addr} {xs ys zs : List V}
theorem Inv.lset {its its' : List Value} {n : Nat} {f : Array Value → Array Value} {t' : Nat} (I : Inv X pins σ H s) (hH : H l = some (.lst xs))
 (e : s.heap.get? l = some { cls := .type "list", data := .seq its.toArray n }) (hf : f its.toArray = its'.toArray) (hv : Vals ys its') (hz : ys.length ≤ sizeLine) :
 Inv X pins σ (upd H l (.lst ys)) { s with heap := s.heap.update l (Obj.mapSeq f), toks := t' } := by
 have q := PySem.IsL.update e f
 rw [hf] at q
 refine I.write (x := l) (e := l) (by rw [hH]; exact trivial) (.inl rfl) (fun b' u hb hu => (Heap.get?_update_other s.heap (Obj.mapSeq f) (Ne.symm hb)).trans hu) ⟨_, q⟩ ?_
 exact ⟨hz, its', _, hv, q⟩
theorem Inv.lnew {its : List Value} {t' : Nat} (I : Inv X pins σ H s) (hv : Vals ys its) (hz : ys.length ≤ sizeLine) :
 Inv X pins σ (upd H s.heap.objs.size (.lst ys)) { s with heap := s.heap.push { cls := .type "list", data := .seq its.toArray }, toks := t' } :=
 I.laid (fun _ _ q => Heap.get?_push_of_some _ q) (Nat.le_refl _) ⟨hz, its, 0, hv, Heap.get?_push_size _ rfl⟩
theorem Inv.fresh (I : Inv X pins σ H s) : H s.heap.objs.size = none := I.hok.fresh (Nat.le_refl _)
theorem Inv.lstM (I : Inv X pins σ H s) (hH : H l = some (.lst xs)) : xs.length ≤ sizeLine ∧ ∃ (its : List Value) (n : Nat), Vals xs its ∧ xs.length = its.length ∧ s.heap.get? l = some { cls := .type "list", data := .seq its.toArray n } := by
 obtain ⟨z, its, n, r, e⟩ := I.hok l _ hH
 exact ⟨z, its, n, r, r.length, e⟩
theorem notLongL {n : Nat} (h : n ≤ sizeLine) : Builtin.List.listTooLong n = false := by
 unfold Builtin.List.listTooLong
 exact decide_eq_false (by lia)
end
section
variable {X : Cx}
def rAppend : V → List V → Hp → VK → Prop := fun x vs H Q => ∃ l xs y, x = .ref l ∧ vs = [y] ∧ H l = some (.lst xs) ∧ xs.length < sizeLine ∧ Q .non (upd H l (.lst (xs ++ [y])))
theorem mt_append : MtM X "list.append" rAppend := by
 intro pins s σ H x vs v us Q I rx rv h
 obtain ⟨l, xs, y, rfl, rfl, hH, hz, q⟩ := h
 cases rx
 obtain ⟨u, rfl, ru⟩ := rv.one
 obtain ⟨z, its, n, r, hl, e⟩ := I.lstM hH
 refine call_meets F.slot_list_append ⟨_, e, rfl⟩ F.entry_list_append (F.args_list_append_2 _ _) (PySem.list_append l its.toArray n u (by rw [List.size_toArray]; lia)) ⟨e, ?_⟩
 refine ⟨.non, _, I.lset (its' := its ++ [u]) hH e (by simp) (r.append (.cons ru .nil)) ?_, rfl, q⟩
 rw [List.length_append, List.length_singleton]
 lia
def rPop : V → List V → Hp → VK → Prop := fun x vs H Q => ∃ l xs y, x = .ref l ∧ vs = [] ∧ H l = some (.lst xs) ∧ xs[xs.length - 1]? = some y ∧ Q y (upd H l (.lst xs.dropLast))
theorem mt_pop : MtM X "list.pop" rPop := by
 intro pins s σ H x vs v us Q I rx rv h
 obtain ⟨l, xs, y, rfl, rfl, hH, hy, q⟩ := h
 cases rx
 have hus := rv.zero
 subst hus
 obtain ⟨z, its, n, r, hl, e⟩ := I.lstM hH
 obtain ⟨u, hu, ru⟩ := r.get hy
 have hy' : its.toArray[its.toArray.size - 1]? = some u := by
  show its.toArray[its.length - 1]? = some u
  rw [← Array.getElem?_toList, ← hl]
  exact hu
 refine call_meets F.slot_list_pop ⟨_, e, rfl⟩ F.entry_list_pop (F.args_list_pop_1 _) (MeetsSeq.list_pop_last l its.toArray n u hy' (by rw [List.size_toArray]; lia)) ⟨e, ?_⟩
 refine ⟨y, _, I.lset (its' := its.dropLast) hH e ?_ r.dropLast ?_, ru, q⟩
 ·show its.toArray.eraseIdxIfInBounds (its.toArray.size - 1) = its.dropLast.toArray
  rw [List.size_toArray, List.eraseIdxIfInBounds_toArray, erase_last]
 ·rw [List.length_dropLast]
  lia
def rCat : R2 := fun x y H Q => ∃ l b xs zs, x = .ref l ∧ y = .ref b ∧ H l = some (.lst xs) ∧ H b = some (.lst zs) ∧ xs.length + zs.length ≤ sizeLine ∧ ∀ p, H p = none → Q (.ref p) (upd H p (.lst (xs ++ zs)))
theorem op_cat : OpR X (binaryOp .Add) rCat := by
 intro pins s σ H x y v u Q I rx ry h
 obtain ⟨l, b, xs, zs, rfl, rfl, hH, hB, hz, q⟩ := h
 cases rx
 cases ry
 obtain ⟨z, its, n, r, hl, e⟩ := I.lstM hH
 obtain ⟨z2, its2, n2, r2, hl2, e2⟩ := I.lstM hB
 refine PySem.P.add_list e e2 ?_ (by rw [List.size_toArray, List.size_toArray]; lia)
 have ea : its.toArray ++ its2.toArray = (its ++ its2).toArray := by simp
 rw [ea]
 exact ⟨.ref _, _, I.lnew (t' := s.toks) (r.append r2) (by rw [List.length_append]; lia), rfl, q _ I.fresh⟩
def rRep : R2 := fun x y H Q => ∃ l k xs, x = .ref l ∧ y = .int k ∧ H l = some (.lst xs) ∧ -(2 ^ 63) ≤ k ∧ k < 2 ^ 63 ∧ xs.length * k.toNat ≤ sizeLine ∧
 ∀ p, H p = none → Q (.ref p) (upd H p (.lst (List.replicate k.toNat xs).flatten))
theorem len_rep {α : Type} (xs : List α) (k : Nat) : (List.replicate k xs).flatten.length = k * xs.length := by
 induction k with
 | zero => simp
 | succ k ih => rw [List.replicate_succ, List.flatten_cons, List.length_append, ih, Nat.succ_mul, Nat.add_comm]
theorem op_rep : OpR X (binaryOp .Mult) rRep := by
 intro pins s σ H x y v u Q I rx ry h
 obtain ⟨l, k, xs, rfl, rfl, hH, h1, h2, hz, q⟩ := h
 cases rx
 obtain ⟨t, rfl⟩ := ry
 obtain ⟨z, its, n, r, hl, e⟩ := I.lstM hH
 have hlen : its.toArray.size * k.toNat ≤ sizeLine := by rw [List.size_toArray, ← hl]; exact hz
 have hcap : ¬ its.toArray.size * k.toNat > (2 ^ 63 - 1) / 8 := by
  have : (sizeLine : Nat) ≤ (2 ^ 63 - 1) / 8 := by decide
  lia
 have hfit : ¬ (!Builtin.List.listFitsIndex k) = true := by
  rw [fitsIndex_both h1 h2]
  exact Bool.false_ne_true
 have hlong : ¬ Builtin.List.listTooLong (its.toArray.size * k.toNat) = true := by
  rw [notLongL hlen]
  exact Bool.false_ne_true
 have hnew : List.foldl (fun x1 x2 => x1 ++ x2) #[] (List.replicate (if its.toArray.isEmpty = true then 0 else k.toNat) its.toArray) = (List.replicate k.toNat its).flatten.toArray := by
  have f0 : ∀ m : Nat, List.foldl (fun x1 x2 => x1 ++ x2) #[] (List.replicate m its.toArray) = (List.replicate m its).flatten.toArray := fun m => by
   have := foldl_rep its m []
   rw [List.nil_append] at this
   exact this
  rw [f0]
  cases its with
  | nil => simp
  | cons a r' => rw [if_neg (by simp)]
 refine wpAny_binaryOp_repeat_ref (T := "list") (U := "int") (by decide) ⟨_, e, rfl⟩ (fun s' => typeIs_int s' k t) noFill_list_mul F.fills_int_mul F.slot_int_rmul repeat_list F.slot_int_index.lookup
  (call_meets F.slot_int_rmul (typeIs_int s k t) F.entry_int_rmul (F.args_int_rmul_2 _ _) (int___rmul___int_list k t l its.toArray n)
   ⟨e, rfl, ⟨_, e, rfl⟩, call_meets F.slot_list_mul ⟨_, e, rfl⟩ F.entry_list_mul (F.args_list_mul_2 _ _) (AutoListH.list___mul___list_int_3 l its.toArray n k t hfit hcap hlong) ⟨e, ?_⟩⟩)
 rw [hnew]
 exact ⟨.ref _, _, I.lnew (t' := s.toks) (r.rep k.toNat) (by rw [len_rep, Nat.mul_comm]; exact hz), rfl, q _ I.fresh⟩
end
section
variable {prog : Program} {w : World} {A : Around} {E : Value → Shared → Prop} {s : Shared}
end
section
variable {X : Cx}
end
end L2
namespace Att
open PySem PySem.W PySem.Calls PyProof.Rows
theorem ints_of_wellAll {P : Params} {h : Heap} : ∀ (ns : List Int) (vs : List Value), WellAll P h vs (ns.map WData.int) → IntsAre vs ns := by
 intro ns
 induction ns with
 | nil =>
   intro vs w
   rw [List.map_nil] at w
   cases w
   exact .nil
 | cons n ns ih =>
   intro vs w
   rw [List.map_cons] at w
   cases w with
   | cons a b =>
     cases a
     exact .cons _ _ (ih _ b)
theorem script_of {l : OpenLaw} {n : Nat} (hn : l.most = some n) {P : Params} {h : Heap} {args : List WData} {vals : List Value}
 (hpre : l.row.toRowW.claim.pre args = true) (hwl : WellAll P h vals args) :
 ∃ a vs ns, vals = [Value.ref a] ∧ args = [WData.list (ns.map WData.int)] ∧ h.get? a = some { cls := .type "list", data := .seq vs.toArray } ∧ IntsAre vs ns ∧ ns.length ≤ n := by
 have hsh : WShape.hasAll [] args [.list .int] = true := (pre_splitW hpre).1
 have hc : l.pre.holds [] { args := args } = true := (pre_splitW hpre).2
 obtain ⟨d, r, rfl, h1, h2⟩ := hasAllW_cons hsh
 obtain rfl := hasAllW_nil h2
 obtain ⟨xs, rfl, h3⟩ := hasW_list h1
 obtain ⟨ns, rfl⟩ := items_int h3
 have hlen : ns.length ≤ n := by
  unfold OpenLaw.pre at hc
  have h4 : (WTm.not (.lt (.lit (.int (n : Int))) (.len (.arg 0)))).holds [] { args := [.list (ns.map .int)] } = true := by
   have h4 := (holds_andW hc).1
   rw [hn] at h4
   exact h4
  have h5 := condW_of h4 (w_not (w_lt w_lit (w_len_list (w_arg rfl))))
  rw [List.length_map] at h5
  refine Nat.le_of_not_lt fun q => ?_
  have q' : (n : Int) < ((ns.length : Nat) : Int) := by lia
  first
   | (rw [decide_eq_true q'] at h5; exact absurd h5 (by decide))
   | (simp at h5; lia)
 cases hwl with
 | cons w1 w2 =>
   cases w2
   cases w1 with
   | list ho hall => exact ⟨_, _, ns, rfl, rfl, ho, ints_of_wellAll ns _ hall, hlen⟩
theorem post_true (l : OpenLaw) (args : List WData) : l.row.toRowW.claim.post args (.bool true) args = true :=
 postW_of (r := l.row.toRowW) (X := (true == true))
  (show WShape.has [] (.bool true) .bool = true by first | rfl | decide | simp [WShape.has, WShape.arms, WShape.armsAll])
  (show (WTm.eq .res (.lit (.bool true))).value [] { args := args, res := some (.bool true), after := args } = some (.bool (true == true)) from w_eq_bool (w_res rfl) w_lit) rfl
theorem attach_call {l : OpenLaw} {n : Nat} {q : Program} {loose : List Str} {XP : (Str → Option Value) → Heap → Prop} {YP : World → Heap → Prop} {d : DefRec}
 (hn : l.most = some n) (hdf : d.params.defaults = [])
 (call : ∀ (w : World) (s₀ s₁ : Shared) (mg mb : Str → Option Value) (fa : Addr) (o : Obj) (pm cd doc : Value) (a : Addr) (vs : List Value) (ns : List Int),
  Ground q loose [] XP w s₀ mg mb s₁.heap → YP w s₁.heap →
  s₁.heap.get? fa = some o → o.data = .func (docDef d.name d.params d.body d.scope pm cd doc) → s₁.heap.CodeRec cd d.name → mg d.name = some (.ref fa) →
  s₁.heap.get? a = some { cls := .type "list", data := .seq vs.toArray } → IntsAre vs ns → ns.length ≤ n → s₁.gens = #[] →
  codeAny (model l.prog w) callerA (.call (.ref fa) ⟨[.ref a], []⟩) (fun r s' => r = .ok (.ret (.bool true)) ∧ OldK s₁.heap s'.heap ∧ s'.os = s₁.os ∧ AllBare s'.gens) s₁) :
 WalkO q loose XP YP l.row.toRowW d [] (fun f vs => PySem.call f vs) := by
 intro w s₀ s₁ mg mb G Y fa o pm cd doc dV kV ho hd hcd hD hmg hg args vals as hpre hlay hrd hwl hlo
 obtain rfl : dV = .none := Dflts.none hD hdf
 obtain rfl : kV = .none := Dflts.noKw hD
 obtain ⟨a, vs, ns, rfl, rfl, hobj, hints, hlen⟩ := script_of hn hpre hwl
 refine enter_call (codeAny_mono (call w s₀ s₁ mg mb fa o pm cd doc a vs ns G Y ho (fd_plain hd) hcd hmg hobj hints hlen hg) fun r s' hq => ?_)
 obtain ⟨rfl, h2, h3, h4⟩ := hq
 exact ⟨.inl ⟨.bool true, .bool true, [], rfl, fun _ => rfl, .bool true, post_true l _, fun _ => ⟨List.Pairwise.nil, fun _ hm => (nomatch hm)⟩⟩, h2, h3, h4⟩
section
variable {prog : Program} {w : World} {A : Around} {E : Value → Shared → Prop} {s : Shared} {K : Frag}
end
end Att
namespace L2
open PySem PySem.Spec PyProof.Rows
theorem vals_ints : ∀ {vs : List Value} {ns : List Int}, IntsAre vs ns → Vals (ns.map V.int) vs
 | _, _, .nil => .nil
 | _, _, .cons n t h => .cons ⟨t, rfl⟩ (vals_ints h)
def Only (H : Hp) : Prop := ∀ b, H b = none ∨ ∃ o xs, H b = some (.frz o (.lst xs))
theorem law_call {P : Program} {w : World} {K : PySem.W.Frag} {mg mb : Str → Option Value} {CX : CXT} {k : Nat} {fa a : Addr} {fd : FuncData} {x : Str} {sp : Sp} {s₁ : Shared} {vs : List Value} {ns : List Int}
 (KX : K.In s₁.heap) (hns : s₁.heap.Ns mainGlobals mg) (hb : s₁.heap.Ns builtinsNs mb) (hbb : ∀ x : Str, x ≠ "__name__" → mb x = bootBuiltins x) (hlim : s₁.heap.NoLimit) (hg : s₁.gens = #[])
 (ha : s₁.heap.get? a = some { cls := .type "list", data := .seq vs.toArray }) (hi : IntsAre vs ns) (hl : ns.length ≤ sizeLine) (hr : Room k callerA)
 (F : ∀ base : Heap, K.In base → base.Ns mainGlobals mg → FnOk P w K mg base CX k fa fd [x] sp) (hbind : ∀ (s : Shared) (u : Value), BindsTo s fd ⟨[u], []⟩ [(x, u)])
 (hsp : ∀ H : Hp, Only H → SqL K H a (ns.map V.int) → sp [.ref a] H (fun v _ => v = .bl true) fun _ _ _ => False)
 (hCX : ∀ H e s', CX [] H s₁ (fun _ _ _ => False) e s' → False) :
 codeAny (model P w) callerA (.call (.ref fa) ⟨[.ref a], []⟩) (fun r s' => r = .ok (.ret (.bool true)) ∧ OldK s₁.heap s'.heap ∧ s'.os = s₁.os ∧ AllBare s'.gens) s₁ := by
 have rv := vals_ints hi
 have lenV := hi.length
 have core : ∀ H : Hp, Only H → SqL K H a (ns.map V.int) → HOk P w H s₁.heap → (∀ b, H b ≠ none → b = a) → (H a ≠ none → K.lookup a = none) →
  codeAny (model P w) callerA (.call (.ref fa) ⟨[.ref a], []⟩) (fun r s' => r = .ok (.ret (.bool true)) ∧ OldK s₁.heap s'.heap ∧ s'.os = s₁.os ∧ AllBare s'.gens) s₁ := by
  intro H hO hS hok hA hK
  have base_of : ∀ {b : Addr} {o : Obj}, s₁.heap.get? b = some o → H b = none → (hidT s₁.heap H).get? b = some o := fun e n => hidT_get e n
  have noA : ∀ {b : Addr} {o : Obj} {es : Array DictEntry} {ep : Nat}, s₁.heap.get? b = some o → o.data = .dict es ep → H b = none := fun {b o es ep} e d => by
   cases q : H b with
   | none => rfl
   | some u =>
     have e' : b = a := hA b (by rw [q]; simp)
     subst e'
     rw [ha] at e; cases e
     have d' : Data.seq vs.toArray _ = Data.dict es ep := d
     cases d'
  have nsK : ∀ {b : Addr} {m : Str → Option Value}, s₁.heap.Ns b m → (hidT s₁.heap H).Ns b m := fun {b m} ⟨o, es, ep, e, d, r⟩ => ⟨o, es, ep, base_of e (noA e d), d, r⟩
  have hKb : K.In (hidT s₁.heap H) := fun b o e => base_of (KX b o e) (by
   cases q : H b with
   | none => rfl
   | some u =>
     have e' : b = a := hA b (by rw [q]; simp)
     subst e'
     rw [hK (by rw [q]; simp)] at e; cases e)
  have hM : Mod K mg (hidT s₁.heap H) := ⟨hKb, nsK hns, ⟨mb, nsK hb, hbb⟩, let ⟨mc, h1, h2⟩ := hlim; ⟨mc, nsK h1, h2⟩⟩
  have e0 : Env0 P w K mg (hidT s₁.heap H) callerA [] s₁ H := ⟨rfl, hM, fun b o e => of_hidT e, Nat.le_of_eq (hidT_size _ _), trivial, fun b hb => absurd (show b ∈ ([] : List Addr) from hb) (by simp), hok, .of_eq hg⟩
  refine codeAny_mono ((F _ hKb (nsK hns)).run callerA [] s₁ H ⟨[.ref a], []⟩ [.ref a] [.ref a] _ _ hr e0 (hbind s₁ (.ref a)) (.cons rfl .nil) (hsp H hO hS)) fun r s' h => ?_
  cases r with
  | error e => exact (hCX H e s' h).elim
  | ok fl =>
    cases fl with
    | next => exact False.elim h
    | brk => exact False.elim h
    | cont => exact False.elim h
    | ret u =>
      obtain ⟨v, H', os, bare, un, hok', r', q⟩ := h
      have q' : v = .bl true := q
      subst q'
      obtain rfl : u = Value.bool true := r'
      refine ⟨rfl, OldK.of_keep fun b o e => ?_, os, bare⟩
      cases q : H b with
      | none => exact un.keep b o e q (by intro z; exact absurd (show b ∈ ([] : List Addr) from z) (by simp)) (by simp)
      | some u =>
        rcases hO b with z | ⟨ob, xs, z⟩
        ·rw [q] at z; cases z
        ·have z2 := un.frzs b ob _ z
         obtain ⟨e1, _⟩ := hok b _ z
         obtain ⟨e2, _⟩ := hok' b _ z2
         rw [e] at e1; cases e1
         exact e2
 cases hk : K.lookup a with
 | some o =>
   have e := KX a o hk
   rw [ha] at e
   cases e
   refine core (fun _ => none) (fun _ => .inl rfl) (.inr ⟨_, vs.toArray, _, hk, rfl, rfl, rfl, by rw [List.size_toArray, lenV]; exact hl, by simpa using rv⟩) (fun b u z => by have z' : (none : Option HO) = some u := z; cases z') (fun b z => absurd rfl z) fun z => absurd rfl z
 | none =>
   refine core (fun b => if b = a then some (.frz { cls := .type "list", data := .seq vs.toArray } (.lst (ns.map V.int))) else none) (fun b => ?_) (.inl (.inr ⟨{ cls := .type "list", data := .seq vs.toArray }, if_pos rfl⟩)) (fun b u z => ?_) (fun b z => ?_) fun _ => hk
   ·by_cases hb : b = a
    ·exact .inr ⟨_, _, if_pos hb⟩
    ·exact .inl (if_neg hb)
   ·by_cases hb : b = a
    ·have z' := (if_pos hb).symm.trans z
     cases z'
     subst hb
     exact ⟨ha, by rw [List.length_map]; exact hl, vs, _, rv, ha⟩
    ·have z' := (if_neg hb).symm.trans z
     cases z'
   ·by_cases hb : b = a
    ·exact hb
    ·exact absurd (if_neg hb) z
end L2
namespace L2
open PySem PySem.Spec PyProof.Rows
theorem walk_of {l : PySem.W.OpenLaw} {n k : Nat} {q : Program} {loose : List Str} {XP : (Str → Option Value) → Heap → Prop} {YP : World → Heap → Prop} {d : DefRec} {K : Params → PySem.W.Frag} {CX : World → CXT} {sp : World → Sp} {x : Str}
 (hn : l.most = some n) (hn2 : n ≤ sizeLine) (hdf : d.params.defaults = []) (hr : Room k callerA)
 (hY : ∀ (w : World) (h : Heap), YP w h → (K w.params).In h)
 (F : ∀ (w : World) (mg : Str → Option Value) (fa : Addr) (h : Heap), (K w.params).In h → h.Ns mainGlobals mg → mg d.name = some (.ref fa) →
  ∃ fd : FuncData, (∀ (s : Shared) (u : Value), BindsTo s fd ⟨[u], []⟩ [(x, u)]) ∧
   ∀ base : Heap, (K w.params).In base → base.Ns mainGlobals mg → FnOk l.prog w (K w.params) mg base (CX w) k fa fd [x] (sp w))
 (hsp : ∀ (w : World) (H : Hp) (a : Addr) (ns : List Int), ns.length ≤ n → Only H → SqL (K w.params) H a (ns.map V.int) → sp w [.ref a] H (fun v _ => v = .bl true) fun _ _ _ => False)
 (hCX : ∀ (w : World) (H : Hp) (s : Shared) (e : Value) (s' : Shared), CX w [] H s (fun _ _ _ => False) e s' → False) :
 PySem.W.WalkO q loose XP YP l.row.toRowW d [] (fun f vs => PySem.call f vs) := by
 refine Att.attach_call hn hdf fun w s₀ s₁ mg mb fa o pm cd doc a vs ns G Y ho hd hcd hmg hobj hints hlen hg => ?_
 have KX := hY w _ Y
 obtain ⟨fd, hb, hF⟩ := F w mg fa _ KX G.T.g hmg
 exact law_call KX G.T.g G.T.b G.T.builtins G.T.nolimit hg hobj hints (Nat.le_trans hlen hn2) hr hF hb (fun H hO hS => hsp w H a ns hlen hO hS) fun H e s' => hCX w H s₁ e s'
end L2
namespace L2
open PySem PySem.Spec PyProof.Rows
def inClass (s : Stmt) (j : Nat) : Stmt := match s with
 | .ClassDef _ _ _ body _ _ _ _ _ _ _ => body.getD j (.Pass ⟨0, 0, 0, 0⟩)
 | _ => .Pass ⟨0, 0, 0, 0⟩
def defArgs (s : Stmt) : Arguments := match s with
 | .FunctionDef _ a _ _ _ _ _ _ _ _ => a
 | _ => { posonlyargs := [], args := [], vararg := none, kwonlyargs := [], kw_defaults := [], kwarg := none, defaults := [] }
def defBody (s : Stmt) : List Stmt := match s with
 | .FunctionDef _ _ b _ _ _ _ _ _ _ => b
 | _ => []
def defScope (s : Stmt) : Scope := match s with
 | .FunctionDef _ _ _ _ _ _ sc _ _ _ => sc
 | _ => { kind := .function, names := [], isGenerator := false, isCoroutine := false }
abbrev CX0 : CXT := fun _ _ _ _ _ _ => False
abbrev E0 : XK := fun _ _ _ => False
theorem pass0 {X : Cx} : Passes CX0 X E0 := fun _ _ _ _ _ _ _ h => h.elim
structure Fun (K : PySem.W.Frag) (x qual : Str) (st : Stmt) (f : Addr) (fd : FuncData) : Prop where
 ex : ∃ (oc : Value) (od : Option Addr) (kV doc pm : Value) (an : Option Addr) (cdv ct : Value) (osl : Array (Option Value)),
  fd = PySem.W.fnOf x qual (defArgs st) (defBody st) (defScope st) .none kV doc pm an cdv ct ∧ K.lookup f = some ⟨oc, od, .func fd, osl⟩ ∧ PySem.W.codeIn K cdv qual = true
 kp : PySem.W.keepIn K (.ref f) = true
section
variable {P : Program} {w : World} {K : PySem.W.Frag} {mg : Str → Option Value} {base : Heap}
theorem Fun.ok {x qual : Str} {st : Stmt} {f : Addr} {fd : FuncData} {N ps : List Str} {k : Nat} {sp : Sp} (F : Fun K x qual st f fd) (S : FnScope N ps (defScope st)) (len : ∀ vs H Q E, sp vs H Q E → vs.length = ps.length)
 (hbody : ∀ (cdv : Value) (A : Around) (outer : List Env) (s : Shared) (H : Hp) (vs : List V) (Q : VK) (E : XK), Room k (A.deeper (envOfC qual (defScope st) s.heap.objs.size f cdv)) → sp vs H Q E →
  ∃ t, PSs (cxOf CX0 P w K mg base N qual (defScope st) f cdv A outer s H E).nox (defBody st) t ∧ t { nx := fun _ H' => Q .non H', rt := Q } (start N vs) H) : FnOk P w K mg base CX0 (k + 1) f fd ps sp := by
 obtain ⟨oc, od, kV, doc, pm, an, cdv, ct, osl, rfl, lk, hcd⟩ := F.ex
 refine fn_of lk hcd S len fun A outer s H vs Q E hr hsp => ?_
 obtain ⟨t, h, q⟩ := hbody cdv A outer s H vs Q E hr hsp
 exact ⟨t, h.nox, q⟩
theorem Fun.binds {x qual : Str} {st : Stmt} {f : Addr} {fd : FuncData} {ps : List Str} (F : Fun K x qual st f fd)
 (h : ∀ (kV doc pm : Value) (an : Option Addr) (cdv ct : Value) (us : List Value), us.length = ps.length → bindArgs (PySem.W.fnOf x qual (defArgs st) (defBody st) (defScope st) .none kV doc pm an cdv ct) ⟨us, []⟩ = pure (ps.zip us)) : Binds K fd ps [] := by
 obtain ⟨oc, od, kV, doc, pm, an, cdv, ct, osl, rfl, lk, hcd⟩ := F.ex
 exact .all (h kV doc pm an cdv ct)
theorem fun_mk {x qual : Str} {st : Stmt} {f : Addr} {oc : Value} {od an : Option Addr} {osl : Array (Option Value)} {kV doc pm cdv ct : Value} (l : K.lookup f = some ⟨oc, od, .func (PySem.W.fnOf x qual (defArgs st) (defBody st) (defScope st) .none kV doc pm an cdv ct), osl⟩)
 (c : PySem.W.codeIn K cdv qual = true) (k : PySem.W.keepIn K (.ref f) = true) : Fun K x qual st f (PySem.W.fnOf x qual (defArgs st) (defBody st) (defScope st) .none kV doc pm an cdv ct) := ⟨⟨oc, od, kV, doc, pm, an, cdv, ct, osl, rfl, l, c⟩, k⟩
end
section
variable {X : Cx}
theorem pv (i : Nat) {x : Str} {pos : Pos} (hN : X.N[i]? = some x := by rfl) (hv : Vis X.env.scope x := by first | exact Or.inl rfl | exact Or.inr (Or.inl rfl) | exact Or.inr (Or.inr rfl)) (hd : (x == ("__debug__" : Str)) = false := by decide)
 (hcd : (x == ("__classdict__" : Str)) = false := by decide) : PE X (.Name x pos) (tVar i) := pe_var hN hv hd hcd
end
theorem iteF {A B : Prop} (h : B) : if false = true then A else B := by
 rw [if_neg Bool.false_ne_true]
 exact h
theorem iteT {A B : Prop} (h : A) : if true = true then A else B := by
 rw [if_pos rfl]
 exact h
def Same (H H' : Hp) : Prop := ∀ b o, H b = some o → H' b = some o
theorem Same.refl (H : Hp) : Same H H := fun _ _ h => h
theorem Same.trans {H H1 H2 : Hp} (a : Same H H1) (b : Same H1 H2) : Same H H2 := fun c o h => b c o (a c o h)
theorem Same.free {H H' : Hp} (e : Same H H') {l : Addr} (h : H' l = Option.none) : H l = Option.none := by
 cases q : H l with
 | none => rfl
 | some o =>
   rw [e l o q] at h
   cases h
theorem Same.seq {K : PySem.W.Frag} {H H' : Hp} {a : Addr} {xs : List V} (e : Same H H') (h : SqL K H a xs) : SqL K H' a xs := by
 rcases h with (h | ⟨o, h⟩) | h
 ·exact .inl (.inl (e _ _ h))
 ·exact .inl (.inr ⟨o, e _ _ h⟩)
 ·exact .inr h
end L2
namespace L2
open PySem PySem.Spec PyProof.Rows
def PdAt (K : PySem.W.Frag) (H : Hp) : Nat → PyData → V → Prop
 | 0, d, v => match d with
   | .none => v = .non
   | .bool b => v = .bl b
   | .int i => v = .int i
   | .str x => v = .str x ∧ PyData.strOk x = true
   | _ => False
 | n + 1, d, v => match d with
   | .none => v = .non
   | .bool b => v = .bl b
   | .int i => v = .int i
   | .str x => v = .str x ∧ PyData.strOk x = true
   | .list ds => ∃ a xs, v = .ref a ∧ SqL K H a xs ∧ Paired (PdAt K H n) ds xs
   | .tuple ds => ∃ a xs, v = .ref a ∧ SqT K H a xs ∧ Paired (PdAt K H n) ds xs
   | .dict _ => False
section
variable {X : Cx} {pins : List (Addr × Obj)} {σ : St} {H : Hp} {s : Shared}
theorem pd_reads (I : Inv X pins σ H s) : ∀ (n : Nat) (d : PyData) (v : V) (u : Value), PdAt X.K H n d v → RelV v u → ∃ as, Reads s.heap u d as := by
 intro n
 induction n with
 | zero =>
   intro d v u h r
   cases d with
   | none => cases (show v = .non from h); cases (show u = Value.none from r); exact ⟨_, Reads.none⟩
   | bool b => cases (show v = .bl b from h); cases (show u = Value.bool b from r); exact ⟨_, Reads.bool b⟩
   | int i => cases (show v = .int i from h); obtain ⟨t, rfl⟩ := (show ∃ t, u = Value.int i t from r); exact ⟨_, Reads.int i t⟩
   | str x => cases (show v = .str x ∧ _ from h).1; obtain ⟨t, rfl⟩ := (show ∃ t, u = Value.str x t from r); exact ⟨_, Reads.str x t⟩
   | list _ => exact (show False from h).elim
   | tuple _ => exact (show False from h).elim
   | dict _ => exact (show False from h).elim
 | succ n ih =>
   have all : ∀ (ds : List PyData) (xs : List V) (us : List Value), Paired (PdAt X.K H n) ds xs → Vals xs us → ∃ as, ReadsAll s.heap us ds as := by
    intro ds xs us p
    induction p generalizing us with
    | nil => intro r; cases r; exact ⟨_, ReadsAll.nil⟩
    | cons q _ hi =>
      intro r
      cases r with
      | cons r1 rr =>
        obtain ⟨as, h1⟩ := ih _ _ _ q r1
        obtain ⟨bs, h2⟩ := hi _ rr
        exact ⟨_, ReadsAll.cons h1 h2⟩
   intro d v u h r
   cases d with
   | none => cases (show v = .non from h); cases (show u = Value.none from r); exact ⟨_, Reads.none⟩
   | bool b => cases (show v = .bl b from h); cases (show u = Value.bool b from r); exact ⟨_, Reads.bool b⟩
   | int i => cases (show v = .int i from h); obtain ⟨t, rfl⟩ := (show ∃ t, u = Value.int i t from r); exact ⟨_, Reads.int i t⟩
   | str x => cases (show v = .str x ∧ _ from h).1; obtain ⟨t, rfl⟩ := (show ∃ t, u = Value.str x t from r); exact ⟨_, Reads.str x t⟩
   | list ds =>
     obtain ⟨a, xs, rfl, hq, hp⟩ := (show ∃ a xs, v = .ref a ∧ SqL X.K H a xs ∧ Paired (PdAt X.K H n) ds xs from h)
     cases (show u = Value.ref a from r)
     obtain ⟨its, rv, pl, hz⟩ := I.list hq
     obtain ⟨as, ra⟩ := all _ _ _ hp rv
     obtain ⟨o, ho, hc, k, hd⟩ := pl.isList
     exact ⟨_, reads_list_at ho hc hd (by simpa using ra)⟩
   | tuple ds =>
     obtain ⟨a, xs, rfl, hq, hp⟩ := (show ∃ a xs, v = .ref a ∧ SqT X.K H a xs ∧ Paired (PdAt X.K H n) ds xs from h)
     cases (show u = Value.ref a from r)
     obtain ⟨its, rv, pl, hz⟩ := I.tuple hq
     obtain ⟨as, ra⟩ := all _ _ _ hp rv
     obtain ⟨o, ho, hc, k, hd⟩ := (show s.heap.IsTuple a its.toArray from pl)
     exact ⟨_, reads_tuple_at ho hc hd (by simpa using ra)⟩
   | dict _ => exact (show False from h).elim
end
theorem pd_shape {K : PySem.W.Frag} {H : Hp} : ∀ (n : Nat) (d : PyData) (v : V), PdAt K H n d v → d.canLay0 = true ∧ d.depth ≤ n := by
 intro n
 induction n with
 | zero =>
   intro d v h
   cases d with
   | str x => simp [PyData.canLay0, PyData.depth, (show v = .str x ∧ PyData.strOk x = true from h).2]
   | list _ => exact (show False from h).elim
   | tuple _ => exact (show False from h).elim
   | dict _ => exact (show False from h).elim
   | _ => simp [PyData.canLay0, PyData.depth]
 | succ n ih =>
   have all : ∀ (ds : List PyData) (xs : List V), Paired (PdAt K H n) ds xs → PyData.canLayAll0 ds = true ∧ PyData.depthAll ds ≤ n := by
    intro ds xs p
    induction p with
    | nil => simp [PyData.canLayAll0, PyData.depthAll]
    | cons q _ hi =>
      have h1 := ih _ _ q
      simp only [PyData.canLayAll0, PyData.depthAll, h1.1, hi.1, Bool.and_self, true_and]
      have a1 := h1.2
      have a2 := hi.2
      lia
   intro d v h
   cases d with
   | str x => simp [PyData.canLay0, PyData.depth, (show v = .str x ∧ PyData.strOk x = true from h).2]
   | list ds =>
     obtain ⟨a, xs, rfl, hq, hp⟩ := (show ∃ a xs, v = .ref a ∧ SqL K H a xs ∧ Paired (PdAt K H n) ds xs from h)
     have q := all _ _ hp
     have q2 := q.2
     simp only [PyData.canLay0, PyData.depth, q.1, true_and]
     lia
   | tuple ds =>
     obtain ⟨a, xs, rfl, hq, hp⟩ := (show ∃ a xs, v = .ref a ∧ SqT K H a xs ∧ Paired (PdAt K H n) ds xs from h)
     have q := all _ _ hp
     have q2 := q.2
     simp only [PyData.canLay0, PyData.depth, q.1, true_and]
     lia
   | dict _ => exact (show False from h).elim
   | _ => simp [PyData.canLay0, PyData.depth]
def rEqP (K : PySem.W.Frag) : R2 := fun x y H Q => ∃ d e, PdAt K H 9 d x ∧ PdAt K H 9 e y ∧ Q (.bl (PyData.eqv d e)) H
def rNeP (K : PySem.W.Frag) : R2 := fun x y H Q => ∃ d e, PdAt K H 9 d x ∧ PdAt K H 9 e y ∧ Q (.bl (!PyData.eqv d e)) H
section
variable {X : Cx}
theorem pd_shaped {K : PySem.W.Frag} {H : Hp} {d : PyData} {v : V} (h : PdAt K H 9 d v) : SeqAt.shaped d = true := by
 have q := pd_shape 9 d v h
 unfold SeqAt.shaped
 rw [q.1, Bool.true_and]
 exact decide_eq_true (Nat.le_trans q.2 (by decide))
theorem op_eqP (hu : X.A.units + 64 < cLine) : OpR X (compareOp .Eq) (rEqP X.K) := by
 intro pins s σ H x y v u Q I rx ry h
 obtain ⟨d, e, hd, he, q⟩ := h
 obtain ⟨as, ra⟩ := pd_reads I 9 d x v hd rx
 obtain ⟨bs, rb⟩ := pd_reads I 9 e y u he ry
 exact eq_dataH ra rb (pd_shaped hd) (pd_shaped he) hu ⟨.bl _, H, I, rfl, q⟩
theorem op_neP (hu : X.A.units + 64 < cLine) : OpR X (compareOp .NotEq) (rNeP X.K) := by
 intro pins s σ H x y v u Q I rx ry h
 obtain ⟨d, e, hd, he, q⟩ := h
 obtain ⟨as, ra⟩ := pd_reads I 9 d x v hd rx
 obtain ⟨bs, rb⟩ := pd_reads I 9 e y u he ry
 exact ne_dataH ra rb (pd_shaped hd) (pd_shaped he) hu ⟨.bl _, H, I, rfl, q⟩
end
abbrev iL (ns : List Int) : List V := ns.map V.int
abbrev pL (ns : List Int) : PyData := .list (ns.map PyData.int)
theorem eqvAll_ints : ∀ (xs ys : List Int), PyData.eqvAll (xs.map PyData.int) (ys.map PyData.int) = decide (xs = ys)
 | [], [] => by simp [PyData.eqvAll]
 | [], y :: ys => by simp [PyData.eqvAll]
 | x :: xs, [] => by simp [PyData.eqvAll]
 | x :: xs, y :: ys => by
   simp only [List.map_cons, PyData.eqvAll, PyData.eqv, eqvAll_ints xs ys, List.cons.injEq]
   by_cases h1 : x = y <;> by_cases h2 : xs = ys <;> simp [h1, h2]
theorem eqv_pints (xs ys : List Int) : PyData.eqv (pL xs) (pL ys) = decide (xs = ys) := by
 show PyData.eqvAll _ _ = _
 exact eqvAll_ints xs ys
theorem paired_ints {K : PySem.W.Frag} {H : Hp} {n : Nat} : ∀ ns : List Int, Paired (PdAt K H n) (ns.map PyData.int) (iL ns)
 | [] => .nil
 | i :: ns => .cons (by cases n <;> exact (rfl : V.int i = V.int i)) (paired_ints ns)
theorem pd_ints {K : PySem.W.Frag} {H : Hp} {n : Nat} {a : Addr} {ns : List Int} (h : SqL K H a (iL ns)) : PdAt K H (n + 1) (pL ns) (.ref a) := ⟨a, iL ns, rfl, h, paired_ints ns⟩
theorem pd_int {K : PySem.W.Frag} {H : Hp} {n : Nat} {i : Int} : PdAt K H n (.int i) (.int i) := by cases n <;> exact (rfl : V.int i = V.int i)
theorem pd_bl {K : PySem.W.Frag} {H : Hp} {n : Nat} {b : Bool} : PdAt K H n (.bool b) (.bl b) := by cases n <;> exact (rfl : V.bl b = V.bl b)
section
variable {K : PySem.W.Frag} {σ : St} {H : Hp} {Q : VK}
theorem i_var {i : Nat} {v : V} (h : σ[i]? = some (some v)) (q : Q v H) : tVar i σ H Q := ⟨v, h, q⟩
theorem i_I0 {g : Int → Int → V} {i j : Int} (q : Q (g i j) H) : rI0 g (.int i) (.int j) H Q := ⟨i, j, rfl, rfl, q⟩
theorem i_U {g : Int → V} {i : Int} (q : Q (g i) H) : rU g (.int i) H Q := ⟨i, rfl, q⟩
theorem beq_dec (i j : Int) : (i == j) = decide (i = j) := by
 by_cases h : i = j <;> simp [h]
theorem i_eqI {i j : Int} (q : Q (.bl (decide (i = j))) H) : rEqP K (.int i) (.int j) H Q := ⟨_, _, pd_int, pd_int, by rw [← beq_dec] at q; simpa [PyData.eqv] using q⟩
theorem i_neI {i j : Int} (q : Q (.bl (!decide (i = j))) H) : rNeP K (.int i) (.int j) H Q := ⟨_, _, pd_int, pd_int, by rw [← beq_dec] at q; simpa [PyData.eqv] using q⟩
theorem i_eqL {a b : Addr} {xs ys : List Int} (ha : SqL K H a (iL xs)) (hb : SqL K H b (iL ys)) (q : Q (.bl (decide (xs = ys))) H) : rEqP K (.ref a) (.ref b) H Q := ⟨_, _, pd_ints ha, pd_ints hb, by rw [eqv_pints]; exact q⟩
theorem i_neL {a b : Addr} {xs ys : List Int} (ha : SqL K H a (iL xs)) (hb : SqL K H b (iL ys)) (q : Q (.bl (!decide (xs = ys))) H) : rNeP K (.ref a) (.ref b) H Q := ⟨_, _, pd_ints ha, pd_ints hb, by rw [eqv_pints]; exact q⟩
end
def rAddP : R2 := fun x y H Q => rI0 (fun i j => .int (i + j)) x y H Q ∨ rCat x y H Q
def rIxP (K : PySem.W.Frag) : R2 := fun x y H Q => rIxL K x y H Q ∨ rIxT K x y H Q
def rMulP : R2 := fun x y H Q => rI CMul (fun i j => .int (i * j)) x y H Q ∨ rRep x y H Q
section
variable {X : Cx}
theorem op_addP : OpR X (binaryOp .Add) rAddP := op_add.or op_cat
theorem op_mulP : OpR X (binaryOp .Mult) rMulP := op_mul.or op_rep
theorem ix_P : IxR X (rIxP X.K) := ix_list.or ix_tup
end
section
variable {K : PySem.W.Frag} {σ : St} {H : Hp} {Q : VK}
theorem i_addI {i j : Int} (q : Q (.int (i + j)) H) : rAddP (.int i) (.int j) H Q := .inl ⟨i, j, rfl, rfl, q⟩
theorem i_addL {a b : Addr} {xs ys : List V} (ha : H a = some (.lst xs)) (hb : H b = some (.lst ys)) (hl : xs.length + ys.length ≤ sizeLine) (q : ∀ p, H p = none → Q (.ref p) (upd H p (.lst (xs ++ ys)))) : rAddP (.ref a) (.ref b) H Q := .inr ⟨a, b, xs, ys, rfl, rfl, ha, hb, hl, q⟩
theorem i_mulI {i j : Int} (c : CMul i j) (q : Q (.int (i * j)) H) : rMulP (.int i) (.int j) H Q := .inl ⟨i, j, rfl, rfl, c, q⟩
theorem atI_ints {ns : List Int} {i : Int} (h0 : 0 ≤ i) (h1 : i < ns.length) : ∃ v, atI (iL ns) i = some (.int v) ∧ ns[i.toNat]? = some v ∧ v ∈ ns := by
 have hl : i.toNat < ns.length := by lia
 refine ⟨ns[i.toNat], ?_, by simp [hl], List.getElem_mem hl⟩
 have := atI_nat (xs := iL ns) (j := i.toNat) (v := .int ns[i.toNat]) (by simp [iL, hl])
 rwa [Int.toNat_of_nonneg h0] at this
theorem i_ixL {p : Addr} {ns : List Int} {i : Int} (h : SqL K H p (iL ns)) (h0 : 0 ≤ i) (h1 : i < ns.length) (q : ∀ v, ns[i.toNat]? = some v → v ∈ ns → Q (.int v) H) : rIxP K (.ref p) (.int i) H Q := by
 obtain ⟨v, e1, e2, e3⟩ := atI_ints h0 h1
 exact .inl ⟨p, _, i, _, rfl, rfl, h, e1, q v e2 e3⟩
theorem i_ixN {p : Addr} {xs : List V} {i : Int} {v : V} (h : SqL K H p xs) (h0 : 0 ≤ i) (e : xs[i.toNat]? = some v) (q : Q v H) : rIxP K (.ref p) (.int i) H Q := by
 have := atI_nat (xs := xs) (j := i.toNat) (v := v) e
 rw [Int.toNat_of_nonneg h0] at this
 exact .inl ⟨p, _, i, _, rfl, rfl, h, this, q⟩
theorem i_ixT {p : Addr} {xs : List V} {i : Int} {v : V} (h : SqT K H p xs) (h0 : 0 ≤ i) (e : xs[i.toNat]? = some v) (q : Q v H) : rIxP K (.ref p) (.int i) H Q := by
 have := atI_nat (xs := xs) (j := i.toNat) (v := v) e
 rw [Int.toNat_of_nonneg h0] at this
 exact .inr ⟨p, _, i, _, rfl, rfl, h, this, q⟩
end
def Callee (P : Program) (w : World) (K : PySem.W.Frag) (mg : Str → Option Value) (base : Heap) (x : Str) (k : Nat) (sp : Sp) : Prop :=
 ∃ f fd ps, FnOk P w K mg base CX0 k f fd ps sp ∧ mg x = some (.ref f) ∧ PySem.W.keepIn K (.ref f) = true ∧ Binds K fd ps []
def Def (K : PySem.W.Frag) (mg : Str → Option Value) (x : Str) (st : Stmt) : Prop := ∃ f fd, Fun K x x st f fd ∧ mg x = some (.ref f)
section
variable {X : Cx} {x : Str} {k : Nat} {sp : Sp} {e : Expr} {es : List Expr} {t : TA} {p pos : Pos}
theorem pe_callN (C : Callee X.prog X.w X.K X.mg X.base x k sp) (hr : Room k X.A) (hg : Gl X x) (ha : PA X (e :: es) t)
 (he : starEach (e :: es) X.env = (false, eval e X.env) :: starEach es X.env := by rfl) (hpl : (backTo pos (starEach es X.env)).any (·.1) = false := by rfl)
 (hdb : (x == ("__debug__" : Str)) = false := by decide) : PE X (.Call (.Name x p) (e :: es) [] pos) (tCall sp [] E0 t) := by
 obtain ⟨f, fd, ps, F, hm, hk, hb⟩ := C
 exact pe_call F hr hg hm hk hb .nil pass0 ha (hdb := hdb) (he := he) (hpl := hpl)
def rTru (K : PySem.W.Frag) (x : V) (H : Hp) (Q : Bool → Hp → Prop) : Prop := ∃ k, TruV K x H k ∧ Q k H
def tTru (K : PySem.W.Frag) (ta : TE) : TT := fun σ H Q => ta σ H fun x H' => rTru K x H' Q
theorem pt_truthN {a : Expr} {ta : TE} (ha : PE X a ta) (he : ∀ whole, isTrue a X.env whole = (do let v ← whole; standAt a.pos; holding [v] (truthy v))) :
 PT X a (tTru X.K ta) := pt_truth ha he
end
theorem Def.ok {P : Program} {w : World} {K : PySem.W.Frag} {mg : Str → Option Value} {base : Heap} {x : Str} {st : Stmt} {N ps : List Str} {k : Nat} {sp : Sp} (D : Def K mg x st) (S : FnScope N ps (defScope st))
 (bd : ∀ (kV doc pm : Value) (an : Option Addr) (cdv ct : Value) (us : List Value), us.length = ps.length → bindArgs (PySem.W.fnOf x x (defArgs st) (defBody st) (defScope st) .none kV doc pm an cdv ct) ⟨us, []⟩ = pure (ps.zip us))
 (len : ∀ vs H Q E, sp vs H Q E → vs.length = ps.length)
 (hbody : ∀ (f : Addr) (cdv : Value) (A : Around) (outer : List Env) (s : Shared) (H : Hp) (vs : List V) (Q : VK) (E : XK), Room k (A.deeper (envOfC x (defScope st) s.heap.objs.size f cdv)) → sp vs H Q E →
  ∃ t, PSs (cxOf CX0 P w K mg base N x (defScope st) f cdv A outer s H E).nox (defBody st) t ∧ t { nx := fun _ H' => Q .non H', rt := Q } (start N vs) H) : Callee P w K mg base x (k + 1) sp := by
 obtain ⟨f, fd, F, hm⟩ := D
 exact ⟨f, fd, ps, F.ok S len fun cdv A outer s H vs Q E hr h => hbody f cdv A outer s H vs Q E hr h, hm, F.kp, F.binds bd⟩
def rLen (K : PySem.W.Frag) : List V → Hp → VK → Prop := fun xs H Q => ∃ x n, xs = [x] ∧ LenV K x H n ∧ Q (.int n) H
def rIsi (K : PySem.W.Frag) : List V → Hp → VK → Prop := fun xs H Q => ∃ x t n b, xs = [x, .ty n] ∧ TyOf K H x t ∧ PySem.W.kitOne K t (.type n) = some b ∧ Q (.bl b) H
def rIntOf : List V → Hp → VK → Prop := fun xs H Q => (∃ i, xs = [.int i] ∧ Q (.int i) H) ∨ ∃ k, xs = [.bl k] ∧ Q (.int (if k then 1 else 0)) H
def rAbs : List V → Hp → VK → Prop := fun xs H Q => ∃ i, xs = [.int i] ∧ Q (.int (if i < 0 then -i else i)) H
def rListOf (K : PySem.W.Frag) : List V → Hp → VK → Prop := fun xs H Q => ∃ p ys, xs = [.ref p] ∧ (SqL K H p ys ∨ SqT K H p ys) ∧ ∀ l, H l = none → Q (.ref l) (upd H l (.lst ys))
section
variable {X : Cx}
theorem call_lenN : CallR X (.builtin "len") (rLen X.K) := call_len
theorem call_intN : CallR X (.type "int") rIntOf := call_int1
theorem call_listN : CallR X (.type "list") (rListOf X.K) := call_list_of
theorem call_isinstanceN : CallR X (.builtin "isinstance") (rIsi X.K) := by
 intro pins s σ H xs us Q I r h
 obtain ⟨x, t, n, b, rfl, ty, e, q⟩ := h
 obtain ⟨u, c, rfl, rx, rc⟩ := vals2 r
 cases (show c = Value.type n from rc)
 exact isinst_ok I rx ty e fun tk => ⟨.bl b, H, I.tok tk, rfl, q⟩
end
section
variable {K : PySem.W.Frag} {σ : St} {H : Hp} {Q : VK}
theorem i_len {p : Addr} {xs : List V} (h : SqL K H p xs) (q : Q (.int xs.length) H) : rLen K [.ref p] H Q := ⟨_, _, rfl, .inl ⟨xs, h, rfl⟩, q⟩
theorem i_lenI {p : Addr} {ns : List Int} (h : SqL K H p (iL ns)) (q : Q (.int ns.length) H) : rLen K [.ref p] H Q := ⟨_, _, rfl, .inl ⟨_, h, rfl⟩, by simpa [iL] using q⟩
theorem i_intB {k : Bool} (q : Q (.int (if k then 1 else 0)) H) : rIntOf [.bl k] H Q := .inr ⟨k, rfl, q⟩
theorem i_abs {i : Int} (q : Q (.int (if i < 0 then -i else i)) H) : rAbs [.int i] H Q := ⟨i, rfl, q⟩
theorem i_listL {p : Addr} {ys : List V} (h : SqL K H p ys) (q : ∀ l, H l = none → Q (.ref l) (upd H l (.lst ys))) : rListOf K [.ref p] H Q := ⟨p, ys, rfl, .inl h, q⟩
theorem isi_ii : PySem.W.kitOne K (.type "int") (.type "int") = some true := by kernel_rfl
theorem isi_ib : PySem.W.kitOne K (.type "int") (.type "bool") = some false := by kernel_rfl
theorem isi_ll : PySem.W.kitOne K (.type "list") (.type "list") = some true := by kernel_rfl
theorem isi_il : PySem.W.kitOne K (.type "int") (.type "list") = some false := by kernel_rfl
theorem isi_id : PySem.W.kitOne K (.type "int") (.type "dict") = some false := by kernel_rfl
theorem isi_it : PySem.W.kitOne K (.type "int") (.type "tuple") = some false := by kernel_rfl
theorem isi_bb : PySem.W.kitOne K (.type "bool") (.type "bool") = some true := by kernel_rfl
theorem i_isiII {i : Int} (q : Q (.bl true) H) : rIsi K [.int i, .ty "int"] H Q := ⟨_, _, _, true, rfl, .int i, isi_ii, q⟩
theorem i_isiIB {i : Int} (q : Q (.bl false) H) : rIsi K [.int i, .ty "bool"] H Q := ⟨_, _, _, false, rfl, .int i, isi_ib, q⟩
theorem i_isiIL {i : Int} (q : Q (.bl false) H) : rIsi K [.int i, .ty "list"] H Q := ⟨_, _, _, false, rfl, .int i, isi_il, q⟩
theorem i_isiID {i : Int} (q : Q (.bl false) H) : rIsi K [.int i, .ty "dict"] H Q := ⟨_, _, _, false, rfl, .int i, isi_id, q⟩
theorem i_isiIT {i : Int} (q : Q (.bl false) H) : rIsi K [.int i, .ty "tuple"] H Q := ⟨_, _, _, false, rfl, .int i, isi_it, q⟩
theorem i_isiBB {b : Bool} (q : Q (.bl true) H) : rIsi K [.bl b, .ty "bool"] H Q := ⟨_, _, _, true, rfl, .bl b, isi_bb, q⟩
theorem i_isiLL {a : Addr} {xs : List V} (h : H a = some (.lst xs)) (q : Q (.bl true) H) : rIsi K [.ref a, .ty "list"] H Q := ⟨_, _, _, true, rfl, .lst h, isi_ll, q⟩
end
theorem i_if {p : Prop} [Decidable p] {A B : Prop} (h1 : p → A) (h2 : ¬ p → B) : if decide p = true then A else B := by
 by_cases h : p
 ·rw [decide_eq_true h]; exact iteT (h1 h)
 ·rw [decide_eq_false h]; exact iteF (h2 h)
theorem i_ifn {p : Prop} [Decidable p] {A B : Prop} (h1 : ¬ p → A) (h2 : p → B) : if (!decide p) = true then A else B := by
 by_cases h : p
 ·rw [decide_eq_true h]; exact iteF (h2 h)
 ·rw [decide_eq_false h]; exact iteT (h1 h)
theorem i_ifb {b : Bool} {A B : Prop} (h1 : b = true → A) (h2 : b = false → B) : if b = true then A else B := by
 cases b
 ·exact iteF (h2 rfl)
 ·exact iteT (h1 rfl)
theorem iteNT {A B : Prop} (h : B) : if (!true) = true then A else B := iteF h
theorem iteNF {A B : Prop} (h : A) : if (!false) = true then A else B := iteT h
theorem szl {n : Nat} (h : n ≤ 100000) : n ≤ sizeLine := Nat.le_trans h (by rw [sizeLine_eq]; decide)
theorem szlt {n : Nat} (h : n ≤ 100000) : n < sizeLine := Nat.lt_of_le_of_lt h (by rw [sizeLine_eq]; decide)
theorem same_upd {H : Hp} {l : Addr} {o : HO} (h : H l = none) : Same H (upd H l o) := fun b u e => by rw [upd_ne (ne_of_none e h)]; exact e
def SameBut (l : Addr) (H H' : Hp) : Prop := ∀ b o, b ≠ l → H b = some o → H' b = some o
theorem cmul_l {i j : Int} (h1 : -(2 ^ 64) < i) (h2 : i < 2 ^ 64) : CMul i j := .inl ⟨h1, h2⟩
theorem cmul_r {i j : Int} (h1 : -(2 ^ 64) < j) (h2 : j < 2 ^ 64) : CMul i j := .inr ⟨h1, h2⟩
end L2
namespace L2
open PySem PySem.Spec PyProof.Rows
theorem bt_int : bootBuiltins "int" = some (.type "int") := by first | exact PySem.boot_int | exact PySem.Pv.boot_int | exact PyProof.Rows.boot_int
theorem bt_bool : bootBuiltins "bool" = some (.type "bool") := by first | exact PySem.boot_bool | exact PySem.Pv.boot_bool | exact PyProof.Rows.boot_bool
theorem bt_list : bootBuiltins "list" = some (.type "list") := by first | exact PySem.boot_list | exact PySem.Pv.boot_list | exact PyProof.Rows.boot_list
theorem bt_tuple : bootBuiltins "tuple" = some (.type "tuple") := by first | exact PySem.boot_tuple | exact PySem.Pv.boot_tuple | exact PyProof.Rows.boot_tuple
theorem bt_dict : bootBuiltins "dict" = some (.type "dict") := by first | exact PySem.boot_dict | exact PySem.Pv.boot_dict | exact PyProof.Rows.boot_dict
theorem bt_str : bootBuiltins "str" = some (.type "str") := by first | exact PySem.boot_str | exact PySem.Pv.boot_str | exact PyProof.Rows.boot_str
theorem bt_isinstance : bootBuiltins "isinstance" = some (.builtin "isinstance") := by first | exact PySem.boot_isinstance | exact PySem.Pv.boot_isinstance | exact PyProof.Rows.boot_isinstance
theorem bt_min : bootBuiltins "min" = some (.builtin "min") := by first | exact PySem.boot_min | exact PySem.Pv.boot_min | exact PyProof.Rows.boot_min
theorem bt_sum : bootBuiltins "sum" = some (.builtin "sum") := by first | exact PySem.boot_sum | exact PySem.Pv.boot_sum | exact PyProof.Rows.boot_sum
theorem bt_sorted : bootBuiltins "sorted" = some (.builtin "sorted") := by first | exact PySem.boot_sorted | exact PySem.Pv.boot_sorted | exact PyProof.Rows.boot_sorted
theorem bt_len : bootBuiltins "len" = some (.builtin "len") := by first | exact PySem.boot_len | exact PySem.Pv.boot_len | exact PyProof.Rows.boot_len
section
variable {X : Cx} {pos p1 p2 : Pos} {k1 k2 : Nat}
theorem pe_powK {i j r : Int} (h : 0 ≤ j ∧ j ≤ 1000000 ∧ i.natAbs < 2 ^ 64 ∧ i ^ j.toNat = r) : PE X (.BinOp (.Constant (.int i) k1 p1) .Pow (.Constant (.int j) k2 p2) pos) (tC (.int r)) := by
 intro pins s σ H Q I q
 refine pe_op op_pow pe_int pe_int pins s σ H Q I ?_
 exact ⟨i, j, rfl, rfl, ⟨h.1, h.2.1, h.2.2.1⟩, by have e := h.2.2.2; subst e; exact q⟩
theorem pe_negK {i r : Int} (h : -i = r) : PE X (.UnaryOp .USub (.Constant (.int i) k1 p1) pos) (tC (.int r)) := by
 intro pins s σ H Q I q
 refine pe_un un_neg pe_int pins s σ H Q I ?_
 exact ⟨i, rfl, by subst h; exact q⟩
end
section
variable {K : PySem.W.Frag} {σ : St} {H : Hp} {Q : VK} {i j : Int}
theorem i_div (h0 : 0 < j) (h1 : j < 1073741824) (q : Q (.int (i / j)) H) : rI CDiv (fun i j => .int (i / j)) (.int i) (.int j) H Q := ⟨i, j, rfl, rfl, ⟨h0, h1⟩, q⟩
theorem i_mod (h0 : 0 < j) (q : Q (.int (i % j)) H) : rI (fun _ j => 0 < j) (fun i j => .int (i % j)) (.int i) (.int j) H Q := ⟨i, j, rfl, rfl, h0, q⟩
theorem i_app {l : Addr} {xs : List V} {y : V} (h : H l = some (.lst xs)) (hl : xs.length < sizeLine) (q : Q .non (upd H l (.lst (xs ++ [y])))) : rAppend (.ref l) [y] H Q := ⟨l, xs, y, rfl, rfl, h, hl, q⟩
end
end L2
namespace L2
open PySem PySem.Spec PyProof.Rows
def LoopI (J : It) (g : TG) (tb : TS) (D : Ends) (σ : St) (H1 : Hp) : Prop := ∃ W : Nat → Nat → St → Hp → Prop, (∃ m, W 0 m σ H1) ∧ ∀ i m σ H, W i m σ H →
 (J.stop i H ∧ D.nx σ H) ∨ (J.go i H ∧ ∃ N : St → Hp → Prop, (∀ σ' H', N σ' H' → ∃ m', m' < m ∧ W (i + 1) m' σ' H') ∧ ∀ x H', J.yld i H x H' → g x σ H' fun σ2 H2 => tb { D with nx := N, ct := N, bk := D.nx } σ2 H2)
theorem tFor_eq (wi : TI) (g : TG) (tb : TS) : tFor wi g tb = fun D σ H => wi σ H fun J H1 => LoopI J g tb D σ H1 := rfl
theorem lp_list {K : PySem.W.Frag} {a : Addr} {xs : List V} {g : TG} {tb : TS} {D : Ends} {σ : St} {H : Hp} (Pv : Nat → St → Hp → Prop) (h0 : Pv 0 σ H) (hl : ∀ i σ H, i ≤ xs.length → Pv i σ H → SqL K H a xs)
 (hs : ∀ i x σ H, xs[i]? = some x → Pv i σ H → g x σ H fun σ2 H2 => tb { D with nx := Pv (i + 1), ct := Pv (i + 1), bk := D.nx } σ2 H2) (hd : ∀ σ H, Pv xs.length σ H → D.nx σ H) : LoopI (Itl K a) g tb D σ H := for_list Pv h0 hl hs hd
theorem lp_ints {K : PySem.W.Frag} {a : Addr} {ns : List Int} {g : TG} {tb : TS} {D : Ends} {σ : St} {H : Hp} (Pv : Nat → St → Hp → Prop) (h0 : Pv 0 σ H) (hl : ∀ i σ H, i ≤ ns.length → Pv i σ H → SqL K H a (iL ns))
 (hs : ∀ i x σ H, ns[i]? = some x → Pv i σ H → g (.int x) σ H fun σ2 H2 => tb { D with nx := Pv (i + 1), ct := Pv (i + 1), bk := D.nx } σ2 H2) (hd : ∀ σ H, Pv ns.length σ H → D.nx σ H) : LoopI (Itl K a) g tb D σ H := by
 have e : (iL ns).length = ns.length := by simp [iL]
 refine for_list (xs := iL ns) Pv h0 (fun i σ H h p => hl i σ H (by rw [e] at h; exact h) p) (fun i x σ H hx p => ?_) (fun σ H p => hd σ H (by rw [e] at p; exact p))
 walk_at "z11"
 cases q : ns[i]? with
 | none => rw [q] at hx; cases hx
 | some z =>
   rw [q] at hx
   cases hx
   exact hs i z σ H q p
theorem lp_range {lo : Int} {n : Nat} {g : TG} {tb : TS} {D : Ends} {σ : St} {H : Hp} (Pv : Nat → St → Hp → Prop) (h0 : Pv 0 σ H)
 (hs : ∀ i σ H, i < n → Pv i σ H → g (.int (lo + i)) σ H fun σ2 H2 => tb { D with nx := Pv (i + 1), ct := Pv (i + 1), bk := D.nx } σ2 H2) (hd : ∀ σ H, Pv n σ H → D.nx σ H) : LoopI (Itr lo n) g tb D σ H := for_range Pv h0 hs hd
theorem i_truB {K : PySem.W.Frag} {b : Bool} {H : Hp} {Q : Bool → Hp → Prop} (q : Q b H) : rTru K (.bl b) H Q := ⟨b, rfl, q⟩
end L2
namespace L2
open PySem PySem.Spec PyProof.Rows
def rMenu (xs : List V) (y : V) (H : Hp) (Q : VK) : Prop := ∃ i v, y = .int i ∧ atI xs i = some v ∧ Q v H
def tMenu (t : TA) (ti : TE) : TE := fun σ H Q => t σ H fun xs H1 => xs.length ≤ sizeLine ∧ ti σ H1 fun y H2 => rMenu xs y H2 Q
section
variable {X : Cx} {es : List Expr} {b : Expr} {t : TA} {tb : TE} {p1 pos : Pos}
theorem item_raw {X : Cx} {value slice : Expr} {pins : List (Addr × Obj)} {s : Shared} {σ : St} {H : Hp} {p : Addr} {its : List Value} {xs : List V} {i : Int} {tk : Tok} {z : V} {Q : VK} (I : Inv X pins σ H s) (r : Vals xs its) (hz : xs.length ≤ sizeLine)
 (pl : s.heap.IsList p its.toArray) (he : atI xs i = some z) (q : Q z H) (hs : subscripted slice false (.ref p) (.int i tk) = operate [.ref p, .int i tk] (getItem (.ref p) (.int i tk))) :
 wpAny (model X.prog X.w) X.A (subscriptTail value slice (.ref p) (.int i tk)) (EP X pins σ Q) X.xe s := by
 obtain ⟨j, h1, h2, h3, h4, h5⟩ := atI_get he
 obtain ⟨w, ew, rw'⟩ := r.get h2
 have hl := r.length
 have hn := line63
 have fin : EP X pins σ Q w s := ⟨z, H, I, rw', q⟩
 by_cases h0 : 0 ≤ i
 ·have hj : i.toNat = j := by
   rw [seqIndex_of h0 h5] at h1
   exact Option.some.inj h1
  exact item_listR pl h0 (by lia) (by rw [hj]; simpa using ew) fin hs
 ·have hj : (i + (its.toArray.size : Int)).toNat = j := by
   rw [seqIndex_neg (by lia) h4] at h1
   rw [List.size_toArray, ← hl]
   exact Option.some.inj h1
  exact subscriptTail_builtinR (x := w) pl.typeIs slot_list_getitem.lookup
   (wpAny_getItem_list_neg (Q := fun r s' => r = w ∧ EP X pins σ Q r s') pl (by lia) (by rw [List.size_toArray] <;> lia) (by lia) (by rw [hj]; simpa using ew) ⟨rfl, fin⟩) hs
theorem pe_menu (h : PA X es t) (hb : PE X b tb) (hs : PlainIx b) : PE X (.Subscript (.List es p1) b pos) (tMenu t tb) := by
 intro pins s σ H Q I hq
 refine Subscript_ (wpAny_List_spliced (thn (h p1 pins s σ H _ I hq) fun us s1 ⟨xs, H1, I1, r, z, q⟩ => ⟨by rw [← r.length]; exact z, ?_⟩))
 have hf : H1 s1.heap.objs.size = none := I1.hok.fresh (Nat.le_refl _)
 have I2 := I1.kept (t' := s1.toks) (h' := s1.heap.push { cls := .type "list", data := .seq us.toArray 0 }) (fun b u e => Heap.get?_push_of_some _ e)
 have I3 := I2.pins_of (pins' := pins ++ [(s1.heap.objs.size, { cls := .type "list", data := .seq us.toArray 0 })]) (fun p hp => by
  rcases List.mem_append.mp hp with hp | hp
  ·exact I2.pin p (List.mem_append_right _ hp)
  ·have e : p = (s1.heap.objs.size, ({ cls := .type "list", data := .seq us.toArray 0 } : Obj)) := by simpa using hp
   subst e
   refine ⟨Heap.get?_push_size _ rfl, hf, Nat.ne_of_gt I1.lt, I1.nofs (Nat.le_refl _), fun v e => ?_⟩
   have e' : Data.seq us.toArray 0 = Data.cell v := e
   cases e')
 refine thn (hb _ _ σ H1 _ I3 q) fun u s2 ⟨y, H2, I4, r4, i, v, hy, hv, qq⟩ => ?_
 subst hy
 obtain ⟨tk, rfl⟩ := r4
 have pn := (I4.pin (s1.heap.objs.size, { cls := .type "list", data := .seq us.toArray 0 }) (by simp)).1
 exact item_raw I4.unpinned r z ⟨_, pn, rfl, _, rfl⟩ hv qq (hs _ _)
end
section
variable {H : Hp} {Q : VK} {i : Int}
theorem i_menu {xs : List V} (h0 : 0 ≤ i) (h1 : i < xs.length) (q : ∀ v, xs[i.toNat]? = some v → Q v H) : rMenu xs (.int i) H Q := by
 have hl : i.toNat < xs.length := by lia
 have := atI_nat (xs := xs) (j := i.toNat) (v := xs[i.toNat]) (by simp [hl])
 rw [Int.toNat_of_nonneg h0] at this
 exact ⟨i, _, rfl, this, q _ (by simp [hl])⟩
theorem i_menu3 {xa xb xc : Int} (h0 : 0 ≤ i) (h1 : i < 3) (q : ∀ z, (i = 0 ∧ z = xa) ∨ (i = 1 ∧ z = xb) ∨ (i = 2 ∧ z = xc) → Q (.int z) H) : rMenu [.int xa, .int xb, .int xc] (.int i) H Q := by
 have hi : i = 0 ∨ i = 1 ∨ i = 2 := by lia
 rcases hi with h | h | h
 ·subst h; exact ⟨0, _, rfl, rfl, q _ (by simp)⟩
 ·subst h; exact ⟨1, _, rfl, rfl, q _ (by simp)⟩
 ·subst h; exact ⟨2, _, rfl, rfl, q _ (by simp)⟩
theorem i_menu4 {xa xb xc xd : Int} (h0 : 0 ≤ i) (h1 : i < 4) (q : ∀ z, (i = 0 ∧ z = xa) ∨ (i = 1 ∧ z = xb) ∨ (i = 2 ∧ z = xc) ∨ (i = 3 ∧ z = xd) → Q (.int z) H) : rMenu [.int xa, .int xb, .int xc, .int xd] (.int i) H Q := by
 have hi : i = 0 ∨ i = 1 ∨ i = 2 ∨ i = 3 := by lia
 rcases hi with h | h | h | h
 ·subst h; exact ⟨0, _, rfl, rfl, q _ (by simp)⟩
 ·subst h; exact ⟨1, _, rfl, rfl, q _ (by simp)⟩
 ·subst h; exact ⟨2, _, rfl, rfl, q _ (by simp)⟩
 ·subst h; exact ⟨3, _, rfl, rfl, q _ (by simp)⟩
end
theorem cxOf_K (CX : CXT) (P : Program) (w : World) (K : PySem.W.Frag) (mg : Str → Option Value) (base : Heap) (N : List Str) (qual : Str) (scope : Scope) (f : Addr) (cd : Value) (A : Around) (outer : List Env) (s : Shared) (H : Hp) (E : XK) : (cxOf CX P w K mg base N qual scope f cd A outer s H E).K = K := rfl
end L2
namespace L2
open PySem PySem.Spec PyProof.Rows
def tJoin (t u : TS) : TS := fun D σ H => ∃ Pj : St → Hp → Prop, t { D with nx := Pj } σ H ∧ ∀ σ' H', Pj σ' H' → u D σ' H'
theorem pss_join {X : Cx} {st : Stmt} {rest : List Stmt} {t u : TS} (h1 : PS X st t) (h2 : PSs X rest u) : PSs X (st :: rest) (tJoin t u) := by
 intro pins s σ H D I h
 obtain ⟨Pj, ht, hu⟩ := h
 refine wpAny_execs_cons (thn (h1 pins s σ H _ I ht) fun f s1 q => ?_)
 cases f with
 | next =>
   obtain ⟨σ1, H1, I1, q1⟩ := q
   exact h2 pins s1 σ1 H1 D I1 (hu _ _ q1)
 | brk => exact q
 | cont => exact q
 | ret u => exact q
end L2
namespace L2
open PySem PySem.Spec PyProof.Rows
theorem take_min {α : Type} (xs : List α) (k : Nat) : xs.take (min k xs.length) = xs.take k := by
 by_cases h : k ≤ xs.length
 ·rw [Nat.min_eq_left h]
 ·rw [Nat.min_eq_right (by lia), List.take_of_length_le (by lia), List.take_of_length_le (by lia)]
theorem sIx_pos (n d : Nat) {b : Int} (h : 0 ≤ b) : HT.sIx n d (some b) = min b.toNat n := by
 have := HT.sIx_nat n d b.toNat
 rwa [Int.toNat_of_nonneg h] at this
theorem cut_to {xs : List V} {b : Int} (h : 0 ≤ b) : cutV xs none (some b) = xs.take b.toNat := by
 unfold cutV
 rw [HT.sIx_none, sIx_pos _ _ h, Nat.sub_zero, List.drop_zero, take_min]
section
variable {K : PySem.W.Frag} {H : Hp} {Q : VK} {a : Addr} {ns : List Int}
end
end L2
namespace L2
open PySem PySem.Spec PyProof.Rows
theorem Inv.track {X : Cx} {pins : List (Addr × Obj)} {σ : St} {H : Hp} {s : Shared} {D : Addr} {o : HO} (I : Inv X pins σ H s) (hn : H D = none) (hL : D ≠ X.env.locals) (h1 : X.s₀.heap.objs.size ≤ D)
 (h2 : ∀ x c, X.env.cells.lookup x = some c → c ≠ D) (h3 : ∀ p ∈ X.pn ++ pins, p.1 ≠ D) (new : ObjOk X.prog X.w (upd H D o) s.heap D o) : Inv X pins σ (upd H D o) s := by
 have up : ∀ b u, H b = some u → upd H D o b = some u := fun b u e => by rw [upd_ne (ne_of_none e hn)]; exact e
 have un : ∀ b, b ≠ D → H b = none → upd H D o b = none := fun b hb e => by rw [upd_ne hb]; exact e
 refine ⟨I.ok, I.os, I.bare, ⟨I.base.keep, I.base.slot, fun b ob e n hx => un b (Nat.ne_of_lt (Nat.lt_of_lt_of_le (Heap.lt_size e) h1)) (I.base.free b ob e n hx), I.base.there, fun b xs e => up _ _ (I.base.tups b xs e), fun b ob u e => up _ _ (I.base.frzs b ob u e), fun b ps e => ?_⟩,
  I.loc, I.cell, un _ (Ne.symm hL) I.free, fun x c e => un _ (h2 x c e) (I.freeC x c e), fun p hp => ?_, fun b u e => ?_, I.len⟩
 ·obtain ⟨m, e'⟩ := I.base.tbls b ps e
  exact ⟨m, up _ _ e'⟩
 ·obtain ⟨e, n, r⟩ := I.pin p hp
  exact ⟨e, un _ (h3 p hp) n, r⟩
 ·by_cases hb : b = D
  ·subst hb
   rw [upd_same] at e
   cases e
   exact new
  ·rw [upd_ne hb] at e
   exact (I.hok b u e).stay (fun _ _ _ q => q) (fun c q => up _ _ q) fun c xs q => up _ _ q
def clOf (env : Env) : List (Str × NameKind) → List (Str × Addr) → List (Str × Addr)
 | [], acc => acc
 | (n, k) :: r, acc => clOf env r (if (k == .free) = true then (n, (env.cells.lookup n).getD 0) :: acc else acc)
theorem closure_go {env : Env} : ∀ (names : List (Str × NameKind)) (acc : List (Str × Addr)), (∀ y ∈ names, y.2 = .free → ∃ c, env.cells.lookup y.1 = some c) →
 (forIn names acc fun (x : Str × NameKind) (r : List (Str × Addr)) => match x with
  | (name, kind) => if (kind == .free) = true then do
   let a ← cellOf env name
   pure (ForInStep.yield ((name, a) :: r))
   else pure (ForInStep.yield r) : Sem (List (Str × Addr))) = pure (clOf env names acc)
 | [], acc, _ => rfl
 | (n, k) :: r, acc, h => by
   rw [List.forIn_cons, clOf]
   by_cases hk : (k == NameKind.free) = true
   ·obtain ⟨c, hc⟩ := h (n, k) (List.mem_cons_self) (by simpa using hk)
    have hc' : env.cells.lookup n = some c := hc
    simp only [hk, if_true, cellOf, hc', Option.getD_some]
    exact closure_go r _ fun y hy => h y (List.mem_cons_of_mem _ hy)
   ·simp only [hk, Bool.false_eq_true, if_false]
    exact closure_go r _ fun y hy => h y (List.mem_cons_of_mem _ hy)
theorem closure_eq {env : Env} {scope : Scope} (h : ∀ y ∈ scope.names, y.2 = .free → ∃ c, env.cells.lookup y.1 = some c) : closureFor scope env = pure (clOf env scope.names []) := by
 have q := closure_go scope.names [] h
 unfold closureFor
 exact (congrArg (fun z => z >>= fun r => pure r) q).trans rfl
theorem clOf_get {env : Env} {x : Str} {c : Addr} : ∀ (names : List (Str × NameKind)) (acc : List (Str × Addr)), (∀ y ∈ names, y.2 = .free → ∃ c, env.cells.lookup y.1 = some c) → (∀ x c, acc.lookup x = some c → env.cells.lookup x = some c) →
 (clOf env names acc).lookup x = some c → env.cells.lookup x = some c
 | [], acc, _, ha, e => ha x c e
 | (n, k) :: r, acc, h, ha, e => by
   rw [clOf] at e
   refine clOf_get r _ (fun y hy => h y (List.mem_cons_of_mem _ hy)) ?_ e
   intro y d hd
   by_cases hk : (k == NameKind.free) = true
   ·rw [if_pos hk] at hd
    obtain ⟨c', hc⟩ := h (n, k) List.mem_cons_self (by simpa using hk)
    have hc' : env.cells.lookup n = some c' := hc
    rw [List.lookup_cons] at hd
    cases hy : y == n with
    | true =>
      rw [hy] at hd
      have e1 : y = n := by simpa using hy
      subst e1
      rw [hc'] at hd ⊢
      exact hd
    | false =>
      rw [hy] at hd
      exact ha y d hd
   ·rw [if_neg hk] at hd
    exact ha y d hd
theorem clOf_has {env : Env} {x : Str} : ∀ (names : List (Str × NameKind)) (acc : List (Str × Addr)), ((x, NameKind.free) ∈ names ∨ ∃ c, acc.lookup x = some c) → ∃ c, (clOf env names acc).lookup x = some c
 | [], acc, h => by
   rcases h with h | h
   ·exact absurd h (by simp)
   ·exact h
 | (n, k) :: r, acc, h => by
   rw [clOf]
   refine clOf_has r _ ?_
   rcases h with h | ⟨c, h⟩
   ·rcases List.mem_cons.mp h with e | e
    ·cases e
     exact .inr ⟨_, by rw [if_pos (by rfl), List.lookup_cons, beq_self_eq_true]⟩
    ·exact .inl e
   ·refine .inr ?_
    by_cases hk : (k == NameKind.free) = true
    ·rw [if_pos hk, List.lookup_cons]
     cases x == n with
     | true => exact ⟨_, rfl⟩
     | false => exact ⟨c, h⟩
    ·rw [if_neg hk]; exact ⟨c, h⟩
theorem relabel_get {scope : Scope} {env : Env} {x : Str} {k : NameKind} (h : (relabel scope env).names.lookup x = some k) : (x, k) ∈ scope.names ∨ (k = .cell ∧ (x, NameKind.free) ∈ scope.names) := by
 have m := PySem.mem_of_lookup h
 unfold relabel at m
 obtain ⟨⟨n, k0⟩, hm, e⟩ := List.mem_map.mp m
 dsimp only at e
 split at e
 ·rename_i hc
  cases e
  have : k0 = .free := by
   have := (Bool.and_eq_true _ _ ▸ (Bool.and_eq_true _ _ ▸ hc).1 : _ ∧ _).1
   simpa using this
  subst this
  exact .inr ⟨rfl, hm⟩
 ·cases e
  exact .inl hm
theorem relabel_freeN {env : Env} : ∀ {names : List (Str × NameKind)} {x : Str}, names.lookup x = some .free →
 (names.map fun (n, k) => if (k == NameKind.free && env.scope.kind == .function && env.kindOf n == some .cell) then (n, NameKind.cell) else (n, k)).lookup x = some .cell ∨
 (names.map fun (n, k) => if (k == NameKind.free && env.scope.kind == .function && env.kindOf n == some .cell) then (n, NameKind.cell) else (n, k)).lookup x = some .free
 | [], _, h => by simp at h
 | (n, k) :: r, x, h => by
   have ih := @relabel_freeN env r x
   show List.lookup x ((if (k == NameKind.free && env.scope.kind == .function && env.kindOf n == some .cell) = true then (n, NameKind.cell) else (n, k)) :: _) = _ ∨ List.lookup x ((if (k == NameKind.free && env.scope.kind == .function && env.kindOf n == some .cell) = true then (n, NameKind.cell) else (n, k)) :: _) = _
   cases hx : x == n with
   | true =>
     simp only [List.lookup_cons, hx] at h
     cases h
     by_cases hc : (NameKind.free == NameKind.free && env.scope.kind == .function && env.kindOf n == some .cell) = true
     ·rw [if_pos hc]; left; simp [List.lookup_cons, hx]
     ·rw [if_neg hc]; right; simp [List.lookup_cons, hx]
   | false =>
     simp only [List.lookup_cons, hx] at h
     by_cases hc : (k == NameKind.free && env.scope.kind == .function && env.kindOf n == some .cell) = true
     ·rw [if_pos hc]; simp only [List.lookup_cons, hx]; exact ih h
     ·rw [if_neg hc]; simp only [List.lookup_cons, hx]; exact ih h
theorem relabel_free {scope : Scope} {env : Env} {x : Str} (h : scope.names.lookup x = some .free) : (relabel scope env).names.lookup x = some .cell ∨ (relabel scope env).names.lookup x = some .free := relabel_freeN h
def cxC (X : Cx) (scope : Scope) (C : Addr) (N : List Str) (s₂ : Shared) (H₂ : Hp) (ex : List Addr) : Cx :=
 { X with N := N, s₀ := s₂, H₀ := H₂, env := compEnvC scope (clOf X.env scope.names []) C X.env, outer := X.stack, stack := X.stack, ex := ex, fn := fun _ => false, pn := [], xe := fun _ _ => False }
def FrOk (X : Cx) (scope : Scope) : List Str → List (Option Nat) → Prop
 | [], [] => True
 | _ :: N, none :: fr => FrOk X scope N fr
 | x :: N, some j :: fr => (X.N[j]? = some x ∧ (X.env.kindOf x = some .cell ∨ X.env.kindOf x = some .free) ∧ scope.names.lookup x = some .free) ∧ FrOk X scope N fr
 | _, _ => False
def stC (fr : List (Option Nat)) (σ : St) : St := fr.map fun o => o.bind fun j => (σ[j]?).join
structure CompOk (X : Cx) (scope : Scope) (N : List Str) (fr : List (Option Nat)) : Prop where
 kind : scope.kind = .function
 ncell : ∀ y ∈ scope.names, y.2 ≠ .cell
 names : ∀ y ∈ scope.names, y.2 = .local → scope.names.lookup y.1 = some .local
 frees : ∀ y ∈ scope.names, y.2 = .free → X.env.kindOf y.1 = some .cell ∨ X.env.kindOf y.1 = some .free
 fr : FrOk X scope N fr
theorem FrOk.len {X : Cx} {scope : Scope} : ∀ {N : List Str} {fr : List (Option Nat)}, FrOk X scope N fr → fr.length = N.length
 | [], [], _ => rfl
 | _ :: N, none :: fr, h => by simp [FrOk.len (N := N) (fr := fr) h]
 | _ :: N, some j :: fr, h => by simp [FrOk.len (N := N) (fr := fr) h.2]
 | [], _ :: _, h => h.elim
 | _ :: _, [], h => h.elim
theorem FrOk.get {X : Cx} {scope : Scope} : ∀ {N : List Str} {fr : List (Option Nat)} {i j : Nat} {x : Str}, FrOk X scope N fr → N[i]? = some x → fr[i]? = some (some j) → X.N[j]? = some x ∧ (X.env.kindOf x = some .cell ∨ X.env.kindOf x = some .free) ∧ scope.names.lookup x = some .free
 | [], _, i, j, x, h, e, _ => by simp at e
 | y :: N, [], _, _, _, h, _, _ => h.elim
 | y :: N, none :: fr, 0, j, x, h, e, e2 => by simp at e2
 | y :: N, none :: fr, i + 1, j, x, h, e, e2 => FrOk.get (N := N) (fr := fr) (i := i) h (by simpa using e) (by simpa using e2)
 | y :: N, some k :: fr, 0, j, x, h, e, e2 => by
   simp at e e2
   subst e e2
   exact h.1
 | y :: N, some k :: fr, i + 1, j, x, h, e, e2 => FrOk.get (N := N) (fr := fr) (i := i) h.2 (by simpa using e) (by simpa using e2)
theorem stC_get {fr : List (Option Nat)} {σ : St} {i : Nat} {v : V} (h : (stC fr σ)[i]? = some (some v)) : ∃ j, fr[i]? = some (some j) ∧ σ[j]? = some (some v) := by
 unfold stC at h
 rw [List.getElem?_map] at h
 cases e : fr[i]? with
 | none => rw [e] at h; cases h
 | some o =>
   rw [e] at h
   cases o with
   | none => cases h
   | some j =>
     refine ⟨j, rfl, ?_⟩
     have h' : (σ[j]?).join = some v := by simpa using h
     cases e2 : σ[j]? with
     | none => rw [e2] at h'; cases h'
     | some w => rw [e2] at h'; cases w with
       | none => cases h'
       | some z => cases h'; rfl
section
variable {X : Cx} {scope : Scope} {N : List Str} {fr : List (Option Nat)}
theorem CompOk.cells (c : CompOk X scope N fr) (ok : X.Ok) : ∀ y ∈ scope.names, y.2 = .free → ∃ c, X.env.cells.lookup y.1 = some c := fun y hy e => ok.has y.1 (c.frees y hy e)
theorem CompOk.get (c : CompOk X scope N fr) (ok : X.Ok) {x : Str} {a : Addr} (h : (clOf X.env scope.names []).lookup x = some a) : X.env.cells.lookup x = some a :=
 clOf_get scope.names [] (c.cells ok) (fun _ _ z => by simp at z) h
theorem comp_ok {pins : List (Addr × Obj)} {σ : St} {H : Hp} {s₂ : Shared} {C : Addr} {fp : List Addr} (c : CompOk X scope N fr) (I : Inv X pins σ H s₂) (hC : s₂.heap.objs.size ≤ C) (hfp : ∀ b ∈ fp, FpOk X pins H b ∧ b < s₂.heap.objs.size) :
 (cxC X scope C N s₂ H fp).Ok where
 mod := I.ok.mod
 kind := c.kind
 glob := I.ok.glob
 blt := I.ok.blt
 above := hC
 inj := fun x y a h1 h2 => I.ok.inj x y a (c.get I.ok h1) (c.get I.ok h2)
 has := fun x h => by
  have hm : (x, NameKind.free) ∈ scope.names := by
   rcases h with h | h
   ·rcases relabel_get h with z | ⟨_, z⟩
    ·exact absurd rfl (c.ncell _ z)
    ·exact z
   ·rcases relabel_get h with z | ⟨z, _⟩
    ·exact z
    ·cases z
  exact clOf_has scope.names [] (.inl hm)
 cab := fun x a h => by cases h
 hd := I.ok.hd
 frames := I.ok.frames
 stk := .inl rfl
 exf := fun b hb => ⟨Nat.ne_of_lt (Nat.lt_of_lt_of_le (hfp b hb).2 hC), fun x a h => (hfp b hb).1.2.2.2.2.1 x a (c.get I.ok h)⟩
 bs := I.bs
 bsz := Nat.le_trans I.ok.bsz I.sz
 noex := fun b o e hb => by
  rcases (hfp b hb).1.2.2.2.1 with z | z
  ·exact I.ok.noex b o e z
  ·have h1 : b < X.base.objs.size := Heap.lt_size e
   have h2 := I.ok.bsz
   exact absurd (Nat.lt_of_lt_of_le h1 (Nat.le_trans h2 z)) (Nat.lt_irrefl _)
 exfs := fun b hb z => by
  rcases List.mem_cons.mp (I.stkSub b z) with e | e
  ·exact (hfp b hb).1.2.1 e
  ·exact (hfp b hb).1.2.2.1 e
 funs := I.stack
 frf := I.stkFree
theorem comp_inv {pins : List (Addr × Obj)} {σ : St} {H : Hp} {s₂ : Shared} {C : Addr} {fp : List Addr} {h₄ : Heap} {tk : Nat} (c : CompOk X scope N fr) (I : Inv X pins σ H s₂) (hC : s₂.heap.objs.size ≤ C) (hfp : ∀ b ∈ fp, FpOk X pins H b ∧ b < s₂.heap.objs.size)
 (hk : ∀ b o, s₂.heap.get? b = some o → h₄.get? b = some o) (hn : h₄.Ns C fun _ => none) : Inv (cxC X scope C N s₂ H fp) [] (stC fr σ) H { s₂ with heap := h₄, toks := tk } := by
 refine ⟨comp_ok c I hC hfp, rfl, I.bare, Un.kept hk, ⟨_, hn, fun i x v e1 e2 e3 => ?_⟩, fun x a e => ?_, I.hok.fresh hC, fun x a e => I.freeC x a (c.get I.ok e), fun p hp => absurd (show p ∈ ([] : List (Addr × Obj)) from hp) (by simp), I.hok.kept hk, ?_⟩
 ·obtain ⟨j, f1, f2⟩ := stC_get e2
  obtain ⟨g1, g2, g3⟩ := c.fr.get e1 f1
  obtain ⟨m, hm, hl⟩ := I.loc
  have vis : Vis X.env.scope x := by
   rcases g2 with g | g
   ·exact .inr (.inl g)
   ·exact .inr (.inr g)
  obtain ⟨u, ru, lk⟩ := hl j x v g1 f2 vis
  refine ⟨u, ru, ?_⟩
  rcases lk with ⟨k, _⟩ | ⟨_, a, ea, o, ho, hd⟩
  ·rcases g2 with g | g <;> (rw [k] at g; cases g)
  ·obtain ⟨a', ea'⟩ := clOf_has (env := X.env) scope.names [] (.inl (PySem.mem_of_lookup g3))
   have e5 := c.get I.ok ea'
   rw [ea] at e5
   cases e5
   have kd : (cxC X scope C N s₂ H fp).env.kindOf x = some .cell ∨ (cxC X scope C N s₂ H fp).env.kindOf x = some .free := relabel_free g3
   exact .inr ⟨kd, a, ea', o, hk _ _ ho, hd⟩
 ·obtain ⟨v, o, ho, hd⟩ := I.cell x a (c.get I.ok e)
  exact ⟨v, o, hk _ _ ho, hd⟩
 ·unfold stC
  rw [List.length_map]
  exact c.fr.len
end
section
variable {prog : Program} {w : World} {A : Around} {E : Value → Shared → Prop} {R : Result → Shared → Prop} {s : Shared}
theorem compLoop_any {elt target iter : Expr} {ifs : List Expr} {scope : Scope} {pos : Pos} {it acc : Value} {env : Env} (I : Nat → Shared → Prop)
 (turn : ∀ n s, I n s → wpAny (model prog w) A (pyNext it) (fun r s₁ => match r with
  | none => R (.ok .next) s₁
  | some v => wpAny (model prog w) A (letOwnedTupleGo target it v) (fun _ s₀ => wpAny (model prog w) A (assign target env v) (fun _ s₂ =>
   wpAny (model prog w) A (forIn ifs true fun c r => if r = true then do let ok ← isTrue c env (eval c env); pure (ForInStep.yield ok) else pure (ForInStep.yield r)) (fun ok s₃ =>
    if ok = true then wpAny (model prog w) A (eval elt env) (fun x s₄ =>
     wpAny (model prog w) A (call (.builtin "list.append") [acc, x]) (fun _ s₅ => ∃ m, m < n ∧ I m s₅) (fun _ _ => False) s₄) (fun _ _ => False) s₃
    else ∃ m, m < n ∧ I m s₃) (fun _ _ => False) s₂) (fun _ _ => False) s₀) (fun _ _ => False) s₁) (fun _ _ => False) s)
 (n : Nat) (h : I n s) :
 codeAny (model prog w) A (.compLoop (.ListComp elt [⟨target, iter, ifs, 0⟩] scope pos) 0 it acc env) R s := by
 refine codeAny_loop rfl I (fun n s hI => ?_) n h
 show wpAny _ A ((compTurn (.ListComp elt [⟨target, iter, ifs, 0⟩] scope pos) 0 it acc env).onRaise (fun x => do noteFrame x env; theTreesLotGoes x)) _ _ s
 refine wpAny_noted ?_
 rw [compTurn_list]
 have nf : ∀ {α : Type} {m : Sem α} {Q : α → Shared → Prop} {F : Value → Shared → Prop} {s : Shared}, wpAny (model prog w) A m Q (fun _ _ => False) s → wpAny (model prog w) A m Q F s := fun h => wpAny_mono h (fun _ _ x => x) fun _ _ x => x.elim
 walk_at "z28"
 cases r with
 | none => exact wpAny_pure h₁
 | some v =>
   refine wpAny_bind (wpAny_mono (nf h₁) (fun _ s₀ h₀ => ?_) fun _ _ h' => h')
   walk_at "z20"
   cases ok with
   | false => exact wpAny_pure ⟨rfl, h₃⟩
   | true =>
     exact wpAny_bind (wpAny_bind (wpAny_mono (nf h₃) (fun x s₄ h₄ => wpAny_bind (wpAny_mono (nf h₄) (fun _ s₅ h₅ => wpAny_pure (wpAny_pure ⟨rfl, h₅⟩)) fun _ _ h' => h')) fun _ _ h' => h'))
end
def Wk (fr : List (Option Nat)) (σ σ2 : St) : Prop := σ2.length = σ.length ∧ ∀ (i j : Nat), fr[i]? = some (some j) → σ2[i]? = σ[i]?
theorem Wk.trans {fr : List (Option Nat)} {a b c : St} (h1 : Wk fr a b) (h2 : Wk fr b c) : Wk fr a c := ⟨h2.1.trans h1.1, fun i j e => (h2.2 i j e).trans (h1.2 i j e)⟩
def GW (fr : List (Option Nat)) (g : TG) : Prop := ∀ x σ H (Q Q' : St → Hp → Prop), (∀ σ2 H2, Wk fr σ σ2 → Q σ2 H2 → Q' σ2 H2) → g x σ H Q → g x σ H Q'
def GWs (fr : List (Option Nat)) (g : TGs) : Prop := ∀ x σ H (Q Q' : St → Hp → Prop), (∀ σ2 H2, Wk fr σ σ2 → Q σ2 H2 → Q' σ2 H2) → g x σ H Q → g x σ H Q'
theorem gw_name {fr : List (Option Nat)} {i : Nat} (h : fr[i]? = some none) : GW fr (gName i) := fun x σ H Q Q' k q => by
 refine k _ _ ⟨by simp, fun a j e => ?_⟩ q
 have : i ≠ a := fun z => by subst z; rw [h] at e; cases e
 rw [List.getElem?_set_ne this]
theorem gws_nil {fr : List (Option Nat)} : GWs fr gNil := fun x σ H Q Q' k q => ⟨q.1, k _ _ ⟨rfl, fun _ _ _ => rfl⟩ q.2⟩
theorem gws_cons {fr : List (Option Nat)} {t : TG} {u : TGs} (h1 : GW fr t) (h2 : GWs fr u) : GWs fr (gCons t u) := fun x σ H Q Q' k q => by
 obtain ⟨v, r, e, q⟩ := q
 exact ⟨v, r, e, h1 v σ H _ _ (fun σ' H' w1 q1 => h2 r σ' H' _ _ (fun σ2 H2 w2 q2 => k _ _ (w1.trans w2) q2) q1) q⟩
theorem gw_tup {fr : List (Option Nat)} {K : PySem.W.Frag} {n : Nat} {t : TGs} (h : GWs fr t) : GW fr (gTup K n t) := fun x σ H Q Q' k q => by
 obtain ⟨a, xs, e1, e2, e3, q⟩ := q
 exact ⟨a, xs, e1, e2, e3, h xs σ H _ _ k q⟩
def PIfs (X : Cx) (ifs : List Expr) (t : TT) : Prop :=
 ∀ (pins : List (Addr × Obj)) (s : Shared) (σ : St) (H : Hp) (Q : Bool → Hp → Prop), Inv X pins σ H s → t σ H Q →
  wpAny (model X.prog X.w) X.A (forIn ifs true fun c r => if r = true then do let ok ← isTrue c X.env (eval c X.env); pure (ForInStep.yield ok) else pure (ForInStep.yield r)) (TP X pins σ Q) X.xe s
def tNoIf : TT := fun _ H Q => Q true H
theorem pifs_nil {X : Cx} : PIfs X [] tNoIf := fun _ _ _ H _ I h => wpAny_tests_nil ⟨H, I, h⟩
theorem pifs_one {X : Cx} {c : Expr} {t : TT} (h : PT X c t) : PIfs X [c] t := fun pins s σ H Q I q => wpAny_tests_one (h pins s σ H Q I q)
def CompI (J : It) (g : TG) (ti : TT) (te : TE) (σc : St) (H1 : Hp) (Q : VK) : Prop := ∃ W : Nat → Nat → List V → Hp → Prop, (∃ m, W 0 m [] H1) ∧ ∀ i m ys H, W i m ys H → ys.length < sizeLine ∧
 ((J.stop i H ∧ ∀ l, H l = none → Q (.ref l) (upd H l (.lst ys))) ∨ (J.go i H ∧ ∃ M : List V → Hp → Prop, (∀ ys' H', M ys' H' → ∃ m', m' < m ∧ W (i + 1) m' ys' H') ∧
   ∀ x H', J.yld i H x H' → g x σc H' fun σ2 H2 => ti σ2 H2 fun b H3 => if b = true then te σ2 H3 fun y H4 => M (ys ++ [y]) H4 else M ys H3))
def tComp (fr : List (Option Nat)) (wi : TI) (g : TG) (ti : TT) (te : TE) : TE := fun σ H Q => wi σ H fun J H1 => CompI J g ti te (stC fr σ) H1 Q
structure Aside (X : Cx) (pins : List (Addr × Obj)) (H : Hp) (C : Addr) : Prop where
 fr : H C = none
 ne : C ≠ X.env.locals
 ab : X.s₀.heap.objs.size ≤ C
 cl : ∀ x c, X.env.cells.lookup x = some c → c ≠ C
 pn : ∀ p ∈ X.pn ++ pins, p.1 ≠ C
theorem Inv.aside {X : Cx} {pins : List (Addr × Obj)} {σ : St} {H H' : Hp} {s : Shared} {C : Addr} (I : Inv X pins σ H s) (hC : s.heap.objs.size ≤ C) (hn : H' C = none) : Aside X pins H' C := by
 obtain ⟨a, b, c, d, e, f⟩ := I.fpOk hC hn
 exact ⟨hn, b, Nat.le_trans I.sz hC, e, f⟩
def lob (us : List Value) (n : Nat) : Obj := { cls := .type "list", dict := none, data := .seq us.toArray n }
section
variable {X : Cx} {scope : Scope} {N : List Str} {fr : List (Option Nat)} {tg iter elt : Expr} {ifs : List Expr} {pos : Pos} {J : It} {g : TG} {ti : TT} {te : TE}
theorem comp_core {pins : List (Addr × Obj)} {σ : St} {H : Hp} {s₂ : Shared} {it : Addr} {fp : List Addr} {tn : Nat → Heap → Prop} {Q : VK} {E : Value → Shared → Prop} (c : CompOk X scope N fr) (hc : X.calm = true) (I : Inv X pins σ H s₂)
 (T : Turn X.prog X.w X.K tg J fp it tn) (st : tn 0 s₂.heap) (hfp : ∀ b ∈ fp, FpOk X pins H b)
 (hg : ∀ C, PG (cxC X scope C N s₂ H fp) tg g) (hi : ∀ C, PIfs (cxC X scope C N s₂ H fp) ifs ti) (he : ∀ C, PE (cxC X scope C N s₂ H fp) elt te) (gw : GW fr g) (hq : CompI J g ti te (stC fr σ) H Q)
 {RR : Value → Addr → Result → Shared → Prop}
 (hRR : ∀ D C H' ys s', Inv X pins σ (upd H' D (.lst ys)) s' → Aside X pins (upd H' D (.lst ys)) C → (∃ m, s'.heap.Ns C m) → Q (.ref D) (upd H' D (.lst ys)) → RR (.ref D) C (.ok .next) s') :
 wpAny (model X.prog X.w) X.A (newList []) (fun acc s₃ => wpAny (model X.prog X.w) X.A (newFunctionEnv scope X.env.globals (clOf X.env scope.names []) [] X.env.qual none .none (some X.env)) (fun cenv s₄ =>
  codeAny (model X.prog X.w) X.A (.compStart (.ListComp elt [⟨tg, iter, ifs, 0⟩] scope pos) 0 (.ref it) acc { cenv with scope := relabel scope X.env }) (RR acc cenv.locals) s₄) E s₃) E s₂ := by
 refine wpAny_newObj_type (wpAny_newFunctionEnv c.ncell (by intro y hy; simp at hy) (fun h₁ hns₁ hsb₁ => ?_) c.kind)
 dsimp only at hns₁ hsb₁ ⊢
 generalize hH2 : s₂.heap.push { cls := .type "list", dict := none, data := .seq ([] : List Value).toArray } = H2 at hns₁ hsb₁ ⊢
 have hC : H2.objs.size = s₂.heap.objs.size + 1 := by rw [← hH2, Heap.size_push]
 have hCle : s₂.heap.objs.size ≤ H2.objs.size := by rw [hC]; exact Nat.le_succ _
 have hDC : s₂.heap.objs.size ≠ H2.objs.size := by rw [hC]; exact Nat.ne_of_lt (Nat.lt_succ_self _)
 have old : ∀ b o, s₂.heap.get? b = some o → h₁.get? b = some o := fun b o e => hsb₁.extBut b o (by rw [hC]; exact Nat.ne_of_lt (Nat.lt_succ_of_lt (Heap.lt_size e))) (Heap.get?_push_of_some _ (hH2 ▸ Heap.get?_push_of_some _ e))
 have hacc : h₁.get? s₂.heap.objs.size = some (lob [] 0) := hsb₁.extBut _ _ hDC (Heap.get?_push_of_some _ (hH2 ▸ Heap.get?_push_size _ rfl))
 generalize hD : s₂.heap.objs.size = D at *
 generalize hCC : H2.objs.size = C at *
 have hfp2 : ∀ b ∈ fp, FpOk X pins H b ∧ b < s₂.heap.objs.size := fun b hb => ⟨hfp b hb, by obtain ⟨o, e, _⟩ := T.obj _ _ st b hb; exact Heap.lt_size e⟩
 have hns₂ : h₁.Ns C fun _ => none := hns₁
 have I0 : Inv (cxC X scope C N s₂ H fp) [] (stC fr σ) H { s₂ with heap := h₁, toks := s₂.toks + ([] : List (Str × Value)).length } := comp_inv c I (by rw [hD]; exact hCle) hfp2 old hns₂
 have st₁ : tn 0 h₁ := T.keep _ _ _ st fun b hb o e => old b o e
 have hDn : ∀ b ∈ fp, b ≠ D := fun b hb => by rw [← hD]; exact Nat.ne_of_lt (hfp2 b hb).2
 have dAs : ∀ {H' : Hp}, H' D = none → (D ≠ (cxC X scope C N s₂ H fp).env.locals ∧ (cxC X scope C N s₂ H fp).s₀.heap.objs.size ≤ D ∧ ∀ x a, (cxC X scope C N s₂ H fp).env.cells.lookup x = some a → a ≠ D) := fun hn => ⟨hDC, Nat.le_of_eq hD, fun x a e z => by
  obtain ⟨v, o, ho, _⟩ := I.cell x a (c.get I.ok e)
  have := Heap.lt_size ho
  rw [z, ← hD] at this
  exact Nat.lt_irrefl _ this⟩
 obtain ⟨W, ⟨m0, w0⟩, turn⟩ := hq
 have loop : codeAny (model X.prog X.w) X.A (.compLoop (.ListComp elt [⟨tg, iter, ifs, 0⟩] scope pos) 0 (.ref it) (.ref D) (compEnvC scope (clOf X.env scope.names []) C X.env)) (RR (.ref D) C) { s₂ with heap := h₁, toks := s₂.toks + ([] : List (Str × Value)).length } := by
  refine compLoop_any (fun n s' => ∃ i ys us k H', Inv (cxC X scope C N s₂ H fp) [] (stC fr σ) H' s' ∧ tn i s'.heap ∧ (∀ b ∈ fp, H' b = none) ∧ s'.heap.get? D = some (lob us k) ∧ Vals ys us ∧ H' D = none ∧ W i n ys H') ?_ m0
   ⟨0, [], [], 0, H, I0, st₁, fun b hb => (hfp b hb).1, hacc, .nil, by rw [← hD]; exact I.hok.fresh (Nat.le_refl _), w0⟩
  rintro n s3 ⟨i, ys, us, k, H3, I3, st3, fr3, hD3, rv3, hDn3, w3⟩
  obtain ⟨hlen, alt⟩ := turn i n ys H3 w3
  obtain ⟨d1, d2, d3⟩ := dAs hDn3
  have I3p : Inv (cxC X scope C N s₂ H fp) [(D, lob us k)] (stC fr σ) H3 s3 := I3.pins_of fun p hp => by
   have e : p = (D, lob us k) := by simpa using hp
   subst e
   refine ⟨hD3, hDn3, d1, fun z => ?_, fun v e => by cases (show Data.seq us.toArray k = Data.cell v from e)⟩
   have z' : D ∈ frs X.stack := z
   rcases List.mem_cons.mp (I.stkSub D z') with e | e
   ·have := I.lt
    rw [← e, ← hD] at this
    exact Nat.lt_irrefl _ this
   ·exact I.nofs (Nat.le_of_eq hD) e
  have stat : ∀ {H' : Hp}, (∀ b ∈ fp, H' b = none) → ∀ b ∈ fp, FpOk (cxC X scope C N s₂ H fp) [(D, lob us k)] H' b := fun hn b hb => by
   obtain ⟨q1, q2⟩ := hfp2 b hb
   refine ⟨hn b hb, Nat.ne_of_lt (Nat.lt_of_lt_of_le q2 (by rw [hD]; exact hCle)), fun z => ?_, .inl hb, fun x a e => q1.2.2.2.2.1 x a (c.get I.ok e), fun p hp => ?_⟩
   ·exact (comp_ok c I (by rw [hD]; exact hCle) hfp2).exfs b hb z
   ·have e : p = (D, lob us k) := by simpa [cxC] using hp
    subst e
    exact (hDn b hb).symm
  rcases alt with ⟨stop, qn⟩ | ⟨go, M, hM, step⟩
  ·refine thn (T.done (cxC X scope C N s₂ H fp) rfl rfl rfl hc i _ s3 _ H3 _ I3p (stat fr3) st3 stop) fun r s4 ⟨hr, I4⟩ => ?_
   subst hr
   have pD := (I4.pin (D, lob us k) (by simp)).1
   have I4' : Inv (cxC X scope C N s₂ H fp) [] (stC fr σ) H3 s4 := I4.pins_of fun p hp => absurd hp (by simp)
   have IX : Inv X pins σ H3 s4 := I.call' I4'.os I4'.base I4'.hok I4'.bare fun b hb => by
    obtain ⟨q1, q2, q3, q4, q5, q6⟩ := hfp b hb
    exact ⟨q4, q2, q5, q6⟩
   have aD : Aside X pins H3 D := I.aside (Nat.le_of_eq hD) hDn3
   have IT : Inv X pins σ (upd H3 D (.lst ys)) s4 := IX.track hDn3 aD.ne aD.ab aD.cl aD.pn ⟨Nat.le_of_lt hlen, us, k, rv3, pD⟩
   refine hRR D C H3 ys s4 IT ?_ ?_ (qn D hDn3)
   ·refine I.aside (by rw [hD]; exact hCle) ?_
    rw [upd_ne (Ne.symm hDC)]
    exact I4'.free
   ·obtain ⟨m, hm, _⟩ := I4'.loc
    exact ⟨m, hm⟩
  ·refine thn (T.item (cxC X scope C N s₂ H fp) rfl rfl rfl hc i _ s3 _ H3 _ I3p (stat fr3) st3 go) fun r s4 ⟨u, hr, h4⟩ => ?_
   subst hr
   refine thn h4 fun _ s5 ⟨x, H5, I5, r5, y5, st5, fr5⟩ => ?_
   have I5' := I5.pinned (stat fr5) (T.obj _ _ st5)
   refine thn (hg C _ s5 _ H5 x u _ I5' r5 (gw x _ H5 _ _ (fun σ2 H2 wk q => And.intro wk q) (step x H5 y5))) fun _ s6 ⟨σ6, H6, I6, wk6, q6⟩ => ?_
   refine thn (hi C _ s6 σ6 H6 _ I6 q6) fun ok s7 ⟨H7, I7, q7⟩ => ?_
   have back : ∀ {σ8 : St} {H8 : Hp} {s8 : Shared}, σ8 = σ6 → Inv (cxC X scope C N s₂ H fp) ([(D, lob us k)] ++ pinsAt fp s5.heap) σ8 H8 s8 → Inv (cxC X scope C N s₂ H fp) [] (stC fr σ) H8 s8 ∧ tn (i + 1) s8.heap ∧ (∀ b ∈ fp, H8 b = none) ∧ s8.heap.get? D = some (lob us k) ∧ H8 D = none := fun {σ8 H8 s8} e8 I8 => by
    subst e8
    have pf : ∀ b o, b ∈ fp → s5.heap.get? b = some o → s8.heap.get? b = some o ∧ H8 b = none := fun b o hb e => by
     have := I8.pin (b, o) (List.mem_append_right _ (List.mem_append_right _ (mem_pinsAt hb e)))
     exact ⟨this.1, this.2.1⟩
    refine ⟨(I8.pins_of (pins' := []) fun p hp => absurd hp (by simp)).weak wk6.1.symm fun a v e => ?_, T.keep _ _ _ st5 fun b hb o e => (pf b o hb e).1, fun b hb => ?_, (I8.pin (D, lob us k) (by simp)).1, (I8.pin (D, lob us k) (by simp)).2.1⟩
    ·obtain ⟨j, f1, _⟩ := stC_get e
     rw [wk6.2 a j f1]
     exact e
    ·obtain ⟨o, e, _⟩ := T.obj _ _ st5 b hb
     exact (pf b o hb e).2
   cases ok with
   | false =>
     obtain ⟨m', hm, w7⟩ := hM _ _ (by simpa using q7)
     obtain ⟨a1, a2, a3, a4, a5⟩ := back rfl I7
     exact ⟨m', hm, i + 1, ys, us, k, H7, a1, a2, a3, a4, rv3, a5, w7⟩
   | true =>
     have q7' : te σ6 H7 fun y H4 => M (ys ++ [y]) H4 := by simpa using q7
     refine thn (he C _ s7 σ6 H7 _ I7 q7') fun v s8 ⟨y, H8, I8, ry, q8⟩ => ?_
     obtain ⟨m', hm, w8⟩ := hM _ _ q8
     obtain ⟨a1, a2, a3, a4, a5⟩ := back rfl I8
     have hus : us.toArray.size ≤ sizeLine := by
      rw [List.size_toArray, ← rv3.length]
      exact Nat.le_of_lt hlen
     refine wpAny_list_append_plain (hsz := hus) (l := D) (items := us.toArray) ⟨_, a4⟩ fun h₅ hl₅ hs₅ => ?_
     obtain ⟨k', hl₅'⟩ := hl₅
     obtain ⟨e1, e2, e3⟩ := dAs a5
     refine ⟨m', hm, i + 1, ys ++ [y], us ++ [v], k', H8, a1.turned (t' := s8.toks) (fun b o hb e => (hs₅.2 b hb).trans e) a5 e1 (.inr e2) e3 (fun p hp => absurd (show p ∈ ([] : List (Addr × Obj)) from hp) (by simp)), T.keep _ _ _ a2 fun b hb o e => (hs₅.2 b (hDn b hb)).trans e, a3, ?_, rv3.append (.cons ry .nil), a5, w8⟩
     show h₅.get? D = _
     rw [hl₅']
     simp [lob]
 exact codeAny_compStart_list loop (T.self _ _ _ _ _ st₁ loop)
theorem pe_comp {wi : TI} (c : CompOk X scope N fr) (hc : X.calm = true) (hi : PI X tg iter wi) (hg : ∀ C s₂ H fp, PG (cxC X scope C N s₂ H fp) tg g) (hf : ∀ C s₂ H fp, PIfs (cxC X scope C N s₂ H fp) ifs ti) (he : ∀ C s₂ H fp, PE (cxC X scope C N s₂ H fp) elt te) (gw : GW fr g)
 (hs : ∀ x, foldedSetIterable iter X.env x = pure x := by intro _; rfl) : PE X (.ListComp elt [⟨tg, iter, ifs, 0⟩] scope pos) (tComp fr wi g ti te) := by
 walk_at "z3"
 rw [eval_ListComp]
 refine wpAny_comprehension_free (use := none) rfl hs (closure_eq (c.cells I.ok)) c.kind c.names (thn (hi pins s σ H _ I h) fun v s1 h1 => thn h1 fun itv s2 h2 => ?_)
 obtain ⟨it, fp, tn, J, H2, e, I2, T, st2, f2, q⟩ := h2
 subst e
 refine comp_core (RR := fun acc C => compPost (model X.prog X.w) X.A X.xe none (EP X pins σ Q) acc C) c hc I2 T st2 f2 (fun C => hg C _ _ _) (fun C => hf C _ _ _) (fun C => he C _ _ _) gw q ?_
 intro D C H' ys s' IT as hm q
 obtain ⟨m, hm⟩ := hm
 exact ⟨m, hm, fun h' sb => ⟨.ref D, _, IT.turned (t' := s'.toks) (fun b o hb e => (sb.2 b hb).trans e) as.fr as.ne (.inr as.ab) as.cl as.pn, rfl, q⟩⟩
theorem ps_setC {wi : TI} {i : Nat} {x : Str} {pos' spos : Pos} (hN : X.N.Nodup) (hn : X.N[i]? = some x) (hx : Loc X.env.scope x) (c : CompOk X scope N fr) (hc : X.calm = true) (hi : PI X tg iter wi) (hg : ∀ C s₂ H fp, PG (cxC X scope C N s₂ H fp) tg g) (hf : ∀ C s₂ H fp, PIfs (cxC X scope C N s₂ H fp) ifs ti) (he : ∀ C s₂ H fp, PE (cxC X scope C N s₂ H fp) elt te) (gw : GW fr g)
 (hsw : swapsWith (.ListComp elt [⟨tg, iter, ifs, 0⟩] scope pos) (some (.Name x pos')) spos.line X.env = pure true := by rfl) (hs : ∀ x, foldedSetIterable iter X.env x = pure x := by intro _; rfl)
 (hfl : X.fn x = true ∨ X.env.scope.names.lookup x = some .local := by first | exact .inl rfl | exact .inr rfl | assumption) :
 PS X (.Assign [.Name x pos'] (.ListComp elt [⟨tg, iter, ifs, 0⟩] scope pos) spos) (tAsg (tComp fr wi g ti te) (gName i)) := by
 walk_at "z3"
 rw [exec_Assign_Name_used _ _ _ _ hsw]
 refine wpAny_bind (wpAny_standAt (wpAny_bind ?_))
 show wpAny _ X.A (do let _ ← comprehension (.ListComp elt [⟨tg, iter, ifs, 0⟩] scope pos) scope X.env _ (newList []) false (eval iter X.env) (some (assign (.Name x pos') X.env))) _ _ s
 refine wpAny_bind (wpAny_mono (wpAny_comprehension_free (use := some (assign (.Name x pos') X.env)) (Q := fun _ s' => SP X pins Q .next s') rfl hs (closure_eq (c.cells I.ok)) c.kind c.names
  (thn (hi pins s σ H _ I h) fun v s1 h1 => thn h1 fun itv s2 h2 => ?_)) (fun _ s' hq => wpAny_pure (wpAny_pure hq)) fun _ _ e => e)
 obtain ⟨it, fp, tn, J, H2, e, I2, T, st2, f2, q⟩ := h2
 subst e
 refine comp_core (RR := fun acc C => compPost (model X.prog X.w) X.A X.xe (some (assign (.Name x pos') X.env)) (fun _ s' => SP X pins Q .next s') acc C) c hc I2 T st2 f2 (fun C => hg C _ _ _) (fun C => hf C _ _ _) (fun C => he C _ _ _) gw q ?_
 intro D C H' ys s' IT as hm q
 obtain ⟨m, hm⟩ := hm
 show wpAny _ X.A (assign (.Name x pos') X.env (.ref D)) _ _ _
 refine wpAny_assign_Name (store_ok2 IT hN hn hx (v := .ref D) rfl (fun s2 I3 hsb => ?_) hfl)
 obtain ⟨a, sb, ha⟩ := hsb
 have hne : C ≠ a := by
  rcases ha with ha | ha
  ·rw [ha]; exact as.ne
  ·exact (as.cl _ _ ha).symm
 refine ⟨m, hm.sameBut sb hne, fun h' sb' => ⟨_, _, I3.turned (t' := s2.toks) (fun b o hb e => (sb'.2 b hb).trans e) as.fr as.ne (.inr as.ab) as.cl as.pn, q⟩⟩
end
end L2
namespace L2
open PySem PySem.Spec PyProof.Rows
theorem Inv.turnedL {X : Cx} {pins : List (Addr × Obj)} {σ : St} {H : Hp} {s : Shared} {h' : Heap} {t' : Nat} {fp : List Addr} (I : Inv X pins σ H s) (hf : ∀ b ∈ fp, FpOk X pins H b) (k : ∀ b o, b ∉ fp → s.heap.get? b = some o → h'.get? b = some o) :
 Inv X pins σ H { s with heap := h', toks := t' } := by
 have nit : ∀ b u, H b = some u → b ∉ fp := fun b u e z => by rw [(hf b z).1] at e; cases e
 refine I.step (g' := s.gens) (d' := s.drawn) (ch := fp) (fun b hb => ?_) (fun b o _ _ hc e _ => k b o hc e) (fun b o _ _ hc e _ => ⟨o.slots, k b o hc e⟩) (fun _ _ _ _ n => n)
  (fun b o hc e => ⟨o, k b o hc e⟩) (fun _ _ e => e) (fun _ _ _ e => e) (fun b ps e => ⟨#[], by rw [e]; simp⟩) (fun m hm => ?_) (fun b u e => ?_) I.bare
 ·obtain ⟨q1, q2, q3, q4, q5, q6⟩ := hf b hb
  exact ⟨q4, q2, q5, q6⟩
 ·obtain ⟨o, es, ep, ho, r⟩ := hm
  exact ⟨o, es, ep, k _ o (fun z => (hf _ z).2.1 rfl) ho, r⟩
 ·refine (I.hok b u e).stay (fun c v hc q => k c v ?_ q) (fun _ q => q) fun _ _ q => q
  rcases hc with z | z
  ·rw [z]; exact nit b u e
  ·exact nit c _ z
theorem Inv.turnT {X : Cx} {pins : List (Addr × Obj)} {σ : St} {H : Hp} {s : Shared} {h' : Heap} {t' : Nat} {fp : List Addr} {T : Addr} {xs : List V} {its : List Value} (I : Inv X pins σ H s) (hf : ∀ b ∈ fp, FpOk X pins H b) (k : ∀ b o, b ∉ fp → s.heap.get? b = some o → h'.get? b = some o)
 (hT : s.heap.objs.size ≤ T) (hz : xs.length ≤ sizeLine) (r : Vals xs its) (it : IsTup h' T its.toArray) : Inv X pins σ (upd H T (.tup xs)) { s with heap := h', toks := t' } := by
 have hn : H T = none := I.hok.fresh hT
 have a := I.aside hT hn
 exact (I.turnedL (t' := t') hf k).track hn a.ne a.ab a.cl a.pn ⟨hz, its, r, it⟩
def Itz (K : PySem.W.Frag) (a b : Addr) : It :=
 ⟨fun i H => ∃ xs ys x y, SqL K H a xs ∧ SqL K H b ys ∧ xs[i]? = some x ∧ ys[i]? = some y,
  fun i H v H' => ∃ T x y, v = .ref T ∧ H T = none ∧ H' = upd H T (.tup [x, y]) ∧ (∀ xs, SqL K H a xs → xs[i]? = some x) ∧ ∀ ys, SqL K H b ys → ys[i]? = some y,
  fun i H => ∃ xs ys, SqL K H a xs ∧ SqL K H b ys ∧ (xs.length ≤ i ∨ ys.length ≤ i)⟩
def iZip2 (K : PySem.W.Frag) (ta : TA) : TI := fun σ H R => ta σ H fun vs H1 => ∃ a b, vs = [.ref a, .ref b] ∧ (∃ xs, SqL K H1 a xs) ∧ (∃ ys, SqL K H1 b ys) ∧ R (Itz K a b) H1
theorem bt_enumerate : bootBuiltins "enumerate" = some (.type "enumerate") := by first | exact PySem.boot_enumerate | exact PyProof.Rows.boot_enumerate
section
variable {X : Cx} {elts : List Expr} {kk : Nat} {tp : Pos}
end
def Ite (K : PySem.W.Frag) (a : Addr) : It :=
 ⟨fun i H => ∃ xs x, SqL K H a xs ∧ xs[i]? = some x,
  fun i H v H' => ∃ T x, v = .ref T ∧ H T = none ∧ H' = upd H T (.tup [.int i, x]) ∧ (∀ xs, SqL K H a xs → xs[i]? = some x),
  fun i H => ∃ xs, SqL K H a xs ∧ xs.length ≤ i⟩
theorem turn_enum {P : Program} {w : World} {K : PySem.W.Frag} {elts : List Expr} {kk : Nat} {tp : Pos} {e it a : Addr} (hei : e ≠ it) :
 Turn P w K (.Tuple elts kk tp) (Ite K a) [e, it] e (fun i h => (∃ old, IsEnum h e it i old) ∧ h.IsListIter it a i) where
 mem := by simp
 obj := fun i h st c hc => by
  obtain ⟨⟨old, h1⟩, ⟨o1, e1, _, d1⟩⟩ := st
  simp only [List.mem_cons, List.not_mem_nil, or_false] at hc
  rcases hc with rfl | rfl
  ·exact ⟨_, h1, fun v z => by cases (show Data.fields _ = Data.cell v from z)⟩
  ·exact ⟨_, e1, fun v z => by rw [d1] at z; cases z⟩
 keep := fun i h h' st k => by
  obtain ⟨⟨old, h1⟩, h2⟩ := st
  exact ⟨⟨old, k _ (by simp) _ h1⟩, h2.at fun o e => k _ (by simp) o e⟩
 item := by
  walk_at "z25"
  subst hP hw hK
  obtain ⟨xs, x, hx, ex⟩ := hg
  obtain ⟨⟨old, h1⟩, h2⟩ := st
  obtain ⟨its, rv, p, hz⟩ := I.list hx
  obtain ⟨ux, hux, rux⟩ := rv.get ex
  refine wpAny_pyNext_enum_item h1 h2 p.isList (x := ux) (by simpa using hux) hei fun h' a1 a2 a3 a4 a5 => ?_
  have lt : ∀ c ∈ [e, it], c < s.heap.objs.size := fun c hc => by
   obtain ⟨o1, e1, _⟩ := h2
   simp only [List.mem_cons, List.not_mem_nil, or_false] at hc
   rcases hc with rfl | rfl
   ·exact Heap.lt_size h1
   ·exact Heap.lt_size e1
  have eT : e ≠ s.heap.objs.size := Nat.ne_of_lt (lt e (by simp))
  refine ⟨_, rfl, wpAny_letOwnedTupleGo_enum (s := { s with heap := h', toks := s.toks + 1 }) a1 fun h2' b1 b2 => ?_⟩
  have hk : ∀ c o, c ∉ [e, it] → s.heap.get? c = some o → h2'.get? c = some o := fun c o hc q => by
   simp only [List.mem_cons, List.not_mem_nil, or_false, not_or] at hc
   exact (b2.2 c hc.1).trans (a5 c o hc.1 hc.2 q)
  have I1 := I.turnT (h' := h2') (t' := s.toks + 1) (T := s.heap.objs.size) (xs := [.int i, x]) (its := [.int i s.toks, ux]) hf hk (Nat.le_refl _) (szl (Nat.le_of_ble_eq_true rfl)) (.cons ⟨_, rfl⟩ (.cons rux .nil)) ⟨_, (b2.2 _ eT.symm).trans a3, rfl, _, rfl⟩
  refine ⟨.ref s.heap.objs.size, _, I1, rfl, ⟨_, x, rfl, I.hok.fresh (Nat.le_refl _), rfl, fun xs' h => by rw [I.list_inj h hx]; exact ex⟩, ?_, fun c hc => ?_⟩
  ·exact ⟨⟨ux, by simpa using b1⟩, a2.at fun o q => (b2.2 _ hei.symm).trans q⟩
  ·rw [upd_ne (Nat.ne_of_lt (lt c hc))]
   exact (hf c hc).1
 done := by
  walk_at "z25"
  subst hP hw hK
  obtain ⟨xs, hx, hl⟩ := hg
  obtain ⟨⟨old, h1⟩, h2⟩ := st
  obtain ⟨its, rv, p, hz⟩ := I.list hx
  have l1 := rv.length
  refine wpAny_pyNext_enum_end (I.ok.hd hc) h1 h2 p.isList (by simp; lia) fun h' hk => ⟨rfl, ?_⟩
  exact I.turnedL (t' := s.toks) hf fun c o hc q => by
   simp only [List.mem_cons, List.not_mem_nil, or_false, not_or] at hc
   exact hk c o hc.2 q
 self := fun A i s Q E st h => by
  obtain ⟨⟨old, h1⟩, _⟩ := st
  exact wpAny_pyIter_enum h1 h
def iEnum (K : PySem.W.Frag) (ta : TA) : TI := fun σ H R => ta σ H fun vs H1 => ∃ a, vs = [.ref a] ∧ (∃ xs, H1 a = some (.lst xs)) ∧ R (Ite K a) H1
section
variable {X : Cx} {elts : List Expr} {kk : Nat} {tp : Pos}
theorem pi_enumerate1 {a : Expr} {ta : TA} {p pos : Pos} (hg : Gl X "enumerate") (hm : X.mg "enumerate" = none) (ha : PA X [a] ta) (hs : starEach [a] X.env = [(false, eval a X.env)] := by rfl) :
 PI X (.Tuple elts kk tp) (.Call (.Name "enumerate" p) [a] [] pos) (iEnum X.K ta) := by
 intro pins s σ H R I h
 refine Call_ (ld_blt I hg hm bt_enumerate (PyProof.Rows.callWith_type1 (thn (ha pos pins s σ H _ I h) fun us s1 ⟨vs, H1, I1, r1, q1⟩ => ?_) hs rfl))
 obtain ⟨x, e, ⟨xs, hx⟩, q⟩ := q1
 subst e
 cases r1 with
 | cons r rr =>
   cases rr
   cases r
   obtain ⟨hz, its, n, rv, hg⟩ := (show ObjOk X.prog X.w H1 s1.heap x (.lst xs) from I1.hok x _ hx)
   refine call_enumerate_1 hg fun h' b1 b2 b3 b4 => ?_
   have I2 : Inv X pins σ H1 { s1 with heap := h' } := I1.kept (t' := s1.toks) b4
   refine wpAny_pyIter_enum (s := { s1 with heap := h' }) b1 ⟨_, _, _, _, H1, rfl, I2, turn_enum (Nat.ne_of_gt (Nat.lt_succ_self _)), ⟨⟨_, b1⟩, b2⟩, fun c hc => ?_, q⟩
   have hc' : s1.heap.objs.size ≤ c := by
    simp only [List.mem_cons, List.not_mem_nil, or_false] at hc
    rcases hc with rfl | rfl
    ·exact Nat.le_add_right _ _
    ·exact Nat.le_refl _
   exact I1.fpOk hc' (I1.hok.fresh hc')
end
end L2
namespace L2
open PySem PySem.Spec PyProof.Rows
section
variable {prog : Program} {w : World} {A : Around} {E : Value → Shared → Prop} {s : Shared}
theorem min_raw {l : Addr} {vs : List Value} {ns : List Int} {Q : Value → Shared → Prop} (hh : A.handled = none) (hl : s.heap.IsList l vs.toArray) (hi : IntsAre vs ns) (hne : 0 < ns.length)
 (h : ∀ h' M (t : Tok) tk, (∀ b o, s.heap.get? b = some o → h'.get? b = some o) → M ∈ ns → (∀ a, a ∈ ns → M ≤ a) → Q (.int M t) { s with heap := h', toks := tk }) : wpAny (model prog w) A (call (.builtin "min") [.ref l]) Q E s := by
 obtain ⟨xs, e⟩ := hi.allInts.items
 have hns : ns = xs.toList.map (·.1) := by
  rw [← hi.numsOf, ← nums_intItems, ← e]
 have hsz : 0 < xs.size := by
  have h3 := hne; rw [hns, List.length_map, Array.length_toList] at h3; exact h3
 rw [e] at hl
 refine min_intList hh hl hsz fun v h' tk hv hk => ?_
 obtain ⟨t, rfl⟩ := intItems_at hv
 obtain ⟨h1, h2⟩ := argBest_lt (numAt xs) (xs.size - 1)
 refine h _ _ t tk hk ?_ fun a ha => ?_
 ·rw [hns, numAt_eq]; exact PySem.getD_mem (by rw [List.length_map, Array.length_toList]; lia)
 ·rw [hns] at ha
  obtain ⟨j, hj, rfl⟩ := mem_getD ha
  rw [List.length_map, Array.length_toList] at hj
  rw [← numAt_eq]; exact h2 j (by lia)
theorem sum_raw {l : Addr} {vs : List Value} {ns : List Int} {Q : Value → Shared → Prop} (hh : A.handled = none) (hl : s.heap.IsList l vs.toArray) (hi : IntsAre vs ns)
 (h : ∀ h' tk t', (∀ b o, s.heap.get? b = some o → h'.get? b = some o) → Q (.int ns.sum t') { s with heap := h', toks := tk }) : wpAny (model prog w) A (call (.builtin "sum") [.ref l]) Q E s := by
 obtain ⟨xs, hx⟩ := hi.allInts.items
 have hl' : s.heap.IsList l (intItems xs) := hx ▸ hl
 refine sum_intListG hh hl' fun h' tk t' hk => ?_
 have e1 : ns = xs.toList.map (·.1) := by
  rw [← nums_intItems, ← hx]
  exact (show numsOf vs.toArray.toList = ns from hi.numsOf).symm
 have e2 : preSum (numAt xs) xs.size = ns.sum := by
  rw [preSum_eq, List.take_of_length_le (by simp), e1]
 rw [e2]
 exact h h' tk t' hk
end
def rSum (K : PySem.W.Frag) : List V → Hp → VK → Prop := fun xs H Q => ∃ p ns, xs = [.ref p] ∧ SqL K H p (iL ns) ∧ Q (.int ns.sum) H
def rMin (K : PySem.W.Frag) : List V → Hp → VK → Prop := fun xs H Q => (∃ i j, xs = [.int i, .int j] ∧ Q (.int (if j < i then j else i)) H) ∨ ∃ p ns, xs = [.ref p] ∧ SqL K H p (iL ns) ∧ 0 < ns.length ∧ ∀ m, m ∈ ns → (∀ a ∈ ns, m ≤ a) → Q (.int m) H
section
variable {X : Cx}
theorem call_sumN (hc : X.calm = true) : CallR X (.builtin "sum") (rSum X.K) := by
 intro pins s σ H xs us Q I r h
 obtain ⟨p, ns, rfl, hq, q⟩ := h
 obtain ⟨u, rfl, ru⟩ := vals1 r
 cases ru
 obtain ⟨its, rv, pl, hz⟩ := I.list hq
 exact sum_raw (I.ok.hd hc) pl.isList (intsAre_of rv) fun h' tk t' hk => ⟨.int _, H, I.kept (t' := tk) hk, ⟨_, rfl⟩, q⟩
theorem call_minN (hc : X.calm = true) : CallR X (.builtin "min") (rMin X.K) := by
 intro pins s σ H xs us Q I r h
 rcases h with h | ⟨p, ns, rfl, hq, hne, q⟩
 ·exact call_min2 hc pins s σ H xs us Q I r h
 ·obtain ⟨u, rfl, ru⟩ := vals1 r
  cases ru
  obtain ⟨its, rv, pl, hz⟩ := I.list hq
  exact min_raw (I.ok.hd hc) pl.isList (intsAre_of rv) hne fun h' M t tk hk h1 h2 => ⟨.int M, H, I.kept (t' := tk) hk, ⟨_, rfl⟩, q M h1 h2⟩
end
section
variable {K : PySem.W.Frag} {H : Hp} {Q : VK} {p : Addr} {ns : List Int} {i j : Int}
theorem i_sum (h : SqL K H p (iL ns)) (q : Q (.int ns.sum) H) : rSum K [.ref p] H Q := ⟨p, ns, rfl, h, q⟩
theorem i_min2 (q : ∀ m, m = min i j → Q (.int m) H) : rMin K [.int i, .int j] H Q := .inl ⟨i, j, rfl, q _ (by split <;> lia)⟩
end
section
variable {K : PySem.W.Frag} {g : TG} {tb : TS} {D : Ends} {σ : St} {H : Hp}
theorem lp_enum {a : Addr} {xs : List V} (Pv : Nat → St → Hp → Prop) (h0 : Pv 0 σ H) (hl : ∀ i σ H, Pv i σ H → SqL K H a xs)
 (hs : ∀ i x T σ H, xs[i]? = some x → Pv i σ H → H T = none → g (.ref T) σ (upd H T (.tup [.int i, x])) fun σ2 H2 => tb { D with nx := Pv (i + 1), ct := Pv (i + 1), bk := D.nx } σ2 H2)
 (hd : ∀ σ H, Pv xs.length σ H → D.nx σ H) : LoopI (Ite K a) g tb D σ H := by
 refine ⟨fun i m σ H => m = xs.length - i ∧ i ≤ xs.length ∧ Pv i σ H, ⟨_, rfl, Nat.zero_le _, h0⟩, ?_⟩
 rintro i m σ H ⟨rfl, hi, p⟩
 have q1 := hl i σ H p
 by_cases hlt : i < xs.length
 ·refine .inr ⟨⟨xs, xs[i], q1, by simp [hlt]⟩, Pv (i + 1), fun σ' H' p' => ⟨_, by lia, rfl, hlt, p'⟩, fun x H' y => ?_⟩
  obtain ⟨T, x1, rfl, hT, rfl, ex⟩ := y
  exact hs i x1 T σ H (ex xs q1) p hT
 ·have e : i = xs.length := by lia
  refine .inl ⟨⟨xs, q1, by lia⟩, hd σ H (by rw [← e]; exact p)⟩
end
section
variable {K : PySem.W.Frag} {g : TG} {ti : TT} {te : TE} {σc : St} {H : Hp} {Q : VK}
theorem cp_list {a : Addr} {xs : List V} (Pv : Nat → List V → Hp → Prop) (h0 : Pv 0 [] H) (hl : ∀ i ys H, Pv i ys H → SqL K H a xs ∧ ys.length ≤ i) (hx : xs.length < sizeLine)
 (hs : ∀ i x ys H, xs[i]? = some x → Pv i ys H → g x σc H fun σ2 H2 => ti σ2 H2 fun b H3 => if b = true then te σ2 H3 fun y H4 => Pv (i + 1) (ys ++ [y]) H4 else Pv (i + 1) ys H3)
 (hd : ∀ l ys H, Pv xs.length ys H → H l = none → Q (.ref l) (upd H l (.lst ys))) : CompI (Itl K a) g ti te σc H Q := by
 refine ⟨fun i m ys H => m = xs.length - i ∧ i ≤ xs.length ∧ Pv i ys H, ⟨_, rfl, Nat.zero_le _, h0⟩, ?_⟩
 rintro i m ys H ⟨rfl, hi, p⟩
 obtain ⟨q, hy⟩ := hl i ys H p
 refine ⟨by lia, ?_⟩
 by_cases hlt : i < xs.length
 ·refine .inr ⟨⟨xs, xs[i], q, by simp [hlt]⟩, Pv (i + 1), fun σ' H' p' => ⟨_, by lia, rfl, hlt, p'⟩, fun x H' y => ?_⟩
  obtain ⟨e, y⟩ := y
  subst e
  exact hs i x ys _ (y xs q) p
 ·have e : i = xs.length := by lia
  subst e
  exact .inl ⟨⟨xs, q, Nat.le_refl _⟩, fun l hl => hd l ys H p hl⟩
theorem cp_range {lo : Int} {n : Nat} (Pv : Nat → List V → Hp → Prop) (h0 : Pv 0 [] H) (hl : ∀ i ys H, Pv i ys H → ys.length ≤ i) (hx : n < sizeLine)
 (hs : ∀ i ys H, i < n → Pv i ys H → g (.int (lo + i)) σc H fun σ2 H2 => ti σ2 H2 fun b H3 => if b = true then te σ2 H3 fun y H4 => Pv (i + 1) (ys ++ [y]) H4 else Pv (i + 1) ys H3)
 (hd : ∀ l ys H, Pv n ys H → H l = none → Q (.ref l) (upd H l (.lst ys))) : CompI (Itr lo n) g ti te σc H Q := by
 refine ⟨fun i m ys H => m = n - i ∧ i ≤ n ∧ Pv i ys H, ⟨_, rfl, Nat.zero_le _, h0⟩, ?_⟩
 rintro i m ys H ⟨rfl, hi, p⟩
 have hy := hl i ys H p
 refine ⟨by lia, ?_⟩
 by_cases hlt : i < n
 ·refine .inr ⟨hlt, Pv (i + 1), fun σ' H' p' => ⟨_, by lia, rfl, hlt, p'⟩, fun x H' y => ?_⟩
  obtain ⟨e, y⟩ := y
  subst e y
  exact hs i ys _ hlt p
 ·have e : i = n := by lia
  subst e
  exact .inl ⟨Nat.le_refl _, fun l hl => hd l ys H p hl⟩
end
end L2
namespace L2
open PySem PySem.Spec PyProof.Rows
theorem fr_nil {X : Cx} {sc : Scope} : FrOk X sc [] [] := trivial
theorem fr_none {X : Cx} {sc : Scope} {x : Str} {N : List Str} {fr : List (Option Nat)} (h : FrOk X sc N fr) : FrOk X sc (x :: N) (none :: fr) := h
theorem fr_some {X : Cx} {sc : Scope} {x : Str} {N : List Str} {fr : List (Option Nat)} {j : Nat} (h1 : X.N[j]? = some x) (h2 : X.env.kindOf x = some .cell ∨ X.env.kindOf x = some .free) (h3 : sc.names.lookup x = some .free) (h : FrOk X sc N fr) : FrOk X sc (x :: N) (some j :: fr) := ⟨⟨h1, h2, h3⟩, h⟩
theorem pe_globI {X : Cx} {x : Str} {n : Int} {pos : Pos} (h : ∃ t, X.mg x = some (.int n t)) (hg : Gl X x) (hd : (x == ("__debug__" : Str)) = false := by decide) : PE X (.Name x pos) (tC (.int n)) := by
 obtain ⟨t, h⟩ := h
 exact pe_glob hg h ⟨t, rfl⟩ hd
end L2
namespace L2
open PySem PySem.Spec PyProof.Rows
section
variable {X : Cx} (K : PySem.W.Frag) {tg l : Expr} {tl : TE} {pos p : Pos}
theorem op_eqK (hu : X.A.units + 64 < cLine) (hK : X.K = K := by rfl) : OpR X (compareOp .Eq) (rEqP K) := by subst hK; exact op_eqP hu
theorem op_neK (hu : X.A.units + 64 < cLine) (hK : X.K = K := by rfl) : OpR X (compareOp .NotEq) (rNeP K) := by subst hK; exact op_neP hu
theorem ix_K (hK : X.K = K := by rfl) : IxR X (rIxP K) := by subst hK; exact ix_P
theorem sl_listK (hK : X.K = K := by rfl) : SlR X (rSlL K) := by subst hK; exact sl_list
theorem call_lenK (hK : X.K = K := by rfl) : CallR X (.builtin "len") (rLen K) := by subst hK; exact call_lenN
theorem call_isinstanceK (hK : X.K = K := by rfl) : CallR X (.builtin "isinstance") (rIsi K) := by subst hK; exact call_isinstanceN
theorem call_listK (hK : X.K = K := by rfl) : CallR X (.type "list") (rListOf K) := by subst hK; exact call_listN
theorem call_sumK (hc : X.calm = true := by rfl) (hK : X.K = K := by rfl) : CallR X (.builtin "sum") (rSum K) := by subst hK; exact call_sumN hc
theorem call_minK (hc : X.calm = true := by rfl) (hK : X.K = K := by rfl) : CallR X (.builtin "min") (rMin K) := by subst hK; exact call_minN hc
theorem call_intK : CallR X (.type "int") rIntOf := call_intN
theorem pi_listK (hl : PE X l tl) (hK : X.K = K := by rfl) : PI X tg l (iList K tl) := by subst hK; exact pi_list hl
theorem pi_enumerate1K {elts : List Expr} {kk : Nat} {tp : Pos} {a : Expr} {ta : TA} (hg : Gl X "enumerate") (hm : X.mg "enumerate" = none) (ha : PA X [a] ta) (hs : starEach [a] X.env = [(false, eval a X.env)] := by rfl) (hK : X.K = K := by rfl) :
 PI X (.Tuple elts kk tp) (.Call (.Name "enumerate" p) [a] [] pos) (iEnum K ta) := by subst hK; exact pi_enumerate1 hg hm ha hs
theorem pg_tupK {es : List Expr} {k : Nat} {t : TGs} (n : Nat) (h : PGs X es t) (hc : X.calm = true := by rfl) (hn : (assignEach es X.env).length = n := by rfl) (hst : (assignEach es X.env).findIdx? (·.1) = none := by rfl) (hK : X.K = K := by rfl) : PG X (.Tuple es k pos) (gTup K n t) := by
 subst hK; exact pg_tup hc h hn hst
theorem pt_truthK {a : Expr} {ta : TE} (ha : PE X a ta) (he : ∀ whole, isTrue a X.env whole = (do let v ← whole; standAt a.pos; holding [v] (truthy v)) := by intro _; rfl) (hK : X.K = K := by rfl) : PT X a (tTru K ta) := by
 subst hK; exact pt_truthN ha he
theorem pe_bmK {o e : Expr} {es : List Expr} {to : TE} {t : TA} {name : Str} {apos cpos : Pos} {T id : String} {r : V → List V → Hp → VK → Prop} (pa : PlainAttrs T) (slot : Slot T name id) (hty : typeOf (.builtin id) = pure (.type "method_descriptor")) (hm : MtR X id r) (ho : PE X o to) (ha : PA X (e :: es) t)
 (hbase : attributeBase o name X.env (eval o X.env) = eval o X.env := by rfl)
 (hfew : ((backTo cpos (starEach (e :: es) X.env)).all (fun x => !x.1) && (backToKw cpos (keywordEach [] X.env)).all (fun x => x.1.isSome)
  && decide ((e :: es).length + ([] : List Keyword).length + (if ([] : List Keyword).isEmpty then 0 else 1) < 30)) = true := by rfl)
 (hline : (apos.endLine == cpos.line) = true := by rfl) (hs : starEach (e :: es) X.env = (false, eval e X.env) :: starEach es X.env := by rfl) (hplain : (backTo cpos (starEach es X.env)).any (·.1) = false := by rfl) (hK : X.K = K := by rfl) :
 PE X (.Call (.Attribute o name apos) (e :: es) [] cpos) (tBM K T r to t) := by
 subst hK; exact pe_bm pa slot hty hm ho ha hbase hfew hline hs hplain
theorem pe_bm0K {o : Expr} {to : TE} {name : Str} {apos cpos : Pos} {T id : String} {r : V → List V → Hp → VK → Prop} (pa : PlainAttrs T) (slot : Slot T name id) (hty : typeOf (.builtin id) = pure (.type "method_descriptor")) (hm : MtR X id r) (ho : PE X o to)
 (hbase : attributeBase o name X.env (eval o X.env) = eval o X.env := by rfl) (hline : (apos.endLine == cpos.line) = true := by rfl) (hK : X.K = K := by rfl) : PE X (.Call (.Attribute o name apos) [] [] cpos) (tBM0 K T r to) := by
 subst hK; exact pe_bm0 pa slot hty hm ho hbase hline
end
end L2
namespace L2
open PySem PySem.Spec PyProof.Rows
section
variable {K : PySem.W.Frag} {H : Hp} {Q : VK} {n : Nat}
theorem pd_tup {t : Addr} {ds : List PyData} {xs : List V} (h : SqT K H t xs) (p : Paired (PdAt K H n) ds xs) : PdAt K H (n + 1) (.tuple ds) (.ref t) := ⟨t, xs, rfl, h, p⟩
theorem pd_lst {t : Addr} {ds : List PyData} {xs : List V} (h : SqL K H t xs) (p : Paired (PdAt K H n) ds xs) : PdAt K H (n + 1) (.list ds) (.ref t) := ⟨t, xs, rfl, h, p⟩
theorem i_neSame {x y : V} (d : PyData) (hx : PdAt K H 9 d x) (hy : PdAt K H 9 d y) (q : Q (.bl false) H) : rNeP K x y H Q := ⟨d, d, hx, hy, by
 rw [PySem.SeqAt.eqv_refl d (pd_shape 9 d x hx).1]; exact q⟩
theorem i_eqSame {x y : V} (d : PyData) (hx : PdAt K H 9 d x) (hy : PdAt K H 9 d y) (q : Q (.bl true) H) : rEqP K x y H Q := ⟨d, d, hx, hy, by
 rw [PySem.SeqAt.eqv_refl d (pd_shape 9 d x hx).1]; exact q⟩
end
end L2
namespace L2
open PySem PySem.Spec PyProof.Rows
theorem i_popS {H : Hp} {Q : VK} {l : Addr} {xs : List V} {y : V} (h : H l = some (.lst (xs ++ [y]))) (q : Q y (upd H l (.lst xs))) : rPop (.ref l) [] H Q := ⟨l, _, y, rfl, rfl, h, by simp, by simpa using q⟩
end L2
namespace L2
open PySem PySem.Spec PyProof.Rows
def Itd (lo : Int) (n : Nat) : It := ⟨fun i _ => i < n, fun i H x H' => H' = H ∧ x = .int (lo - i), fun i _ => n ≤ i⟩
section
variable {X : Cx} {tg : Expr}
def iRng3 (ta : TA) : TI := fun σ H R => ta σ H fun vs H1 => ∃ i j : Int, vs = [.int i, .int j, .int (-1)] ∧ (-(2 ^ 62) ≤ i ∧ i < 2 ^ 62 ∧ -(2 ^ 62) ≤ j ∧ j < 2 ^ 62) ∧ R (Itd i (i - j).toNat) H1
end
section
variable {K : PySem.W.Frag} {g : TG} {tb : TS} {D : Ends} {σ : St} {H : Hp}
end
section
variable {X : Cx} (K : PySem.W.Frag)
theorem pi_tupK {tg l : Expr} {tl : TE} (hl : PE X l tl) (hK : X.K = K := by rfl) : PI X tg l (iTup K tl) := by subst hK; exact pi_tup hl
def rAll (K : PySem.W.Frag) : List V → Hp → VK → Prop := fun xs H Q => ∃ (p : Addr) (bs : List Bool), xs = [.ref p] ∧ SqL K H p (bs.map V.bl) ∧ Q (.bl (bs.all id)) H
theorem vals_bl : ∀ {bs : List Bool} {us : List Value}, Vals (bs.map V.bl) us → us = bs.map Value.bool
 | [], _, h => by cases h; rfl
 | b :: bs, _, h => by
   cases h with
   | cons r t =>
     cases r
     rw [vals_bl t]; rfl
theorem bt_all : bootBuiltins "all" = some (.builtin "all") := by first | exact PySem.boot_all | exact PyProof.Rows.boot_all
theorem range_allB (bs : List Bool) : ((List.range bs.length).all fun i => (bs[i]?).getD true) = bs.all id := by
 rw [Bool.eq_iff_iff, List.all_eq_true, List.all_eq_true]
 constructor
 ·intro h b hb
  obtain ⟨i, hi, rfl⟩ := List.getElem_of_mem hb
  have := h i (List.mem_range.mpr hi)
  simpa [List.getElem?_eq_getElem hi] using this
 ·intro h i hi
  have hi' := List.mem_range.mp hi
  simpa [List.getElem?_eq_getElem hi'] using h _ (List.getElem_mem hi')
theorem call_allK (hc : X.calm = true := by rfl) (hK : X.K = K := by rfl) : CallR X (.builtin "all") (rAll K) := by
 subst hK
 intro pins s σ H xs us Q I r h
 obtain ⟨p, bs, rfl, hq, q⟩ := h
 obtain ⟨u, rfl, ru⟩ := vals1 r
 cases ru
 obtain ⟨its, rv, pl, hz⟩ := I.list hq
 have hl := pl.isList
 have hlt : p < s.heap.objs.size := by obtain ⟨_, e, _⟩ := hl; exact Heap.lt_size e
 have hv := vals_bl rv
 refine call_all_walk (wpAny_pyIter_list hl ?_)
 refine ⟨s.heap.objs.size, [s.heap.objs.size, p], [s.heap.objs.size], its.toArray.size, _, _, fun i => (bs[i]?).getD true, rfl, Walks.list (A := X.A.in1) (I.ok.hd hc) _ p (Nat.ne_of_lt hlt) its.toArray,
  ⟨⟨_, Heap.get?_push_size _ rfl, rfl, rfl⟩, hl.push _⟩, fun i v s' Q' E' hP hQ => ?_, fun h' tk hk => ?_⟩
 ·have hP' : its[i]? = some v := by simpa using hP
  rw [hv, List.getElem?_map] at hP'
  obtain ⟨b, e, rfl⟩ := Option.map_eq_some_iff.mp hP'
  simp only [e, Option.getD_some] at hQ
  exact wpAny_truthy_bool hQ
 ·have e : ((List.range its.toArray.size).all fun i => (bs[i]?).getD true) = bs.all id := by
   rw [List.size_toArray, hv, List.length_map]; exact range_allB bs
  rw [e]
  exact fin_bl (I.kept (t' := tk) fun b x e => hk b x (fun hm => by rw [List.mem_singleton.mp hm] at e; exact Nat.lt_irrefl _ (Heap.lt_size e)) (Heap.get?_push_of_some _ e)) q rfl
theorem i_all {p : Addr} {bs : List Bool} {H : Hp} {Q : VK} (h : SqL K H p (bs.map V.bl)) (q : Q (.bl (bs.all id)) H) : rAll K [.ref p] H Q := ⟨p, bs, rfl, h, q⟩
def rIsB (neg : Bool) : R2 := fun x y H Q => ∃ a b : Bool, x = .bl a ∧ y = .bl b ∧ Q (.bl (if neg then !decide (a = b) else decide (a = b))) H
theorem i_isB {a b : Bool} {H : Hp} {Q : VK} (q : Q (.bl (decide (a = b))) H) : rIsB false (.bl a) (.bl b) H Q := ⟨a, b, rfl, rfl, q⟩
theorem i_isNotB {a b : Bool} {H : Hp} {Q : VK} (q : Q (.bl (!decide (a = b))) H) : rIsB true (.bl a) (.bl b) H Q := ⟨a, b, rfl, rfl, q⟩
end
end L2
namespace L2
open PySem PySem.Spec PyProof.Rows
theorem dict_mapFields (o : Obj) (g : Array Value → Array Value) : (o.mapFields g).dict = o.dict := by
 rcases o with ⟨c, d, dt, sl⟩
 cases dt <;> rfl
def TrD (h B : Heap) (e : Addr) (cls fl : Value) : Prop :=
 ∃ oe vs T oT ts, h.get? e = some oe ∧ (oe.cls = cls ∧ oe.dict = none) ∧ oe.data = .fields vs ∧ vs[1]? = some (.ref T) ∧ B.get? T = none ∧ T ≠ e ∧ h.get? T = some oT ∧ oT.data = .fields ts ∧ ts[3]? = some fl
structure FlyAt (B : Heap) (l : List Env) (e : Addr) (cls fl : Value) (h : Heap) : Prop where
 st : B.StaysIn h
 ne : B.get? e = none
 fr : h.FunFrames B l
 tr : TrD h B e cls fl
abbrev Fly (B : Heap) (l : List Env) (e : Addr) (cls : Value) (h : Heap) : Prop := FlyAt B l e cls .none h
theorem FlyAt.there {B : Heap} {l : List Env} {e : Addr} {cls fl : Value} {h : Heap} (x : FlyAt B l e cls fl h) : ∃ o vs, h.get? e = some o ∧ o.cls = cls ∧ o.dict = none ∧ o.data = .fields vs := by
 obtain ⟨oe, vs, T, oT, ts, h1, ⟨h2, h3⟩, h4, _⟩ := x.tr
 exact ⟨oe, vs, h1, h2, h3, h4⟩
section
variable {M : Model} {A : Around} {E : Value → Shared → Prop} {s : Shared} {B : Heap} {env : Env} {outer : List Env} {L e : Addr}
theorem fly_entry {oe : Obj} {vs : Array Value} {head : Value} {had : Bool} {Q : Unit → Shared → Prop} (hfr : A.frames = some (env :: outer)) (hl : s.heap.FunFrames B (env :: outer)) (hf : env.frame = some L) (he : s.heap.get? e = some oe) (hB : B.StaysIn s.heap) (hn : B.get? e = none) (hd : oe.data = .fields vs) (hz : 1 < vs.size) (hdn : oe.dict = none)
 (k : ∀ h', FlyAt B (env :: outer) e oe.cls (rawInt L) h' → s.heap.UpToSlots h' → Q () { s with heap := h' }) :
 wpAny M A (do let fr ← frameOf env; let pl ← entryPlaceOf L had; let tb ← EntryCells.newEntry head fr .none (rawInt L) .none pl; setField (.ref e) 1 tb) Q E s := by
 have noFr : e ∉ (env :: outer).filterMap (·.frame) := fun hm => by
  obtain ⟨_, ob, hob, hno⟩ := hl.mem hm
  rw [he] at hob
  cases hob
  exact hno vs hd
 refine wpAny_bind (wpAny_frameOf_fun hfr hl hf fun ha sa => ?_)
 refine wpAny_bind (wpAny_entryPlaceOf fun pl hpl => ?_)
 unfold EntryCells.newEntry newFields
 refine wpAny_bind (wpAny_newObj_type ?_ (hpl.sizeOk5 _ _ _ _ _))
 have ea : ha.get? e = some oe := by rw [sa.2.1 e noFr]; exact he
 have Ba : B.StaysIn ha := fun b o z => by
  rw [sa.2.1 b fun hm => by rw [(hl.mem hm).1] at z; cases z]
  exact hB b o z
 generalize hO : ({ cls := .type "traceback", dict := none, data := .fields ([head, .ref L, .none, rawInt L, .none] ++ (if pl.isEmpty then List.replicate 6 Value.none else pl)).toArray } : Obj) = oT
 have hOd : oT.data = .fields ([head, .ref L, .none, rawInt L, .none] ++ (if pl.isEmpty then List.replicate 6 Value.none else pl)).toArray := by rw [← hO]
 have hOf : oT.isFreed = false := Obj.isFreed_of_fields hOd
 have eb : (ha.push oT).get? e = some oe := Heap.get?_push_of_some _ ea
 have Tb : (ha.push oT).get? ha.objs.size = some oT := Heap.get?_push_size _ hOf
 have Te : ha.objs.size ≠ e := fun z => by rw [← z] at ea; exact absurd (Heap.lt_size ea) (Nat.lt_irrefl _)
 refine wpAny_setField eb hd hz (k _ ?_ ?_)
 ·have md := Obj.data_mapFields hd (·.setIfInBounds 1 (Value.ref ha.objs.size))
  have ec := Heap.get?_update_self (Obj.mapFields (·.setIfInBounds 1 (Value.ref ha.objs.size))) eb (Obj.isFreed_of_fields md)
  have Tc : ((ha.push oT).update e (Obj.mapFields (·.setIfInBounds 1 (Value.ref ha.objs.size)))).get? ha.objs.size = some oT := by rw [Heap.get?_update_other _ _ (Ne.symm Te)]; exact Tb
  have kc : ∀ b o, b ≠ e → ha.get? b = some o → ((ha.push oT).update e (Obj.mapFields (·.setIfInBounds 1 (Value.ref ha.objs.size)))).get? b = some o := fun b o nb z => by
   rw [Heap.get?_update_other _ _ (Ne.symm nb)]
   exact Heap.get?_push_of_some _ z
  refine ⟨fun b o z => kc b o (fun q => by rw [q, hn] at z; cases z) (Ba b o z), hn, hl.of_keeps fun b o z hno => ?_, ⟨_, _, ha.objs.size, oT, _, ec, ⟨Obj.cls_mapFields _ _, (dict_mapFields _ _).trans hdn⟩, md, by simp [hz], ?_, Te, Tc, hOd, ?_⟩⟩
  ·obtain ⟨sl, z2⟩ := sa.2.2 b o z
   exact ⟨_, kc b _ (fun q => by rw [q, he] at z; cases z; exact hno vs hd) z2, rfl⟩
  ·cases q : B.get? ha.objs.size with
   | none => rfl
   | some o => exact absurd (Heap.lt_size (Ba _ _ q)) (Nat.lt_irrefl _)
  ·rcases hpl with rfl | ⟨_, _, _, _, _, _, _, rfl⟩ <;> simp
 ·intro b o z hno
  obtain ⟨sl, z2⟩ := sa.2.2 b o z
  refine ⟨sl, ?_⟩
  have nb : b ≠ e := fun q => by rw [q, he] at z; cases z; exact hno vs hd
  show ((ha.push oT).update e _).get? b = _
  rw [Heap.get?_update_other _ _ (Ne.symm nb)]
  exact Heap.get?_push_of_some _ z2
theorem fly_lands {l : List Env} {cls fl : Value} {Q : Unit → Shared → Prop} (x : FlyAt B l e cls fl s.heap) (k : ∀ h', Fly B l e cls h' → s.heap.UpToSlots h' → Q () { s with heap := h' }) : wpAny M A (setFlight (.ref e) none) Q E s := by
 obtain ⟨x1, x2, x3, oe, vs, T, oT, ts, t1, t2, t3, t4, t5, t6, t7, t8, t9⟩ := x
 have sz : 3 < ts.size := (Array.getElem?_eq_some_iff.mp t9).1
 unfold setFlight
 refine wpAny_bind (wpAny_field t1 t3 t4 ?_)
 rw [if_pos (by simp)]
 have oth : ∀ b, b ≠ T → (s.heap.update T (Obj.mapFields (·.setIfInBounds 3 Value.none))).get? b = s.heap.get? b := fun b nb => Heap.get?_update_other _ _ (Ne.symm nb)
 have rec0 : ∀ b o, s.heap.get? b = some o → (∀ us, o.data ≠ .fields us) → b ≠ T := fun b o z hno q => by rw [q, t7] at z; cases z; exact hno ts t8
 refine wpAny_setField t7 t8 sz (k _ ⟨fun b o z => ?_, x2, x3.of_keeps fun b o z hno => ⟨o, (oth b (rec0 b o z hno)).trans z, rfl⟩, oe, vs, T, _, _, (oth e (Ne.symm t6)).trans t1, t2, t3, t4, t5, t6, Heap.get?_update_self _ t7 (Obj.isFreed_of_fields (Obj.data_mapFields t8 _)), Obj.data_mapFields t8 _, by simp [sz]⟩ fun b o z hno => ⟨o.slots, (oth b (rec0 b o z hno)).trans z⟩)
 exact (oth b fun q => by rw [q, t5] at z; cases z).trans (x1 b o z)
theorem fly_looks {cls : Value} {Q : Unit → Shared → Prop} (hfr : A.frames = some (env :: outer)) (hf : env.frame = some L) (x : Fly B (env :: outer) e cls s.heap) (k : ∀ h', FlyAt B (env :: outer) e cls (rawInt L) h' → s.heap.UpToSlots h' → Q () { s with heap := h' }) : wpAny M A (noteFrame (.ref e) env) Q E s := by
 obtain ⟨x1, x2, x3, oe, vs, T, oT, ts, t1, ⟨rfl, tdn⟩, t3, t4, t5, t6, t7, t8, t9⟩ := x
 unfold noteFrame
 simp only [hf]
 refine wpAny_bind (wpAny_field t1 t3 t4 ?_)
 rw [if_pos (by simp)]
 refine wpAny_bind (wpAny_field t7 t8 t9 ?_)
 rw [if_neg (by simp [rawInt])]
 refine wpAny_bind (wpAny_setField t7 t8 (Array.getElem?_eq_some_iff.mp t9).1 ?_)
 have oth : ∀ b, b ≠ T → (s.heap.update T (Obj.mapFields (·.setIfInBounds 3 Value.none))).get? b = s.heap.get? b := fun b nb => Heap.get?_update_other _ _ (Ne.symm nb)
 have rec0 : ∀ b o, s.heap.get? b = some o → (∀ us, o.data ≠ .fields us) → b ≠ T := fun b o z hno q => by rw [q, t7] at z; cases z; exact hno ts t8
 refine fly_entry (s := { s with heap := s.heap.update T (Obj.mapFields (·.setIfInBounds 3 Value.none)) }) hfr (x3.of_keeps fun b o z hno => ⟨o, (oth b (rec0 b o z hno)).trans z, rfl⟩) hf ((oth e (Ne.symm t6)).trans t1)
  (fun b o z => (oth b fun q => by rw [q, t5] at z; cases z).trans (x1 b o z)) x2 t3 (Array.getElem?_eq_some_iff.mp t4).1 tdn fun h' f u => k h' f fun b o z hno => u b o ((oth b (rec0 b o z hno)).trans z) hno
theorem fly_out {l : List Env} {cls fl : Value} {h : Heap} (x : FlyAt B (env :: l) e cls fl h) : FlyAt B l e cls fl h := ⟨x.st, x.ne, x.fr.2.2, x.tr⟩
theorem fly_on {cls : Value} {Q : Unit → Shared → Prop} (hfr : A.frames = some (env :: outer)) (hf : env.frame = some L) (x : Fly B (env :: outer) e cls s.heap) (k : ∀ h', Fly B outer e cls h' → s.heap.UpToSlots h' → Q () { s with heap := h' }) : wpAny M A (leaving env (.ref e)) Q E s := by
 unfold leaving
 refine wpAny_bind (fly_looks hfr hf x fun h1 f1 u1 => ?_)
 exact fly_lands (s := { s with heap := h1 }) f1 fun h2 f2 u2 => k h2 (fly_out f2) (u1.trans u2)
theorem fly_made {h : Heap} {cls : Value} {args : List Value} {Q : Unit → Shared → Prop} (hfr : A.frames = some (env :: outer)) (hf : env.frame = some L) (hB : B.StaysIn h) (hl : h.FunFrames B (env :: outer)) (hx : Heap.MadeExcOf h s.heap e cls args)
 (k : ∀ h', Fly B outer e cls h' → s.heap.UpToSlots h' → Q () { s with heap := h' }) : wpAny M A (leaving env (.ref e)) Q E s := by
 obtain ⟨t, he, _, _⟩ := hx.there
 have hn : B.get? e = none := by
  cases q : B.get? e with
  | none => rfl
  | some o =>
    have := hB e o q
    rw [hx.new] at this
    cases this
 unfold leaving noteFrame
 simp only [hf]
 refine wpAny_bind (wpAny_bind (wpAny_field he rfl (x := .none) rfl ?_))
 rw [if_neg (by decide)]
 refine fly_entry hfr (hl.of_keeps fun b o z _ => ⟨o, hx.keeps b o z, rfl⟩) hf he (fun b o z => hx.keeps b o (hB b o z)) hn rfl (by simp) rfl fun h1 f1 u1 => ?_
 exact fly_lands (s := { s with heap := h1 }) f1 fun h2 f2 u2 => k h2 (fly_out f2) (u1.trans u2)
end
end L2
namespace L2
open PySem PySem.Spec PyProof.Rows
section
variable {P : Program} {w : World} {H : Hp} {h h' : Heap} {a : Addr} {o : HO}
theorem ObjOk.there (x : ObjOk P w H h a o) : ∃ ob, h.get? a = some ob := by
 cases o with
 | lst xs => obtain ⟨_, _, _, _, e⟩ := x; exact ⟨_, e⟩
 | tup xs => obtain ⟨_, _, _, ob, e, _⟩ := x; exact ⟨_, e⟩
 | dK kvs => obtain ⟨_, _, _, _, o, _, _, e, _⟩ := x; exact ⟨_, e⟩
 | dT kvs => obtain ⟨_, _, _, _, o, _, _, e, _⟩ := x; exact ⟨_, e⟩
 | set S n => obtain ⟨o, _, _, _, e, _⟩ := x; exact ⟨_, e⟩
 | ins C dx fs => obtain ⟨_, _, _, e, _⟩ := x; exact ⟨_, e⟩
 | own y => obtain ⟨_, e⟩ := x; exact ⟨_, e⟩
 | xd fs => obtain ⟨_, ⟨_, _, _, e, _⟩, _⟩ := x; exact ⟨_, e⟩
 | rng lo hi => obtain ⟨_, _, _, e⟩ := x; exact ⟨_, e⟩
 | frz ob u => obtain ⟨e, _⟩ := x; exact ⟨_, e⟩
 | tbl ps => exact ⟨_, (show h.get? a = some _ from x)⟩
 | met f y => exact ⟨_, (show h.get? a = some _ from x)⟩
 | ext φ => obtain ⟨_, e, _⟩ := x; exact e
theorem HOk.tracked (x : HOk P w H h) (k : ∀ b u, H b ≠ none → h.get? b = some u → h'.get? b = some u) : HOk P w H h' := fun b u e =>
 (x b u e).stay (fun c v hc q => k c v (by rcases hc with z | z <;> rw [z] <;> simp_all) q) (fun _ z => z) (fun _ _ z => z)
end
def CXE (P : Program) (w : World) : CXT := fun outer H s E v s' => ∃ (e : Addr) (cls : Value) (B : Heap) (H' : Hp), v = .ref e ∧ s'.os = s.os ∧ AllBare s'.gens ∧ Un (frs outer) [] H H' s.heap s'.heap ∧ HOk P w H' s'.heap ∧
 Fly B outer e cls s'.heap ∧ (∀ b o, s.heap.get? b = some o → b ∉ frs outer → ∃ o', B.get? b = some o') ∧ (∀ b, H' b ≠ none → ∃ o, B.get? b = some o) ∧ E cls none H'
section
variable {P : Program} {w : World} {K : PySem.W.Frag} {mg : Str → Option Value} {base : Heap} {N : List Str} {qual : Str} {scope : Scope} {f : Addr} {cd : Value} {A : Around} {outer : List Env} {s : Shared} {H : Hp} {E : XK}
theorem xe_made {pins : List (Addr × Obj)} {σ : St} {H1 : Hp} {s1 : Shared} {h1 : Heap} {e : Addr} {cls : Value} {vs : List Value}
 (I : Inv ((cxOf (CXE P w) P w K mg base N qual scope f cd A outer s H E)) pins σ H1 s1) (hx : Heap.MadeExcOf s1.heap h1 e cls vs) (q : E cls none H1) :
 (cxOf (CXE P w) P w K mg base N qual scope f cd A outer s H E).xe (.ref e) { s1 with heap := h1 } := by
 have hst : s1.heap.FunFrames base (envOfC qual scope s.heap.objs.size f cd :: outer) := I.stack
 have hfr : (A.deeper (envOfC qual scope s.heap.objs.size f cd)).frames = some (envOfC qual scope s.heap.objs.size f cd :: outer) := I.ok.frames
 have hin : ∀ env ∈ (envOfC qual scope s.heap.objs.size f cd :: outer), ∀ b, env.frame = some b → b ∈ frs (envOfC qual scope s.heap.objs.size f cd :: outer) := fun env he b hb => List.mem_filterMap.mpr ⟨env, he, hb⟩
 have hB := PySem.W.funFrames_hide hst hin
 have hloc : (envOfC qual scope s.heap.objs.size f cd).frame = some s.heap.objs.size := rfl
 have hfree : ∀ b ∈ frs (envOfC qual scope s.heap.objs.size f cd :: outer), H1 b = none := I.stkFree
 have hcons : frs (envOfC qual scope s.heap.objs.size f cd :: outer) = s.heap.objs.size :: frs outer := by unfold frs; rw [List.filterMap_cons, hloc]
 refine fly_made (B := PySem.W.hideAll s1.heap (frs (envOfC qual scope s.heap.objs.size f cd :: outer))) hfr hloc (fun b o z => PySem.W.of_hideAll _ z) hB hx fun h2 k1 k4 => ?_
 generalize hBB : PySem.W.hideAll s1.heap (frs (envOfC qual scope s.heap.objs.size f cd :: outer)) = B at *
 have toB : ∀ b o, s1.heap.get? b = some o → b ∉ frs (envOfC qual scope s.heap.objs.size f cd :: outer) → B.get? b = some o := fun b o z n => by rw [← hBB]; exact PySem.W.hideAll_get _ z n
 have keepAll : ∀ b o, s1.heap.get? b = some o → b ∉ frs (envOfC qual scope s.heap.objs.size f cd :: outer) → h2.get? b = some o := fun b o z n => k1.st b o (toB b o z n)
 have base0 : Un (frs outer) [] H H1 s.heap s1.heap := I.base
 have notLoc : ∀ b o, s.heap.get? b = some o → b ∉ frs outer → b ∉ frs (envOfC qual scope s.heap.objs.size f cd :: outer) := fun b o z n hm => by
  rw [hcons] at hm
  rcases List.mem_cons.mp hm with e | e
  ·exact absurd (Heap.lt_size z) (by rw [e]; exact Nat.lt_irrefl _)
  ·exact n e
 have trackedB : ∀ b u, H1 b = some u → ∃ o, B.get? b = some o := fun b u z => by
  obtain ⟨o, ho⟩ := (I.hok b u z).there
  exact ⟨o, toB b o ho fun hm => by rw [hfree b hm] at z; cases z⟩
 refine ⟨e, cls, B, H1, rfl, I.os, I.bare, ?_, ?_, k1, ?_, ?_, q⟩
 ·refine ⟨fun b o z n hb hx' => keepAll b o (base0.keep b o z n hb hx') (notLoc b o z hb), fun b o z n hb hx' => ?_, base0.free, fun b o z hx' => ?_, base0.tups, base0.frzs, base0.tbls⟩
  ·obtain ⟨sl, z1⟩ := base0.slot b o z n hb hx'
   have hm : b ∈ frs (envOfC qual scope s.heap.objs.size f cd :: outer) := by rw [hcons]; exact List.mem_cons_of_mem _ hb
   obtain ⟨_, o', ho', hd⟩ := hst.mem hm
   rw [z1] at ho'
   cases ho'
   obtain ⟨sl2, z2⟩ := k4 b _ (hx.keeps b _ z1) hd
   exact ⟨sl2, z2⟩
  ·obtain ⟨o1, z1⟩ := base0.there b o z hx'
   by_cases hm : b ∈ frs (envOfC qual scope s.heap.objs.size f cd :: outer)
   ·obtain ⟨_, o', ho', hd⟩ := hst.mem hm
    rw [z1] at ho'
    cases ho'
    obtain ⟨sl2, z2⟩ := k4 b _ (hx.keeps b _ z1) hd
    exact ⟨_, z2⟩
   ·exact ⟨o1, keepAll b o1 z1 hm⟩
 ·exact HOk.tracked I.hok fun b u n z => keepAll b u z fun hm => n (hfree b hm)
 ·intro b o z n
  obtain ⟨o1, z1⟩ := base0.there b o z (by simp)
  exact ⟨o1, toB b o1 z1 (notLoc b o z n)⟩
 ·intro b n
  cases z : H1 b with
  | none => exact absurd z n
  | some u => exact trackedB b u z
theorem pass_exc {E' : XK} (hE : ∀ c d H', E' c d H' → E c d H') : Passes (CXE P w) (cxOf (CXE P w) P w K mg base N qual scope f cd A outer s H E) E' := by
 rintro pins σ H1 s1 v s2 I ⟨e, cls, B, H2, rfl, os, bare, un, hok, hfl, hfresh, htr, q⟩
 have hst : s1.heap.FunFrames base (envOfC qual scope s.heap.objs.size f cd :: outer) := I.stack
 have hfr : (A.deeper (envOfC qual scope s.heap.objs.size f cd)).frames = some (envOfC qual scope s.heap.objs.size f cd :: outer) := I.ok.frames
 have hloc : (envOfC qual scope s.heap.objs.size f cd).frame = some s.heap.objs.size := rfl
 have hcons : frs (envOfC qual scope s.heap.objs.size f cd :: outer) = s.heap.objs.size :: frs outer := by unfold frs; rw [List.filterMap_cons, hloc]
 have base0 : Un (frs outer) [] H H1 s.heap s1.heap := I.base
 have un' : Un (frs (envOfC qual scope s.heap.objs.size f cd :: outer)) [] H1 H2 s1.heap s2.heap := un
 have hfl' : Fly B (envOfC qual scope s.heap.objs.size f cd :: outer) e cls s2.heap := hfl
 have hfresh' : ∀ b o, s1.heap.get? b = some o → b ∉ frs (envOfC qual scope s.heap.objs.size f cd :: outer) → ∃ o', B.get? b = some o' := hfresh
 have hfree : ∀ b ∈ frs (envOfC qual scope s.heap.objs.size f cd :: outer), H1 b = none := I.stkFree
 refine fly_on (s := s2) hfr hloc hfl' fun h3 k1 k2 => ?_
 have notLoc : ∀ b o, s.heap.get? b = some o → b ∉ frs outer → b ∉ frs (envOfC qual scope s.heap.objs.size f cd :: outer) := fun b o z n hm => by
  rw [hcons] at hm
  rcases List.mem_cons.mp hm with e | e
  ·exact absurd (Heap.lt_size z) (by rw [e]; exact Nat.lt_irrefl _)
  ·exact n e
 have inB : ∀ b o, s2.heap.get? b = some o → (∃ o', B.get? b = some o') → h3.get? b = some o := fun b o z ⟨o', z'⟩ => by
  have := hfl'.st b o' z'
  rw [z] at this
  cases this
  exact k1.st b o z'
 refine ⟨e, cls, B, H2, rfl, os.trans I.os, bare, ?_, ?_, k1, ?_, htr, hE _ _ _ q⟩
 ·refine ⟨fun b o z n hb hx' => ?_, fun b o z n hb hx' => ?_, fun b o z n hx' => ?_, fun b o z hx' => ?_, fun b xs z => un'.tups b xs (base0.tups b xs z), fun b o u z => un'.frzs b o u (base0.frzs b o u z), fun b ps z => ?_⟩
  ·have z1 := base0.keep b o z n hb hx'
   have n1 := base0.free b o z n hx'
   have nb := notLoc b o z hb
   exact inB b o (un'.keep b o z1 n1 nb hx') (hfresh' b o z1 nb)
  ·obtain ⟨sl, z1⟩ := base0.slot b o z n hb hx'
   have n1 := base0.free b o z n hx'
   have hm : b ∈ frs (envOfC qual scope s.heap.objs.size f cd :: outer) := by rw [hcons]; exact List.mem_cons_of_mem _ hb
   obtain ⟨sl2, z2⟩ := un'.slot b _ z1 n1 hm hx'
   obtain ⟨_, o', ho', hd⟩ := hst.mem hm
   rw [z1] at ho'
   cases ho'
   obtain ⟨sl3, z3⟩ := k2 b _ z2 hd
   exact ⟨sl3, z3⟩
  ·obtain ⟨sl, z1⟩ := base0.any z n hx'
   exact un'.free b _ z1 (base0.free b o z n hx') hx'
  ·obtain ⟨o1, z1⟩ := base0.there b o z hx'
   obtain ⟨o2, z2⟩ := un'.there b o1 z1 hx'
   by_cases hm : b ∈ frs (envOfC qual scope s.heap.objs.size f cd :: outer)
   ·obtain ⟨_, o', ho', hd⟩ := hfl'.fr.mem hm
    rw [z2] at ho'
    cases ho'
    obtain ⟨sl3, z3⟩ := k2 b _ z2 hd
    exact ⟨_, z3⟩
   ·exact ⟨o2, inB b o2 z2 (hfresh' b o1 z1 hm)⟩
  ·obtain ⟨m1, z1⟩ := base0.tbls b ps z
   obtain ⟨m2, z2⟩ := un'.tbls b _ z1
   exact ⟨m1 ++ m2, by rw [z2, Array.append_assoc]⟩
 ·exact HOk.tracked hok fun b u n z => inB b u z (htr b n)
 ·intro b o z n
  obtain ⟨o1, z1⟩ := base0.there b o z (by simp)
  exact hfresh' b o1 z1 (notLoc b o z n)
end
end L2
namespace L2
open PySem PySem.Spec PyProof.Rows
theorem exc_obj {K : PySem.W.Frag} {h : Heap} {C : Addr} {bmB : List Value} {newId : String} (kin : K.In h) (hq : PySem.W.excIn K C bmB newId = true) :
 ∃ bm nsp nm qn bs hd sn sub ab col dd k0 k1 k2 k3 k5 mN, h.get? C = some (excClassObj nm qn C nsp bs bm hd sn sub ab col dd k0 k1 k2 k3 k5 newId) ∧ h.Ns nsp mN ∧ mN "__init__" = none ∧ OwnTail h bmB bm := by
 unfold PySem.W.excIn at hq
 split at hq
 case h_2 => cases hq
 case h_1 dd cd sl look =>
  split at hq
  case h_2 => cases hq
  case h_1 C' bm k0 k1 k2 k3 n k5 mroE slE =>
   simp only [Bool.and_eq_true, beq_iff_eq, Bool.not_eq_true'] at hq
   obtain ⟨⟨⟨⟨⟨c1, c2⟩, c3⟩, c4⟩, c5⟩, c6⟩ := hq
   subst c1 c2
   rcases cd with ⟨nm, bs, mro, nsp, qn, hd, sn, sub, ab, col, del⟩
   dsimp only at mroE c3 c5 c6
   subst mroE c3
   have slA : sl = #[k0, k1, k2, k3, some (.builtin n), k5] := by
    rcases sl with ⟨lst⟩
    exact congrArg Array.mk slE
   subst slA
   exact ⟨bm, nsp, nm, qn, bs, hd, sn, sub, ab, col, dd, k0, k1, k2, k3, k5, _, kin _ _ look, .of_isNs (PySem.W.isNs_of_in kin c5), PySem.W.nsMap_none_of_in kin c5 c6, PySem.W.tail_of_in kin c4⟩
structure ExcCls (K : PySem.W.Frag) (mg : Str → Option Value) (x : Str) (C : Addr) (bmB : List Value) (newId : String) : Prop where
 at_ : mg x = some (.ref C)
 obj : PySem.W.excIn K C bmB newId = true
def tRaise (C : Addr) (E : XK) (t : TA) : TS := fun _ σ H => t σ H fun vs H1 => vs.length ≤ 3 ∧ E (.ref C) none H1
section
variable {P : Program} {w : World} {K : PySem.W.Frag} {mg : Str → Option Value} {base : Heap} {N : List Str} {qual : Str} {scope : Scope} {f : Addr} {cd : Value} {A : Around} {outer : List Env} {s : Shared} {H : Hp} {E : XK}
theorem ps_raise {x : Str} {C : Addr} {bmB : List Value} {B newId initId : String} {np cpos pos : Pos} {e0 : Expr} {es : List Expr} {t : TA} (hc : ExcCls K mg x C bmB newId) (F : ExcBaseFacts B newId initId bmB)
 (hg : Gl (cxOf (CXE P w) P w K mg base N qual scope f cd A outer s H E) x) (ha : PA (cxOf (CXE P w) P w K mg base N qual scope f cd A outer s H E) (e0 :: es) t)
 (he : starEach (e0 :: es) (envOfC qual scope s.heap.objs.size f cd) = (false, eval e0 (envOfC qual scope s.heap.objs.size f cd)) :: starEach es (envOfC qual scope s.heap.objs.size f cd) := by rfl)
 (hpl : (backTo cpos (starEach es (envOfC qual scope s.heap.objs.size f cd))).any (·.1) = false := by rfl) (hdb : (x == ("__debug__" : Str)) = false := by decide) :
 PS (cxOf (CXE P w) P w K mg base N qual scope f cd A outer s H E) (.Raise (some (.Call (.Name x np) (e0 :: es) [] cpos)) none pos) (tRaise C E t) := by
 intro pins s1 σ H1 D I q
 obtain ⟨bm, nsp, nm, qn, bs, hd, sn, sub, ab, col, dd, k0, k1, k2, k3, k5, mN, o1, o2, o3, o4⟩ := exc_obj I.ok.mod.kin hc.obj
 refine wpAny_Raise_call_subT F (o4.hasType F.hasBase) (I.ok.hd rfl) (by
  show (backTo cpos (starEach (e0 :: es) (envOfC qual scope s.heap.objs.size f cd))).any (·.1) = false
  rw [he]; show (false || (backTo cpos (starEach es (envOfC qual scope s.heap.objs.size f cd))).any (·.1)) = false; rw [hpl]; rfl) o3 ?_ (nm := nm) (q := qn) (C := C) (N := nsp) (bs := bs) (bm := bm) (hdct := hd) (sn := sn) (sub := sub) (ab := ab) (col := col) (dd := dd) (k0 := k0) (k1 := k1) (k2 := k2) (k3 := k3) (k5 := k5)
 refine ld_glob I hg hc.at_ ⟨rfl, ?_⟩ hdb
 have hs := ha cpos pins s1 σ H1 _ I q
 show wpAny _ _ (evalArgs (.ref C) true (backTo cpos (starEach (e0 :: es) (envOfC qual scope s.heap.objs.size f cd))) []) _ _ _
 change wpAny _ _ (spliced (backTo cpos (starEach (e0 :: es) (envOfC qual scope s.heap.objs.size f cd)))) _ _ _ at hs
 rw [he] at hs ⊢
 refine Calls.evalArgs_plain (wpAny_mono hs (fun us s2 h2 => ?_) fun _ _ z => z)
 obtain ⟨vs, H2, I2, r2, hl, q2⟩ := h2
 have hul : us.length ≤ 3 := by rw [← r2.length]; exact hl
 exact ⟨rfl, Nat.le_trans hul (by rw [sizeLine_eq]; decide), I2.bk _ _ o1, o2.keeps I2.bk, o4.keeps I2.bk, fun h' e hm => xe_made I2 hm q2⟩
def CalleeE (P : Program) (w : World) (K : PySem.W.Frag) (mg : Str → Option Value) (base : Heap) (x : Str) (k : Nat) (sp : Sp) : Prop :=
 ∃ f fd ps, FnOk P w K mg base (CXE P w) k f fd ps sp ∧ mg x = some (.ref f) ∧ PySem.W.keepIn K (.ref f) = true ∧ Binds K fd ps []
theorem Def.okE {x : Str} {st : Stmt} {N ps : List Str} {k : Nat} {sp : Sp} (D : Def K mg x st) (S : FnScope N ps (defScope st))
 (bd : ∀ (kV doc pm : Value) (an : Option Addr) (cdv ct : Value) (us : List Value), us.length = ps.length → bindArgs (PySem.W.fnOf x x (defArgs st) (defBody st) (defScope st) .none kV doc pm an cdv ct) ⟨us, []⟩ = pure (ps.zip us))
 (len : ∀ vs H Q E, sp vs H Q E → vs.length = ps.length)
 (hbody : ∀ (f : Addr) (cdv : Value) (A : Around) (outer : List Env) (s : Shared) (H : Hp) (vs : List V) (Q : VK) (E : XK), Room k (A.deeper (envOfC x (defScope st) s.heap.objs.size f cdv)) → sp vs H Q E →
  ∃ t, PSs (cxOf (CXE P w) P w K mg base N x (defScope st) f cdv A outer s H E) (defBody st) t ∧ t { nx := fun _ H' => Q .non H', rt := Q } (start N vs) H) : CalleeE P w K mg base x (k + 1) sp := by
 obtain ⟨f, fd, F, hm⟩ := D
 have Fk := F.kp
 have Fb := F.binds bd
 obtain ⟨oc, od, kV, doc, pm, an, cdv, ct, osl, rfl, lk, hcd⟩ := F.ex
 exact ⟨f, _, ps, fn_of lk hcd S len fun A outer s H vs Q E hr hsp => hbody f cdv A outer s H vs Q E hr hsp, hm, Fk, Fb⟩
theorem pe_callE {x : Str} {k : Nat} {sp : Sp} {e0 : Expr} {es : List Expr} {t : TA} {p pos : Pos} {E' : XK} (C : CalleeE P w K mg base x k sp) (hr : Room k (A.deeper (envOfC qual scope s.heap.objs.size f cd))) (hg : Gl (cxOf (CXE P w) P w K mg base N qual scope f cd A outer s H E) x)
 (ha : PA (cxOf (CXE P w) P w K mg base N qual scope f cd A outer s H E) (e0 :: es) t) (hE : ∀ c d H', E' c d H' → E c d H' := by exact fun _ _ _ z => z)
 (he : starEach (e0 :: es) (envOfC qual scope s.heap.objs.size f cd) = (false, eval e0 (envOfC qual scope s.heap.objs.size f cd)) :: starEach es (envOfC qual scope s.heap.objs.size f cd) := by rfl)
 (hpl : (backTo pos (starEach es (envOfC qual scope s.heap.objs.size f cd))).any (·.1) = false := by rfl) (hdb : (x == ("__debug__" : Str)) = false := by decide) :
 PE (cxOf (CXE P w) P w K mg base N qual scope f cd A outer s H E) (.Call (.Name x p) (e0 :: es) [] pos) (tCall sp [] E' t) := by
 obtain ⟨f', fd, ps, F, hm, hk, hb⟩ := C
 exact pe_call F hr hg hm hk hb .nil (pass_exc hE) ha (hdb := hdb) (he := he) (hpl := hpl)
end
end L2
namespace L2
open PySem PySem.Spec PyProof.Rows
section
theorem un_fly {l : List Env} {H1 H2 : Hp} {h1 h2 h3 B : Heap} (u : Un (frs l) [] H1 H2 h1 h2) (hs : B.StaysIn h2) (hf : h2.FunFrames B l) (hfresh : ∀ b o, h1.get? b = some o → b ∉ frs l → ∃ o', B.get? b = some o') (k1 : B.StaysIn h3) (k2 : h2.UpToSlots h3) : Un (frs l) [] H1 H2 h1 h3 := by
 have inB : ∀ b o, h2.get? b = some o → (∃ o', B.get? b = some o') → h3.get? b = some o := fun b o z ⟨o', z'⟩ => by
  have := hs b o' z'
  rw [z] at this
  cases this
  exact k1 b o z'
 refine ⟨fun b o z n hb hx => inB b o (u.keep b o z n hb hx) (hfresh b o z hb), fun b o z n hb hx => ?_, u.free, fun b o z hx => ?_, u.tups, u.frzs, u.tbls⟩
 ·obtain ⟨sl, z1⟩ := u.slot b o z n hb hx
  obtain ⟨_, o', ho', hd⟩ := hf.mem hb
  rw [z1] at ho'
  cases ho'
  obtain ⟨sl2, z2⟩ := k2 b _ z1 hd
  exact ⟨sl2, z2⟩
 ·obtain ⟨o2, z2⟩ := u.there b o z hx
  by_cases hm : b ∈ frs l
  ·obtain ⟨_, o', ho', hd⟩ := hf.mem hm
   rw [z2] at ho'
   cases ho'
   obtain ⟨sl3, z3⟩ := k2 b _ z2 hd
   exact ⟨_, z3⟩
  ·exact ⟨o2, inB b o2 z2 (hfresh b o z hm)⟩
theorem hok_fly {P : Program} {w : World} {H2 : Hp} {h2 h3 B : Heap} (x : HOk P w H2 h2) (hs : B.StaysIn h2) (htr : ∀ b, H2 b ≠ none → ∃ o, B.get? b = some o) (k1 : B.StaysIn h3) : HOk P w H2 h3 :=
 HOk.tracked x fun b u n z => by
  obtain ⟨o', z'⟩ := htr b n
  have := hs b o' z'
  rw [z] at this
  cases this
  exact k1 b _ z'
variable {X : Cx}
abbrev Cx.inTry (X : Cx) (pins : List (Addr × Obj)) (ξ : Value → Shared → Prop) : Cx := { X with pn := X.pn ++ pins, xe := ξ }
theorem Cx.Ok.inTry (ok : X.Ok) (pins : List (Addr × Obj)) (ξ : Value → Shared → Prop) : (X.inTry pins ξ).Ok :=
 ⟨ok.mod, ok.kind, ok.glob, ok.blt, ok.above, ok.inj, ok.has, ok.cab, ok.hd, ok.frames, ok.stk, ok.exf, ok.bs, ok.bsz, ok.noex, ok.exfs, ok.funs, ok.frf⟩
theorem Cx.Ok.outTry {pins : List (Addr × Obj)} {ξ : Value → Shared → Prop} (ok : (X.inTry pins ξ).Ok) : X.Ok :=
 ⟨ok.mod, ok.kind, ok.glob, ok.blt, ok.above, ok.inj, ok.has, ok.cab, ok.hd, ok.frames, ok.stk, ok.exf, ok.bs, ok.bsz, ok.noex, ok.exfs, ok.funs, ok.frf⟩
theorem Inv.inTry {pins : List (Addr × Obj)} {σ : St} {H : Hp} {s : Shared} (I : Inv X pins σ H s) (ξ : Value → Shared → Prop) : Inv (X.inTry pins ξ) [] σ H s :=
 ⟨I.ok.inTry pins ξ, I.os, I.bare, I.base, I.loc, I.cell, I.free, I.freeC, fun p hp => I.pin p (by simpa using hp), I.hok, I.len⟩
theorem Inv.outTry {pins pins' : List (Addr × Obj)} {σ : St} {H : Hp} {s : Shared} {ξ : Value → Shared → Prop} (I : Inv (X.inTry pins ξ) pins' σ H s) : Inv X pins σ H s :=
 ⟨I.ok.outTry, I.os, I.bare, I.base, I.loc, I.cell, I.free, I.freeC, fun p hp => I.pin p (List.mem_append_left _ hp), I.hok, I.len⟩
def tCallS (sp : Sp) (Ex : St → XK) (t : TA) : TE := fun σ H Q => t σ H fun vs H1 => sp (vs ++ []) H1 Q (Ex σ)
def PassS (X : Cx) (Ex : St → XK) : Prop := ∀ (pins : List (Addr × Obj)) (σ : St) (H : Hp) (s : Shared) (e : Value) (s' : Shared), Inv X pins σ H s → CXE X.prog X.w X.stack H s (Ex σ) e s' → X.xe e s'
theorem pe_callS {x : Str} {k : Nat} {sp : Sp} {e : Expr} {es : List Expr} {t : TA} {p pos : Pos} {Ex : St → XK} (C : CalleeE X.prog X.w X.K X.mg X.base x k sp) (hr : Room k X.A) (hg : Gl X x) (hx : PassS X Ex) (ha : PA X (e :: es) t)
 (he : starEach (e :: es) X.env = (false, eval e X.env) :: starEach es X.env := by rfl) (hpl : (backTo pos (starEach es X.env)).any (·.1) = false := by rfl) (hdb : (x == ("__debug__" : Str)) = false := by decide) :
 PE X (.Call (.Name x p) (e :: es) [] pos) (tCallS sp Ex t) := by
 obtain ⟨f, fd, ps, F, hm, hk, hb⟩ := C
 walk_at "z3"
 refine wpAny_Call_Name_kw (ld_glob I hg hm ?_ hdb)
 walk_at "z21"
 have r2 : Vals (vs ++ []) (us ++ []) := r.append .nil
 have hl : (us ++ []).length = ps.length := by rw [← r2.length]; exact F.len _ _ _ _ q
 refine wpAny_call (codeAny_mono (F.run X.A X.stack s1 H1 ⟨us, []⟩ (us ++ []) (vs ++ []) Q (Ex σ) hr I1.env0 (hb s1 us I1.kIn hl) r2 q) fun r3 s' hq => ?_)
 cases r3 with
 | error v => exact hx pins σ H1 s1 v s' I1 hq
 | ok fl =>
   cases fl with
   | ret u => exact I1.after hq
   | next => exact False.elim hq
   | brk => exact False.elim hq
   | cont => exact False.elim hq
theorem Inv.trackN {pins : List (Addr × Obj)} {σ : St} {H : Hp} {s : Shared} {D : Addr} {o : HO} (I : Inv X pins σ H s) (hn : H D = none) (hL : D ≠ X.env.locals) (h1 : X.s₀.heap.get? D = none)
 (h2 : ∀ x c, X.env.cells.lookup x = some c → c ≠ D) (h3 : ∀ p ∈ X.pn ++ pins, p.1 ≠ D) (new : ObjOk X.prog X.w (upd H D o) s.heap D o) : Inv X pins σ (upd H D o) s := by
 have up : ∀ b u, H b = some u → upd H D o b = some u := fun b u e => by rw [upd_ne (ne_of_none e hn)]; exact e
 have un : ∀ b, b ≠ D → H b = none → upd H D o b = none := fun b hb e => by rw [upd_ne hb]; exact e
 refine ⟨I.ok, I.os, I.bare, ⟨I.base.keep, I.base.slot, fun b ob e n hx => un b (fun z => by rw [z, h1] at e; cases e) (I.base.free b ob e n hx), I.base.there, fun b xs e => up _ _ (I.base.tups b xs e), fun b ob u e => up _ _ (I.base.frzs b ob u e), fun b ps e => ?_⟩,
  I.loc, I.cell, un _ (Ne.symm hL) I.free, fun x c e => un _ (h2 x c e) (I.freeC x c e), fun p hp => ?_, fun b u e => ?_, I.len⟩
 ·obtain ⟨m, e'⟩ := I.base.tbls b ps e
  exact ⟨m, up _ _ e'⟩
 ·obtain ⟨e, n, r⟩ := I.pin p hp
  exact ⟨e, un _ (h3 p hp) n, r⟩
 ·by_cases hb : b = D
  ·subst hb
   rw [upd_same] at e
   cases e
   exact new
  ·rw [upd_ne hb] at e
   exact (I.hok b u e).stay (fun _ _ _ z => z) (fun c z => up _ _ z) fun c xs z => up _ _ z
def ExcAt (e : Addr) (cls : Value) : Heap → Prop := fun h => ∃ o vs, h.get? e = some o ∧ o.cls = cls ∧ o.dict = none ∧ o.data = .fields vs
theorem excAt_ok {P : Program} {w : World} {H : Hp} {h : Heap} {e : Addr} {cls : Value} (x : ExcAt e cls h) : ObjOk P w H h e (.ext (ExcAt e cls)) := by
 obtain ⟨o, vs, z, c⟩ := x
 exact ⟨⟨o, vs, z, c⟩, ⟨o, z⟩, fun h1 h2 ⟨o1, vs1, z1, c1⟩ k => ⟨o1, vs1, k o1 z1, c1⟩⟩
theorem comes {pins : List (Addr × Obj)} {σ : St} {H1 : Hp} {s1 s2 : Shared} {Ex : XK} {v : Value} {Q : Flow → Shared → Prop} {E : Value → Shared → Prop} {hs : List ExceptHandler} (hstk : X.stack = X.env :: X.outer) (hf : X.env.frame = some X.env.locals) (hex : X.ex = []) (I : Inv X pins σ H1 s1)
 (hq : CXE X.prog X.w X.stack H1 s1 Ex v s2)
 (k : ∀ (e : Addr) (cls : Value) (B : Heap) (H2 : Hp), v = .ref e → Ex cls none H2 → H2 e = none →
  (∀ h6, Fly B X.stack e cls h6 → s2.heap.UpToSlots h6 → Inv X pins σ (upd H2 e (.ext (ExcAt e cls))) { s2 with heap := h6 }) →
  ∀ h3, Fly B X.stack e cls h3 → s2.heap.UpToSlots h3 → wpAny (model X.prog X.w) X.A (handleBy (.ref e) X.env hs) Q E { s2 with heap := h3 }) :
 wpAny (model X.prog X.w) X.A (noteFrame v X.env) (fun _ s3 => wpAny (model X.prog X.w) X.A (setFlight v none) (fun _ s4 => wpAny (model X.prog X.w) X.A (handleBy v X.env hs) Q E s4) E s3) E s2 := by
 obtain ⟨e, cls, B, H2, rfl, os, bare, un, hok, hfl, hfresh, htr, q⟩ := hq
 have hfr : X.A.frames = some (X.env :: X.outer) := by rw [← hstk]; exact I.ok.frames
 have hfl' := hfl
 rw [hstk] at hfl'
 have hnew : s1.heap.get? e = none := by
  cases z : s1.heap.get? e with
  | none => rfl
  | some o =>
    exfalso
    by_cases hm : e ∈ frs X.stack
    ·obtain ⟨oe, vs, T, oT, ts, he, _, hd, _⟩ := hfl.tr
     obtain ⟨_, o', ho', hd'⟩ := hfl.fr.mem hm
     rw [he] at ho'
     cases ho'
     exact hd' vs hd
    ·obtain ⟨o', z'⟩ := hfresh e o z hm
     rw [hfl.ne] at z'
     cases z'
 have hHe : H2 e = none := by
  cases z : H2 e with
  | none => rfl
  | some u =>
    obtain ⟨o, z'⟩ := htr e (by rw [z]; exact fun y => by cases y)
    rw [hfl.ne] at z'
    cases z'
 have inv6 : ∀ h6, Fly B X.stack e cls h6 → s2.heap.UpToSlots h6 → Inv X pins σ (upd H2 e (.ext (ExcAt e cls))) { s2 with heap := h6 } := fun h6 fl up => by
  have u6 : Un (frs X.stack) [] H1 H2 s1.heap h6 := un_fly un hfl.st hfl.fr hfresh fl.st up
  have I6 : Inv X pins σ H2 { s2 with heap := h6 } := I.call' (s' := { s2 with heap := h6 }) os u6 (hok_fly hok hfl.st htr fl.st) bare (fun b z => absurd z (by simp))
  have hs0 : X.s₀.heap.get? e = none := by
   cases z : X.s₀.heap.get? e with
   | none => rfl
   | some o =>
     obtain ⟨o', z'⟩ := I.base.there e o z (by rw [hex]; simp)
     rw [hnew] at z'
     cases z'
  refine I6.trackN hHe (fun z => ?_) hs0 (fun x c hc z => ?_) (fun p hp z => ?_) (excAt_ok fl.there)
  ·obtain ⟨m, hn, _⟩ := I.loc
   obtain ⟨o, _, _, ho, _⟩ := hn
   rw [← z, hnew] at ho
   cases ho
  ·obtain ⟨v', o, ho, _⟩ := I.cell x c hc
   rw [z, hnew] at ho
   cases ho
  ·have := (I.pin p hp).1
   rw [z, hnew] at this
   cases this
 refine fly_looks (s := s2) hfr hf hfl' fun h4 held4 up4 => ?_
 refine fly_lands held4 fun h5 fl5 up5 => ?_
 exact k e cls B H2 rfl q hHe inv6 h5 (by rw [hstk]; exact fl5) (up4.trans up5)
abbrev Cx.inClause (X : Cx) (pins : List (Addr × Obj)) (e : Addr) : Cx := { X with A := X.A.mark (some (.ref e)), calm := false, pn := X.pn ++ pins, xe := fun _ _ => False }
theorem Inv.inClause {pins : List (Addr × Obj)} {σ : St} {H : Hp} {s : Shared} (I : Inv X pins σ H s) (e : Addr) : Inv (X.inClause pins e) [] σ H s :=
 ⟨⟨I.ok.mod, I.ok.kind, I.ok.glob, I.ok.blt, I.ok.above, I.ok.inj, I.ok.has, I.ok.cab, fun h => (by cases h), I.ok.frames, I.ok.stk, I.ok.exf, I.ok.bs, I.ok.bsz, I.ok.noex, I.ok.exfs, I.ok.funs, I.ok.frf⟩, I.os, I.bare, I.base, I.loc, I.cell, I.free, I.freeC, fun p hp => I.pin p (by simpa using hp), I.hok, I.len⟩
theorem Inv.outClause {pins pins' : List (Addr × Obj)} {σ : St} {H : Hp} {s : Shared} {e : Addr} (ok : X.Ok) (I : Inv (X.inClause pins e) pins' σ H s) : Inv X pins σ H s :=
 ⟨ok, I.os, I.bare, I.base, I.loc, I.cell, I.free, I.freeC, fun p hp => I.pin p (List.mem_append_left _ hp), I.hok, I.len⟩
theorem Inv.unset {pins : List (Addr × Obj)} {σ : St} {H : Hp} {s : Shared} {M : Model} {A : Around} {E : Value → Shared → Prop} {n : Str} {j : Nat} {pos : Pos} {Q : Unit → Shared → Prop} (I : Inv X pins σ H s) (hN : X.N.Nodup) (hj : X.N[j]? = some n) (hl : X.env.kindOf n = some .local)
 (h : ∀ s', Inv X pins (σ.set j none) H s' → Q () s') : wpAny M A (do bindName X.env n .none; unbindBehindTheSuite X.env n pos) Q E s := by
 obtain ⟨m, hn, hm⟩ := id I.loc
 have hcls : (X.env.scope.kind == .class || (X.env.scope.kind == .module && X.env.locals != X.env.globals)) = false := by rw [I.ok.kind]; rfl
 refine wpAny_nameGoes_keeps hl hn hcls fun h' v hn' hs => h _ ?_
 have far : ∀ b o, X.s₀.heap.get? b = some o → b ≠ X.env.locals := fun b o e => Nat.ne_of_lt (Nat.lt_of_lt_of_le (Heap.lt_size e) I.ok.above)
 refine ⟨I.ok, I.os, I.bare, ⟨fun b o e nn hb hx => (hs.2 b (far b o e)).trans (I.base.keep b o e nn hb hx), fun b o e nn hb hx => ?_, I.base.free, fun b o e hx => ?_, I.base.tups, I.base.frzs, I.base.tbls⟩, ⟨_, hn', fun i y v' e1 e2 e3 => ?_⟩, fun y c e => ?_, I.free, I.freeC, fun p hp => ?_, ?_, by simpa using I.len⟩
 ·obtain ⟨sl, e1⟩ := I.base.slot b o e nn hb hx
  exact ⟨sl, (hs.2 b (far b o e)).trans e1⟩
 ·obtain ⟨o', e1⟩ := I.base.there b o e hx
  exact ⟨o', (hs.2 b (far b o e)).trans e1⟩
 ·by_cases hij : i = j
  ·subst hij
   rw [List.getElem?_set] at e2
   split at e2
   ·split at e2 <;> cases e2
   ·exact absurd rfl (by assumption)
  ·rw [List.getElem?_set_ne (Ne.symm hij)] at e2
   obtain ⟨u', r', q⟩ := hm i y v' e1 e2 e3
   refine ⟨u', r', ?_⟩
   have hyn : y ≠ n := fun e => hij (nodup_ix hN e1 (e ▸ hj))
   rcases q with ⟨k, e⟩ | ⟨k, c, e, z⟩
   ·exact .inl ⟨k, by simp [hyn, e]⟩
   ·exact .inr ⟨k, c, e, z.sameBut hs (I.cne y c e)⟩
 ·obtain ⟨w', z⟩ := I.cell y c e
  exact ⟨w', z.sameBut hs (I.cne y c e)⟩
 ·obtain ⟨e, nn, ne, nf, d⟩ := I.pin p hp
  exact ⟨(hs.2 p.1 ne).trans e, nn, ne, nf, d⟩
 ·exact HOk.tracked I.hok fun b u nn z => (hs.2 b fun e => nn (by rw [e]; exact I.free)).trans z
def tTry (K : PySem.W.Frag) (TC : Addr) (j : Nat) (tb : (St → XK) → TS) (ts : TS) : TS := fun D σ H =>
 tb (fun σ' cls _ H' => PySem.W.exmOne K cls (.ref TC) = some true ∧ ∀ e, H' e = none → ts { nx := fun σ2 H2 => D.nx (σ2.set j none) H2, rt := fun _ _ => False } (σ'.set j (some (.ref e))) (upd H' e (.ext (ExcAt e cls)))) D σ H
theorem ps_try {T n : Str} {TC : Addr} {j : Nat} {body : List Stmt} {b0 : Stmt} {suite : List Stmt} {tb : (St → XK) → TS} {ts : TS} {np hpos pos : Pos} (hstk : X.stack = X.env :: X.outer) (hf : X.env.frame = some X.env.locals) (hex : X.ex = [])
 (hT : X.mg T = some (.ref TC)) (hgT : Gl X T) (hN : X.N.Nodup) (hj : X.N[j]? = some n) (hl : X.env.kindOf n = some .local) (hl2 : X.env.scope.names.lookup n = some .local)
 (hb : ∀ (pins : List (Addr × Obj)) (ξ : Value → Shared → Prop) (Ex : St → XK), PassS (X.inTry pins ξ) Ex → PSs (X.inTry pins ξ) body (tb Ex))
 (hs : ∀ (pins : List (Addr × Obj)) (e : Addr), PSs (X.inClause pins e) (b0 :: suite) ts) (hdb : (T == ("__debug__" : Str)) = false := by decide) :
 PS X (.Try body [.ExceptHandler (some (.Name T np)) (some n) (b0 :: suite) hpos] [] [] pos) (tTry X.K TC j tb ts) := by
 intro pins s σ H D I q
 refine wpAny_Try_except ?_
 have hp : PassS (X.inTry pins (fun v s1 => wpAny (model X.prog X.w) X.A (noteFrame v X.env) (fun _ s2 => wpAny (model X.prog X.w) X.A (setFlight v none) (fun _ s3 => wpAny (model X.prog X.w) X.A (handleBy v X.env [.ExceptHandler (some (.Name T np)) (some n) (b0 :: suite) hpos]) (SP X pins D) X.xe s3) X.xe s2) X.xe s1))
  (fun σ' cls _ H' => PySem.W.exmOne X.K cls (.ref TC) = some true ∧ ∀ e, H' e = none → ts { nx := fun σ2 H2 => D.nx (σ2.set j none) H2, rt := fun _ _ => False } (σ'.set j (some (.ref e))) (upd H' e (.ext (ExcAt e cls)))) := by
  intro pins' σ' H' s' v s2 I' hq
  refine comes hstk hf hex I'.outTry hq fun e cls B H2 hv hE hHe inv6 h3 fl3 up3 => ?_
  obtain ⟨hx, hk⟩ := hE
  have I3 := inv6 h3 fl3 up3
  have I3c := I3.inClause e
  refine wpAny_handleBy_cons (codeAny_handlers_test ?_) (by intro z; cases z)
  refine ld_glob (X := X.inClause pins e) I3c hgT hT ?_ hdb
  obtain ⟨oe, _, hoe, hoc, _⟩ := fl3.there
  have LT : PySem.W.Looks (model X.prog X.w) h3 (typeOf (.ref e)) cls := by
   rw [← hoc]
   exact (PySem.W.Looks.ld hoe).andThen .now
  refine PySem.W.exm_one I3.kIn LT hx _ _ _ _ (fun _ _ z => z) ?_
  refine codeAny_handlers_suite_as ?_
  refine fly_lands (s := { s2 with heap := h3 }) fl3 fun h6 fl6 up6 => ?_
  have I6 := inv6 h6 fl6 (up3.trans up6)
  have I6c := I6.inClause e
  refine store_ok (X := X.inClause pins e) (v := .ref e) I6c hN hj (.inl hl2) rfl (fun s7 I7 => ?_) (.inr hl2)
  refine wpAny_mono (hs pins e [] s7 _ _ _ I7 (hk e hHe)) (fun f s8 h8 => ?_) (fun _ _ z => False.elim z)
  cases f with
  | next =>
    obtain ⟨σ8, H8, I8, q8⟩ := h8
    exact Inv.unset (I8.outClause I6.ok) hN hj hl fun s9 I9 => ⟨_, _, I9, q8⟩
  | ret u => obtain ⟨_, _, _, _, _, z⟩ := h8; exact False.elim z
  | brk => obtain ⟨_, _, _, z⟩ := h8; exact False.elim z
  | cont => obtain ⟨_, _, _, z⟩ := h8; exact False.elim z
 have hbody := hb pins _ _ hp [] s σ H D (I.inTry _) q
 refine wpAny_mono hbody (fun f s1 h1 => ?_) (fun _ _ z => z)
 cases f with
 | next =>
   obtain ⟨σ1, H1, I1, q1⟩ := h1
   exact wpAny_execs_nil ⟨σ1, H1, I1.outTry, q1⟩
 | ret u => obtain ⟨v, σ1, H1, I1, r1, q1⟩ := h1; exact ⟨v, σ1, H1, I1.outTry, r1, q1⟩
 | brk => obtain ⟨σ1, H1, I1, q1⟩ := h1; exact ⟨σ1, H1, I1.outTry, q1⟩
 | cont => obtain ⟨σ1, H1, I1, q1⟩ := h1; exact ⟨σ1, H1, I1.outTry, q1⟩
end
end L2
namespace L2
open PySem PySem.Spec PyProof.Rows
structure RoomN (k : Nat) (A : Around) : Prop where
 dp : A.depth + 3 * k + 5 < recursionLimit
 un : A.units + 16 * k + 200 < cLine
theorem RoomN.deeper {k : Nat} {A : Around} (r : RoomN (k + 1) A) (env : Env) : RoomN k (A.deeper env) :=
 ⟨by have := r.dp; show A.depth + 1 + 3 * k + 5 < _; lia, by have := r.un; show A.units + 3 + 16 * k + 200 < _; lia⟩
theorem Room.noted {k : Nat} {A : Around} (r : Room k A) (v : Option Value) : RoomN k (A.mark v) := ⟨r.dp, r.un⟩
structure FnOkN (P : Program) (w : World) (K : PySem.W.Frag) (mg : Str → Option Value) (base : Heap) (k : Nat) (f : Addr) (fd : FuncData) (ps : List Str) (sp : Sp) : Prop where
 len : ∀ vs H Q E, sp vs H Q E → vs.length = ps.length
 run : ∀ (A : Around) (outer : List Env) (s : Shared) (H : Hp) (args : Args) (us : List Value) (vs : List V) (Q : VK) (E : XK), RoomN k A → Env0 P w K mg base A outer s H → BindsTo s fd args (ps.zip us) → Vals vs us → sp vs H Q E →
  codeAny (model P w) A (.call (.ref f) args) (CR CX0 outer P w H s Q E) s
def CalleeN (P : Program) (w : World) (K : PySem.W.Frag) (mg : Str → Option Value) (base : Heap) (x : Str) (k : Nat) (sp : Sp) : Prop :=
 ∃ f fd ps, FnOkN P w K mg base k f fd ps sp ∧ mg x = some (.ref f) ∧ PySem.W.keepIn K (.ref f) = true ∧ Binds K fd ps []
abbrev cxN (P : Program) (w : World) (K : PySem.W.Frag) (mg : Str → Option Value) (base : Heap) (N : List Str) (qual : Str) (scope : Scope) (f : Addr) (cd : Value) (A : Around) (outer : List Env) (s : Shared) (H : Hp) (E : XK) : Cx :=
 { cxOf CX0 P w K mg base N qual scope f cd A outer s H E with calm := false, xe := fun _ _ => False }
section
variable {P : Program} {w : World} {K : PySem.W.Frag} {mg : Str → Option Value} {base : Heap}
theorem inv_startN {N ps : List Str} {qual : Str} {scope : Scope} {f : Addr} {cd : Value} {A : Around} {outer : List Env} {s s1 : Shared} {H : Hp} {E : XK} {us : List Value} {vs : List V} (S : FnScope N ps scope) (e0 : Env0 P w K mg base A outer s H) (hl : vs.length = ps.length) (r : Vals vs us)
 (x : InCallC s s.heap.objs.size (bindL (envOfC qual scope s.heap.objs.size f cd).kindOf (ps.zip us) fun _ => none) (cellsFrom (s.heap.objs.size + 1) scope.names []) (bindC (envOfC qual scope s.heap.objs.size f cd).kindOf (ps.zip us) fun _ => none) s1) :
 Inv (cxN P w K mg base N qual scope f cd A outer s H E) [] (start N vs) H s1 := by
 have I := inv_start (CX := CX0) (E := E) (A := { A with handled := none }) (qual := qual) (f := f) (cd := cd) S rfl ⟨e0.frames, e0.mod, e0.bs, e0.bsz, e0.funs, e0.frf, e0.hok, e0.bare⟩ hl r x
 exact ⟨⟨I.ok.mod, I.ok.kind, I.ok.glob, I.ok.blt, I.ok.above, I.ok.inj, I.ok.has, I.ok.cab, fun h => (by cases h), Around.frames_deeper e0.frames, I.ok.stk, I.ok.exf, I.ok.bs, I.ok.bsz, I.ok.noex, I.ok.exfs, I.ok.funs, I.ok.frf⟩,
  I.os, I.bare, I.base, I.loc, I.cell, I.free, I.freeC, I.pin, I.hok, I.len⟩
theorem Def.okN {x : Str} {st : Stmt} {N ps : List Str} {k : Nat} {sp : Sp} (D : Def K mg x st) (S : FnScope N ps (defScope st))
 (bd : ∀ (kV doc pm : Value) (an : Option Addr) (cdv ct : Value) (us : List Value), us.length = ps.length → bindArgs (PySem.W.fnOf x x (defArgs st) (defBody st) (defScope st) .none kV doc pm an cdv ct) ⟨us, []⟩ = pure (ps.zip us))
 (len : ∀ vs H Q E, sp vs H Q E → vs.length = ps.length)
 (hbody : ∀ (f : Addr) (cdv : Value) (A : Around) (outer : List Env) (s : Shared) (H : Hp) (vs : List V) (Q : VK) (E : XK), RoomN k (A.deeper (envOfC x (defScope st) s.heap.objs.size f cdv)) → sp vs H Q E →
  ∃ t, PSs (cxN P w K mg base N x (defScope st) f cdv A outer s H E) (defBody st) t ∧ t { nx := fun _ H' => Q .non H', rt := Q } (start N vs) H) : CalleeN P w K mg base x (k + 1) sp := by
 obtain ⟨f, fd, F, hm⟩ := D
 have Fk := F.kp
 have Fb := F.binds bd
 obtain ⟨oc, od, kV, doc, pm, an, cdv, ct, osl, rfl, lk, hcd⟩ := F.ex
 refine ⟨f, _, ps, ⟨len, fun A outer s H args us vs Q E hr e0 hb r hsp => ?_⟩, hm, Fk, Fb⟩
 have KX : K.In s.heap := e0.mod.kin.keeps fun b o e => (e0.bs b o e).1
 have lim : s.heap.NoLimit := e0.mod.nolimit.keeps fun b o e => (e0.bs b o e).1
 have hkind : ∀ y ∈ ps.zip us, (defScope st).names.lookup y.1 = some .local ∨ ((defScope st).names.lookup y.1 = some .cell ∧ ((cellsFrom (s.heap.objs.size + 1) (defScope st).names []).lookup y.1).isSome = true) := fun ⟨n, v⟩ hy => by
  rcases S.par n (List.of_mem_zip hy).1 with q | q
  ·exact .inl q
  ·exact .inr ⟨q, PySem.W.cellsFrom_some _ _ _ (.inl q)⟩
 refine codeAny_call_function (by have := hr.dp; lia) (KX _ _ lk) rfl S.co S.gen rfl (PySem.W.codeRec_of KX hcd) (hb _ _ _ _ ?_)
 refine wpAny_newFunctionEnv_cells S.kind hkind fun env he s1 x1 => ?_
 subst he
 refine ⟨lim.keeps x1.toInCall.keep, codeAny_func ?_⟩
 obtain ⟨t, ht, hq⟩ := hbody f cdv A outer s H vs Q E (hr.deeper _) hsp
 have I := inv_startN (E := E) S e0 (len _ _ _ _ hsp) r x1
 refine wpAny_mono (ht [] s1 (start N vs) H _ I hq) (fun fl s' hs => ?_) fun e s' hs => False.elim hs
 have fin : ∀ {σ' : St} {H' : Hp} {v : V} {u : Value}, Inv (cxN P w K mg base N x (defScope st) f cdv A outer s H E) [] σ' H' s' → RelV v u → Q v H' → CE outer P w H s Q u s' :=
  fun {σ' H' v u} J rv q => ⟨v, H', J.os, J.bare, J.base, J.hok, rv, q⟩
 cases fl with
 | ret u =>
   obtain ⟨v, σ', H', J, rv, q⟩ := hs
   exact fin J rv q
 | next =>
   obtain ⟨σ', H', J, q⟩ := hs
   exact fin (v := V.non) (u := Value.none) J rfl q
 | brk =>
   obtain ⟨_, _, _, q⟩ := hs
   exact False.elim q
 | cont =>
   obtain ⟨_, _, _, q⟩ := hs
   exact False.elim q
end
section
variable {X : Cx}
theorem pe_callC {x : Str} {k : Nat} {sp : Sp} {e : Expr} {es : List Expr} {t : TA} {p pos : Pos} (C : CalleeN X.prog X.w X.K X.mg X.base x k sp) (hr : RoomN k X.A) (hg : Gl X x) (ha : PA X (e :: es) t)
 (he : starEach (e :: es) X.env = (false, eval e X.env) :: starEach es X.env := by rfl) (hpl : (backTo pos (starEach es X.env)).any (·.1) = false := by rfl) (hdb : (x == ("__debug__" : Str)) = false := by decide) :
 PE X (.Call (.Name x p) (e :: es) [] pos) (tCall sp [] E0 t) := by
 obtain ⟨f, fd, ps, F, hm, hk, hb⟩ := C
 walk_at "z3"
 refine wpAny_Call_Name_kw (ld_glob I hg hm ?_ hdb)
 walk_at "z21"
 have r2 : Vals (vs ++ []) (us ++ []) := r.append .nil
 have hl : (us ++ []).length = ps.length := by rw [← r2.length]; exact F.len _ _ _ _ q
 refine wpAny_call (codeAny_mono (F.run X.A X.stack s1 H1 ⟨us, []⟩ (us ++ []) (vs ++ []) Q E0 hr I1.env0 (hb s1 us I1.kIn hl) r2 q) fun r3 s' hq => ?_)
 cases r3 with
 | error v => exact False.elim hq
 | ok fl =>
   cases fl with
   | ret u => exact I1.after hq
   | next => exact False.elim hq
   | brk => exact False.elim hq
   | cont => exact False.elim hq
theorem pe_globR {x : Str} {a : Addr} {pos : Pos} (hm : X.mg x = some (.ref a)) (hg : Gl X x) (hd : (x == ("__debug__" : Str)) = false := by decide) : PE X (.Name x pos) (tC (.ref a)) := fun pins s σ H Q I q =>
 ld_glob I hg hm ⟨.ref a, H, I, rfl, q⟩ hd
end
end L2
namespace L2
open PySem PySem.Spec PyProof.Rows
structure IsiCls (K : PySem.W.Frag) (D : Addr) : Prop where
 ga : PySem.W.findIn K (.ref D) "__getattribute__" = some (some (.builtin "BaseException.__getattribute__"))
 gt : PySem.W.findIn K (.ref D) "__getattr__" = some none
 mb : PySem.W.mroIn K D (.type "BaseException") = some true
 hd : PySem.W.hasDictIn K D = true
 ca : PySem.W.findIn K (.ref D) "__class__" = some (some (.builtin "object.__class__"))
 sp : PySem.W.specialIn K (.builtin "object.__class__") "__get__" = some (some (.builtin "getset_descriptor.__get__"))
 tk : PySem.W.takesIn K (.builtin "object.__class__") = some true
 mr : PySem.W.mroIn K D (.type "object") = some true
theorem excAt_inst {h : Heap} {x D : Addr} (e : ExcAt x (.ref D) h) : ∃ ox, PySem.W.InstAt h x ox D none := by
 obtain ⟨o, vs, z, c, d, f⟩ := e
 refine ⟨o, z, c, ?_, ?_⟩
 ·rcases o with ⟨c', d', dt, sl⟩
  dsimp only at f
  subst f
  rfl
 ·rw [d]
  trivial
theorem exc_class_attr {K : PySem.W.Frag} {x D : Addr} {ox : Obj} {prog : Program} {w : World} {A : Around} {E : Value → Shared → Prop} {s : Shared} {Q : Option Value → Shared → Prop}
 (X : K.In s.heap) (I : PySem.W.InstAt s.heap x ox D none) (C : IsiCls K D) (h : Q (some (.ref D)) { s with toks := s.toks + 1 }) : wpAny (model prog w) A (getAttr? (.ref x) "__class__") Q E s := by
 have hf : PySem.W.findObj K D none "__class__" = some (.bind (.builtin "getset_descriptor.__get__") (.builtin "object.__class__")) := by
  obtain ⟨cd, hc, _⟩ := PySem.W.any_some C.hd
  unfold PySem.W.findObj
  rw [hc]
  simp only [Option.bind_some, C.ca, C.sp, C.tk]
 obtain ⟨hh, g, d, t, os⟩ := s
 have L0 := I.type (M := model prog w)
 have L1 := PySem.W.looks_findIn (M := model prog w) X C.ga
 have L2 := PySem.W.looks_findIn (M := model prog w) X C.gt
 have L3 := PySem.W.looks_mroIn (M := model prog w) X C.mb
 have L4 := PySem.W.looks_find (M := model prog w) X I hf
 have hk : builtinKind "BaseException.__getattribute__" = some .slot := by decide +kernel
 have hsplit : splitId "BaseException.__getattribute__" = some ("BaseException", "__getattribute__") := by decide +kernel
 unfold getAttr? getAttrBy? getAttrBy
 refine wpAny_bind (wpAny_mkText (wpAny_bind (wpAny_attempt (wpAny_holding (wpAny_bind (L0.at (wpAny_bind (L1.at ?_))))))))
 show wpAny _ _ (getAttrByItsOwn _ _ _ _ _ _) _ _ _
 unfold getAttrByItsOwn
 refine wpAny_bind (L2.at (wpAny_bind (wpAny_attempt (wpAny_holding ?_))))
 show wpAny _ _ (boundAndCalled _ _ _) _ _ _
 unfold boundAndCalled
 rw [PySem.F.attr_ValueError.ga.bind]
 refine wpAny_bind (wpAny_pure (wpAny_call (codeAny_call_builtin PySem.F.attr_ValueError.ga.plain PySem.F.entry_bexc_ga ?_)))
 have ha := PySem.F.args_bexc_ga (.ref x) (.str "__class__" t)
 simp only [checkBuiltinCall, hk, hsplit]
 refine wpAny_bind ?_
 unfold isInstance
 refine wpAny_bind (L0.at (L3.at ?_))
 repeat (first | with_reducible refine L4.at ?_ | with_reducible refine L0.at ?_ | wp_step)
 refine PySem.W.class_get (s := ⟨hh, g, d, t + 1, os⟩) (ox := ox) (od := none) X I C.mr ?_
 refine wpAny_pure ?_
 exact PySem.W.handed_on rfl (wpAny_pure h)
theorem kitx_exc {K : PySem.W.Frag} {x D : Addr} (C : IsiCls K D) : PySem.W.KitX K (.ref x) (.ref D) (ExcAt x (.ref D)) where
 ty := fun _ _ _ e => by
  obtain ⟨ox, I⟩ := excAt_inst e
  exact I.type
 it := fun _ _ kin _ => by
  obtain ⟨cd, hc, _⟩ := PySem.W.any_some C.hd
  unfold PySem.W.clsIn at hc
  split at hc
  case h_2 => cases hc
  case h_1 look =>
   intro A' Q' E' s' k q
   unfold isType loadHead
   exact wpAny_bind (wpAny_loadPart (k _ _ (kin _ _ look)) (wpAny_pure q))
 ne := fun h tp dd its n sl kin htp => by
  obtain ⟨cd, hc, _⟩ := PySem.W.any_some C.hd
  cases q : ((Value.ref D) == .ref tp) with
  | false => rfl
  | true =>
    have e : D = tp := Value.ref.inj (beq_iff_eq.mp q)
    unfold PySem.W.clsIn at hc
    split at hc
    case h_2 => cases hc
    case h_1 look =>
     rw [e] at look
     have z := kin _ _ look
     rw [htp] at z
     cases z
 ca := fun {prog w A E Q s} kin e k => by
  obtain ⟨ox, I⟩ := excAt_inst e
  exact exc_class_attr kin I C k
def rIsiX (K : PySem.W.Frag) : List V → Hp → VK → Prop := fun xs H Q => ∃ (e D : Addr) (x : V) (c : Value) (b : Bool), xs = [.ref e, x] ∧ (∀ u, RelV x u → u = c) ∧ H e = some (.ext (ExcAt e (.ref D))) ∧ IsiCls K D ∧ PySem.W.kitOne K (.ref D) c = some b ∧ Q (.bl b) H
theorem call_isinstanceX {X : Cx} (K : PySem.W.Frag) (hK : X.K = K := by rfl) : CallR X (.builtin "isinstance") (rIsiX K) := by
 subst hK
 intro pins s σ H xs us Q I r h
 obtain ⟨e, D, x, c, b, rfl, hc, he, C, hk, q⟩ := h
 obtain ⟨u, c', rfl, rx, rc⟩ := vals2 r
 cases (show u = Value.ref e from rx)
 cases hc c' rc
 have he' : ObjOk X.prog X.w H s.heap e (.ext (ExcAt e (.ref D))) := I.hok e _ he
 exact PySem.W.kia_one (kitx_exc C) I.kIn he'.1 hk (fun z => nomatch z) fun tk => ⟨.bl b, H, I.tok tk, rfl, q⟩
end L2
namespace L2
open PySem PySem.Spec PyProof.Rows
def CalleeM (CX : CXT) (P : Program) (w : World) (K : PySem.W.Frag) (mg : Str → Option Value) (base : Heap) (C : Addr) (m : Str) (k : Nat) (sp : Sp) : Prop :=
 ∃ f fd ps, FnOk P w K mg base CX k f fd ps sp ∧ Meth K C m f ∧ Binds K fd ps []
def CalleeC (CX : CXT) (P : Program) (w : World) (K : PySem.W.Frag) (mg : Str → Option Value) (base : Heap) (C : Addr) (x : Str) (k : Nat) (sp : Sp) : Prop :=
 ∃ f fd ps, FnOk P w K mg base CX k f fd ps sp ∧ Mk K C f ∧ mg x = some (.ref C) ∧ Binds K fd ps []
def DefM (K : PySem.W.Frag) (C : Addr) (m qual : Str) (st : Stmt) : Prop := ∃ f fd, Fun K m qual st f fd ∧ Meth K C m f
section
variable {P : Program} {w : World} {K : PySem.W.Frag} {mg : Str → Option Value} {base : Heap} {C : Addr} {m qual : Str} {st : Stmt} {N ps : List Str} {k : Nat} {sp : Sp}
theorem DefM.ok (D : DefM K C m qual st) (S : FnScope N ps (defScope st))
 (bd : ∀ (kV doc pm : Value) (an : Option Addr) (cdv ct : Value) (us : List Value), us.length = ps.length → bindArgs (PySem.W.fnOf m qual (defArgs st) (defBody st) (defScope st) .none kV doc pm an cdv ct) ⟨us, []⟩ = pure (ps.zip us))
 (len : ∀ vs H Q E, sp vs H Q E → vs.length = ps.length)
 (hbody : ∀ (f : Addr) (cdv : Value) (A : Around) (outer : List Env) (s : Shared) (H : Hp) (vs : List V) (Q : VK) (E : XK), Room k (A.deeper (envOfC qual (defScope st) s.heap.objs.size f cdv)) → sp vs H Q E →
  ∃ t, PSs (cxOf CX0 P w K mg base N qual (defScope st) f cdv A outer s H E).nox (defBody st) t ∧ t { nx := fun _ H' => Q .non H', rt := Q } (start N vs) H) : CalleeM CX0 P w K mg base C m (k + 1) sp := by
 obtain ⟨f, fd, F, hm⟩ := D
 exact ⟨f, fd, ps, F.ok S len fun cdv A outer s H vs Q E hr h => hbody f cdv A outer s H vs Q E hr h, hm, F.binds bd⟩
theorem CalleeM.made {CX : CXT} {x : Str} (M : CalleeM CX P w K mg base C "__init__" k sp) (h1 : PySem.W.makesIn K C = true) (h2 : PySem.W.keepIn K (.ref C) = true) (h3 : mg x = some (.ref C)) : CalleeC CX P w K mg base C x k sp := by
 obtain ⟨f, fd, ps, F, hm, hb⟩ := M
 exact ⟨f, fd, ps, F, ⟨h1, hm.at_, hm.fn, h2⟩, h3, hb⟩
end
section
variable {X : Cx} (K : PySem.W.Frag) {C : Addr} {m x : Str} {k : Nat} {sp : Sp} {e o : Expr} {es : List Expr} {ta : TE} {t : TA} {p pos apos : Pos} {f : Str} {tv : TE} {value : Expr} {pos' : Pos}
theorem pe_fldK (he : PE X e ta) (hb : attributeBase e f X.env (eval e X.env) = eval e X.env) (hK : X.K = K := by rfl) : PE X (.Attribute e f pos) (tFld K ta f) := by subst hK; exact pe_fld he hb
theorem ps_fldK (ha : PE X o ta) (hv : PE X value tv) (hs : swapsWith value (some (.Attribute o f pos')) pos.line X.env = pure false) (hK : X.K = K := by rfl) : PS X (.Assign [.Attribute o f pos'] value pos) (sFld K ta tv f) := by subst hK; exact ps_fld ha hv hs
theorem pe_methN {pl : Sem Bool} (M : CalleeM CX0 X.prog X.w X.K X.mg X.base C m k sp) (c : Cls X.K C) (he : PE X o ta) (hr : Room k X.A) (ha : PA X (e :: es) t)
 (hst : starEach (e :: es) X.env = (false, eval e X.env) :: starEach es X.env := by rfl) (hpl : (backTo pos (starEach es X.env)).any (·.1) = false := by rfl)
 (ht : eval (.Call (.Attribute o m apos) (e :: es) [] pos) X.env = (do
  let ov ← eval o X.env
  standAt apos.atName
  let (f, first) ← holding [ov] (getMethod ov m pl)
  callWith pos f first (backTo pos (starEach (e :: es) X.env)) (backToKw pos (keywordEach [] X.env))) := by rfl) : PE X (.Call (.Attribute o m apos) (e :: es) [] pos) (tMeth C m sp [] E0 ta t) := by
 obtain ⟨f, fd, ps, F, hm, hb⟩ := M
 exact pe_meth (pl := pl) he c hm F hr hb .nil pass0 ha (hst := hst) (hpl := hpl) (ht := ht)
theorem pe_meth0N {pl : Sem Bool} (M : CalleeM CX0 X.prog X.w X.K X.mg X.base C m k sp) (c : Cls X.K C) (he : PE X o ta) (hr : Room k X.A)
 (ht : eval (.Call (.Attribute o m apos) [] [] pos) X.env = (do
  let ov ← eval o X.env
  standAt apos.atName
  let (f, first) ← holding [ov] (getMethod ov m pl)
  callWith pos f first (backTo pos (starEach [] X.env)) (backToKw pos (keywordEach [] X.env))) := by rfl) : PE X (.Call (.Attribute o m apos) [] [] pos) (tMeth C m sp [] E0 ta tNil) := by
 obtain ⟨f, fd, ps, F, hm, hb⟩ := M
 exact pe_meth0 (pl := pl) he c hm F hr hb .nil pass0 (ht := ht)
theorem pe_makeN (M : CalleeC CX0 X.prog X.w X.K X.mg X.base C x k sp) (hr : Room (k + 1) X.A) (hg : Gl X x) (ha : PA X (e :: es) t)
 (he : starEach (e :: es) X.env = (false, eval e X.env) :: starEach es X.env := by rfl) (hpl : (backTo pos (starEach es X.env)).any (·.1) = false := by rfl) (hdb : (x == ("__debug__" : Str)) = false := by decide) :
 PE X (.Call (.Name x p) (e :: es) [] pos) (tMake C sp [] E0 t) := by
 obtain ⟨f, fd, ps, F, hM, hm, hb⟩ := M
 exact pe_make hM F hr hg hm hb .nil pass0 ha (hdb := hdb) (he := he) (hpl := hpl)
def tMethS (C : Addr) (m : Str) (sp : Sp) (Ex : St → XK) (ta : TE) (t : TA) : TE := fun σ H Q => ta σ H fun x H1 => ∃ a dx fs, x = .ref a ∧ H1 a = some (.ins C dx fs) ∧ fs.lookup m = none ∧
 t σ H1 fun vs H2 => sp (x :: (vs ++ [])) H2 Q (Ex σ)
end
end L2
namespace M
def keeps : List Int → Int → List Int → Prop
 | p :: ps, a, x :: xs => (x - a ≤ p ∧ a - x ≤ p) ∧ keeps ps x xs
 | _, _, _ => True
theorem dropc {α : Type} {xs : List α} {i : Nat} {x : α} (h : xs[i]? = some x) : xs.drop i = x :: xs.drop (i + 1) := by
 obtain ⟨hl, e⟩ := List.getElem?_eq_some_iff.mp h
 rw [List.drop_eq_getElem_cons hl, e]
theorem take_snoc_get {α : Type} {xs : List α} {j : Nat} {x : α} (h : xs[j]? = some x) : xs.take (j + 1) = xs.take j ++ [x] := by
 rw [List.take_add_one, h]; rfl
end M
namespace M
def sumR (f : Nat → Int) : Nat → Int
 | 0 => 0
 | n + 1 => sumR f n + f n
theorem sumR_congr {f g : Nat → Int} : ∀ {n : Nat}, (∀ i, i < n → f i = g i) → sumR f n = sumR g n
 | 0, _ => rfl
 | n + 1, h => by simp only [sumR]; rw [sumR_congr fun i hi => h i (by lia), h n (by lia)]
theorem sumR_zero : ∀ n, sumR (fun _ => 0) n = 0
 | 0 => rfl
 | n + 1 => by simp only [sumR, sumR_zero n]; rfl
abbrev Sw3 := Int × Int × Int
def fsum (F : Int → Int → Bool) (sws : List Sw3) : Int := (sws.map fun s => if F s.1 s.2.1 then s.2.2 else 0).sum
def wsum (sws : List Sw3) (lo hi : Int) : Int := fsum (fun a b => decide (a = lo ∧ b = hi)) sws
def ret (sws : List Sw3) (h l : Int) : Int := fsum (fun a b => decide (b ≤ h ∧ a < l)) sws
def okS (top : Int) (s : Sw3) : Prop := 0 ≤ s.1 ∧ s.1 < s.2.1 ∧ s.2.1 ≤ top
theorem fsum_cons (F : Int → Int → Bool) (s : Sw3) (sws : List Sw3) : fsum F (s :: sws) = (if F s.1 s.2.1 then s.2.2 else 0) + fsum F sws := by simp [fsum]
theorem fsum_append (F : Int → Int → Bool) (a b : List Sw3) : fsum F (a ++ b) = fsum F a + fsum F b := by simp [fsum]
theorem fsum_filter (F : Int → Int → Bool) : ∀ sws : List Sw3, fsum F (sws.filter fun s => decide (s.2.2 ≠ 0)) = fsum F sws
 | [] => rfl
 | s :: sws => by
   rw [fsum_cons, List.filter_cons]
   by_cases h : s.2.2 = 0
   ·rw [if_neg (by simp [h]), fsum_filter F sws, h]; simp
   ·rw [if_pos (by simp [h]), fsum_cons, fsum_filter F sws]
theorem wt_at {lo hi : Int} (h1 : lo < hi) : ∀ {sws : List Sw3}, (∀ s ∈ sws, s.1 < s.2.1) → ret sws hi (lo + 1) - ret sws hi lo - ret sws (hi - 1) (min (lo + 1) (hi - 1)) + ret sws (hi - 1) lo = wsum sws lo hi
 | [], _ => by simp [ret, wsum, fsum]
 | s :: sws, hv => by
   have ih := wt_at h1 (sws := sws) fun z hz => hv z (List.mem_cons_of_mem _ hz)
   have hs := hv s List.mem_cons_self
   unfold ret wsum at ih ⊢
   simp only [fsum_cons]
   generalize fsum (fun a b => decide (b ≤ hi ∧ a < lo + 1)) sws = x1 at *
   generalize fsum (fun a b => decide (b ≤ hi ∧ a < lo)) sws = x2 at *
   generalize fsum (fun a b => decide (b ≤ hi - 1 ∧ a < min (lo + 1) (hi - 1))) sws = x3 at *
   generalize fsum (fun a b => decide (b ≤ hi - 1 ∧ a < lo)) sws = x4 at *
   generalize fsum (fun a b => decide (a = lo ∧ b = hi)) sws = x5 at *
   generalize s.2.2 = wt
   obtain ⟨a, b, c⟩ := s
   simp only [decide_eq_true_eq] at *
   have hm : min (lo + 1) (hi - 1) = if lo + 1 < hi then lo + 1 else lo := by split <;> lia
   rw [hm]
   (repeat' split) <;> lia
def rowW (W : Int → Int → Int) (l : Nat) : Nat → List Sw3
 | 0 => []
 | j + 1 => rowW W l j ++ [((l : Int), (l : Int) + 1 + j, W l ((l : Int) + 1 + j))]
def allW (W : Int → Int → Int) (top : Nat) : Nat → List Sw3
 | 0 => []
 | n + 1 => allW W top n ++ rowW W n (top - n)
def toldW (W : Int → Int → Int) (top : Nat) : List Sw3 := (allW W top top).filter fun s => decide (s.2.2 ≠ 0)
theorem rowW_len (W : Int → Int → Int) (l : Nat) : ∀ j, (rowW W l j).length = j
 | 0 => rfl
 | j + 1 => by simp [rowW, rowW_len W l j]
theorem allW_len (W : Int → Int → Int) (top : Nat) : ∀ n, (allW W top n).length ≤ n * top
 | 0 => by simp [allW]
 | n + 1 => by
   have := allW_len W top n
   simp only [allW, List.length_append, rowW_len]
   rw [Nat.succ_mul]
   lia
theorem rowW_ok (W : Int → Int → Int) (l top : Nat) : ∀ j, l + j ≤ top → ∀ s ∈ rowW W l j, okS top s
 | 0, _, s, hs => by simp [rowW] at hs
 | j + 1, h, s, hs => by
   rcases List.mem_append.mp hs with z | z
   ·exact rowW_ok W l top j (by lia) s z
   ·simp at z; subst z
    exact ⟨by simp only; lia, by simp only; lia, by simp only; lia⟩
theorem allW_ok (W : Int → Int → Int) (top : Nat) : ∀ n, n ≤ top → ∀ s ∈ allW W top n, okS top s
 | 0, _, s, hs => by simp [allW] at hs
 | n + 1, h, s, hs => by
   rcases List.mem_append.mp hs with z | z
   ·exact allW_ok W top n (by lia) s z
   ·exact rowW_ok W n top _ (by lia) s z
theorem toldW_ok (W : Int → Int → Int) (top : Nat) : ∀ s ∈ toldW W top, okS top s := fun s hs => allW_ok W top top (Nat.le_refl _) s (List.mem_filter.mp hs).1
theorem toldW_len (W : Int → Int → Int) (top : Nat) (h : top ≤ 16) : (toldW W top).length ≤ 256 := by
 have a := allW_len W top top
 have b : (toldW W top).length ≤ (allW W top top).length := List.length_filter_le _ _
 have c : top * top ≤ 16 * 16 := Nat.mul_le_mul h h
 lia
theorem rowW_sum (W : Int → Int → Int) (F : Int → Int → Bool) (l : Nat) : ∀ j, fsum F (rowW W l j) = sumR (fun i => if F l ((l : Int) + 1 + i) then W l ((l : Int) + 1 + i) else 0) j
 | 0 => rfl
 | j + 1 => by
   simp only [rowW, sumR]
   rw [fsum_append, rowW_sum W F l j]
   simp [fsum]
theorem allW_sum (W : Int → Int → Int) (F : Int → Int → Bool) (top : Nat) : ∀ n, fsum F (allW W top n) = sumR (fun l => sumR (fun i => if F l ((l : Int) + 1 + i) then W l ((l : Int) + 1 + i) else 0) (top - l)) n
 | 0 => rfl
 | n + 1 => by
   simp only [allW, sumR]
   rw [fsum_append, allW_sum W F top n, rowW_sum]
def tabRow (sws : List Sw3) (h : Nat) : List Int := (List.range (h + 1)).map fun l : Nat => ret sws h l
def tabOf (sws : List Sw3) (n : Nat) : List (List Int) := (List.range n).map fun h => tabRow sws h
theorem tabRow_len (sws : List Sw3) (h : Nat) : (tabRow sws h).length = h + 1 := by simp [tabRow]
theorem tabRow_get (sws : List Sw3) {h l : Nat} (hl : l ≤ h) : (tabRow sws h)[l]? = some (ret sws h l) := by
 unfold tabRow
 rw [List.getElem?_map, List.getElem?_range (by lia)]
 rfl
theorem tabOf_len (sws : List Sw3) (n : Nat) : (tabOf sws n).length = n := by simp [tabOf]
theorem tabOf_get (sws : List Sw3) {n h : Nat} (hl : h < n) : (tabOf sws n)[h]? = some (tabRow sws h) := by
 unfold tabOf
 rw [List.getElem?_map, List.getElem?_range (by lia)]
 rfl
theorem ret_zero {sws : List Sw3} {top : Int} (hv : ∀ s ∈ sws, okS top s) (h : Int) : ret sws h 0 = 0 := by
 induction sws with
 | nil => rfl
 | cons s sws ih =>
   unfold ret at ih ⊢
   rw [fsum_cons, ih fun z hz => hv z (List.mem_cons_of_mem _ hz), if_neg]
   ·rfl
   ·have := (hv s List.mem_cons_self).1
    simp only [decide_eq_true_eq]
    lia
end M
namespace M
theorem keys_same {xs ys : List (Int × Int)} (h1 : xs.Nodup) (h2 : ys.Nodup) (hm : ∀ k, k ∈ xs ↔ k ∈ ys) (p1 : xs.Pairwise fun a b => 100 * a.1 + a.2 ≤ 100 * b.1 + b.2) (p2 : ys.Pairwise fun a b => 100 * a.1 + a.2 ≤ 100 * b.1 + b.2) (hb : ∀ k ∈ xs, 0 ≤ k.2 ∧ k.2 < 100) : xs = ys := by
 refine List.Perm.eq_of_pairwise (fun a b ha hb' z1 z2 => ?_) p1 p2 ((List.perm_ext_iff_of_nodup h1 h2).mpr hm)
 have b1 := hb a ha
 have b2 := hb b ((hm b).mpr hb')
 exact Prod.ext (by lia) (by lia)
end M
namespace M
def goodT (tab : List (List Int)) : Prop := 2 ≤ tab.length ∧ tab.length ≤ 17 ∧ ∀ (k : Nat) r, tab[k]? = some r → r.length = k + 1 ∧ r[0]? = some 0
def tv (tab : List (List Int)) (h l : Nat) : Int := (((tab[h]?).getD [])[l]?).getD 0
def tx (tab : List (List Int)) (h l : Nat) : Int := tv tab h (min l h)
def WT (tab : List (List Int)) (lo hi : Int) : Int := tv tab hi.toNat (lo + 1).toNat - tv tab hi.toNat lo.toNat - tv tab (hi - 1).toNat (min (lo + 1) (hi - 1)).toNat + tv tab (hi - 1).toNat lo.toNat
theorem rowW_congr {W V : Int → Int → Int} {l top : Nat} (h : ∀ a b : Int, 0 ≤ a → a < b → b ≤ top → W a b = V a b) : ∀ j, l + j ≤ top → rowW W l j = rowW V l j
 | 0, _ => rfl
 | j + 1, hj => by
   simp only [rowW]
   rw [rowW_congr h j (by lia), h l ((l : Int) + 1 + j) (by lia) (by lia) (by lia)]
theorem allW_congr {W V : Int → Int → Int} {top : Nat} (h : ∀ a b : Int, 0 ≤ a → a < b → b ≤ top → W a b = V a b) : ∀ n, n ≤ top → allW W top n = allW V top n
 | 0, _ => rfl
 | n + 1, hn => by
   simp only [allW]
   rw [allW_congr h n (by lia), rowW_congr h (top - n) (by lia)]
theorem toldW_congr {W V : Int → Int → Int} {top : Nat} (h : ∀ a b : Int, 0 ≤ a → a < b → b ≤ top → W a b = V a b) : toldW W top = toldW V top := by
 unfold toldW
 rw [allW_congr h top (Nat.le_refl _)]
theorem tv_tabOf (sws : List Sw3) {n h l : Nat} (hh : h < n) (hl : l ≤ h) : tv (tabOf sws n) h l = ret sws h l := by
 unfold tv
 rw [tabOf_get sws hh, Option.getD_some, tabRow_get sws hl, Option.getD_some]
theorem WT_tabOf {top : Nat} {sws : List Sw3} (hv : ∀ s ∈ sws, okS top s) {lo hi : Int} (h0 : 0 ≤ lo) (h1 : lo < hi) (h2 : hi ≤ top) : WT (tabOf sws (top + 1)) lo hi = wsum sws lo hi := by
 rw [← wt_at h1 fun s hs => (hv s hs).2.1]
 unfold WT
 have at_ : ∀ x y : Int, 0 ≤ y → y ≤ x → x ≤ top → tv (tabOf sws (top + 1)) x.toNat y.toNat = ret sws x y := fun x y z1 z2 z3 => by
  rw [tv_tabOf sws (by lia) (by lia), show ((x.toNat : Nat) : Int) = x by lia, show ((y.toNat : Nat) : Int) = y by lia]
 rw [at_ _ _ (by lia) (by lia) h2, at_ _ _ h0 (by lia) h2, at_ _ _ (by lia) (by lia) (by lia), at_ _ _ h0 (by lia) (by lia)]
theorem told_tabOf {top : Nat} {sws : List Sw3} (hv : ∀ s ∈ sws, okS top s) : toldW (WT (tabOf sws (top + 1))) top = toldW (wsum sws) top := toldW_congr fun _ _ h0 h1 h2 => WT_tabOf hv h0 h1 h2
def kLt (s t : Sw3) : Prop := s.1 < t.1 ∨ (s.1 = t.1 ∧ s.2.1 < t.2.1)
theorem rowW_mem (W : Int → Int → Int) (l : Nat) : ∀ j, ∀ s ∈ rowW W l j, s.1 = l ∧ s.2.1 < (l : Int) + 1 + j ∧ s.2.2 = W s.1 s.2.1
 | 0, s, hs => by simp [rowW] at hs
 | j + 1, s, hs => by
   rcases List.mem_append.mp hs with z | z
   ·obtain ⟨a, b, c⟩ := rowW_mem W l j s z
    exact ⟨a, by lia, c⟩
   ·simp at z; subst z; exact ⟨rfl, by simp only; lia, rfl⟩
theorem rowW_up (W : Int → Int → Int) (l : Nat) : ∀ j, (rowW W l j).Pairwise kLt
 | 0 => .nil
 | j + 1 => by
   simp only [rowW]
   rw [List.pairwise_append]
   refine ⟨rowW_up W l j, by simp, fun a ha b hb => ?_⟩
   obtain ⟨a1, a2, _⟩ := rowW_mem W l j a ha
   simp at hb
   subst hb
   exact .inr ⟨a1, a2⟩
theorem allW_mem (W : Int → Int → Int) (top : Nat) : ∀ n, ∀ s ∈ allW W top n, s.1 < n ∧ s.2.2 = W s.1 s.2.1
 | 0, s, hs => by simp [allW] at hs
 | n + 1, s, hs => by
   rcases List.mem_append.mp hs with z | z
   ·obtain ⟨a, b⟩ := allW_mem W top n s z
    exact ⟨by lia, b⟩
   ·obtain ⟨a, b, c⟩ := rowW_mem W n _ s z
    exact ⟨by lia, c⟩
theorem allW_up (W : Int → Int → Int) (top : Nat) : ∀ n, (allW W top n).Pairwise kLt
 | 0 => .nil
 | n + 1 => by
   simp only [allW]
   rw [List.pairwise_append]
   refine ⟨allW_up W top n, rowW_up W n _, fun a ha b hb => ?_⟩
   obtain ⟨a1, _⟩ := allW_mem W top n a ha
   obtain ⟨b1, _⟩ := rowW_mem W n _ b hb
   exact .inl (by lia)
theorem toldW_up (W : Int → Int → Int) (top : Nat) : (toldW W top).Pairwise kLt := (allW_up W top top).filter _
theorem toldW_mem {W : Int → Int → Int} {top : Nat} {s : Sw3} (h : s ∈ toldW W top) : s.2.2 = W s.1 s.2.1 ∧ s.2.2 ≠ 0 := by
 obtain ⟨a, b⟩ := List.mem_filter.mp h
 exact ⟨(allW_mem W top top s a).2, by simpa using b⟩
theorem rowW_has (W : Int → Int → Int) (l : Nat) : ∀ j i, i < j → ((l : Int), (l : Int) + 1 + i, W l ((l : Int) + 1 + i)) ∈ rowW W l j
 | j + 1, i, h => by
   by_cases e : i = j
   ·subst e; exact List.mem_append_right _ (by simp)
   ·exact List.mem_append_left _ (rowW_has W l j i (by lia))
theorem allW_has (W : Int → Int → Int) (top : Nat) : ∀ n l i, l < n → i < top - l → ((l : Int), (l : Int) + 1 + i, W l ((l : Int) + 1 + i)) ∈ allW W top n
 | n + 1, l, i, h1, h2 => by
   by_cases e : l = n
   ·subst e; exact List.mem_append_right _ (rowW_has W l _ i h2)
   ·exact List.mem_append_left _ (allW_has W top n l i (by lia) h2)
theorem toldW_has {W : Int → Int → Int} {top : Nat} {lo hi : Int} (h0 : 0 ≤ lo) (h1 : lo < hi) (h2 : hi ≤ top) (hn : W lo hi ≠ 0) : (lo, hi, W lo hi) ∈ toldW W top := by
 obtain ⟨l, rfl⟩ : ∃ l : Nat, lo = (l : Int) := ⟨lo.toNat, by lia⟩
 obtain ⟨i, rfl⟩ : ∃ i : Nat, hi = (l : Int) + 1 + (i : Int) := ⟨(hi - l - 1).toNat, by lia⟩
 exact List.mem_filter.mpr ⟨allW_has W top top l i (by lia) (by lia), by simpa using hn⟩
theorem toldW_keys (W : Int → Int → Int) (top : Nat) : toldW W top = ((toldW W top).map fun s => (s.1, s.2.1)).map fun k => (k.1, k.2, W k.1 k.2) := by
 rw [List.map_map]
 conv => lhs; rw [← List.map_id (toldW W top)]
 refine List.map_congr_left fun s hs => ?_
 obtain ⟨a, b, c⟩ := s
 have := (toldW_mem hs).1
 simp only at this
 simp [Function.comp, ← this]
theorem sumR_tel (f : Nat → Int) : ∀ n, sumR (fun i => f (i + 1) - f i) n = f n - f 0
 | 0 => by simp [sumR]
 | n + 1 => by simp only [sumR]; rw [sumR_tel f n]; lia
theorem sumR_cut {f : Nat → Int} {m : Nat} (h : ∀ i, m ≤ i → f i = 0) : ∀ n, m ≤ n → sumR f n = sumR f m
 | 0, hn => by rw [Nat.le_zero.mp hn]
 | n + 1, hn => by
   by_cases e : m = n + 1
   ·rw [e]
   ·simp only [sumR]; rw [sumR_cut h n (by lia), h n (by lia)]; lia
theorem WT_tx {tab : List (List Int)} (l i : Nat) : WT tab l ((l : Int) + 1 + i) = (tx tab (l + 1 + i) (l + 1) - tx tab (l + 1 + i) l) - (tx tab (l + i) (l + 1) - tx tab (l + i) l) := by
 unfold WT tx
 rw [show ((l : Int) + 1 + i).toNat = l + 1 + i by lia, show ((l : Int) + 1).toNat = l + 1 by lia, show ((l : Int)).toNat = l by lia, show ((l : Int) + 1 + i - 1).toNat = l + i by lia, show (min ((l : Int) + 1) ((l : Int) + 1 + i - 1)).toNat = min (l + 1) (l + i) by lia, show min (l + 1) (l + 1 + i) = l + 1 by lia, show min l (l + 1 + i) = l by lia, show min l (l + i) = l by lia]
 lia
theorem ret_told {tab : List (List Int)} {top : Nat} (hz : ∀ h, h ≤ top → tv tab h 0 = 0) {h l : Nat} (hh : h ≤ top) (hl : l ≤ h) : ret (toldW (WT tab) top) h l = tv tab h l := by
 unfold ret toldW
 rw [fsum_filter, allW_sum]
 have inner : ∀ lo : Nat, lo < top → sumR (fun i => if decide ((lo : Int) + 1 + i ≤ h ∧ (lo : Int) < l) = true then WT tab lo ((lo : Int) + 1 + i) else 0) (top - lo) = if lo < l then tx tab h (lo + 1) - tx tab h lo else 0 := fun lo hlo => by
  by_cases q : lo < l
  ·rw [if_pos q, sumR_cut (m := h - lo) (fun i hi => by rw [if_neg]; simp; lia) _ (by lia), sumR_congr (g := fun i => (fun i => tx tab (lo + i) (lo + 1) - tx tab (lo + i) lo) (i + 1) - (fun i => tx tab (lo + i) (lo + 1) - tx tab (lo + i) lo) i) (fun i hi => ?_), sumR_tel (fun i => tx tab (lo + i) (lo + 1) - tx tab (lo + i) lo)]
   ·rw [show lo + (h - lo) = h by lia]
    have : tx tab (lo + 0) (lo + 1) - tx tab (lo + 0) lo = 0 := by
     unfold tx
     rw [show min (lo + 1) (lo + 0) = min lo (lo + 0) by lia]
     lia
    lia
   ·rw [if_pos (by simp; lia), WT_tx]
    simp only
    rw [show lo + (i + 1) = lo + 1 + i by lia]
  ·rw [if_neg q, sumR_congr (g := fun _ => 0) (fun i hi => by rw [if_neg]; simp; lia), sumR_zero]
 rw [sumR_congr (g := fun lo => if lo < l then tx tab h (lo + 1) - tx tab h lo else 0) (fun lo hlo => inner lo hlo), sumR_cut (m := l) (fun i hi => by rw [if_neg (by lia)]) _ (by lia), sumR_congr (g := fun lo => tx tab h (lo + 1) - tx tab h lo) (fun i hi => by rw [if_pos hi]), sumR_tel (fun lo => tx tab h lo)]
 unfold tx
 rw [show min l h = l by lia, show min 0 h = 0 by lia, hz h hh]
 lia
theorem tab_again {tab : List (List Int)} (hg : goodT tab) : tabOf (toldW (WT tab) (tab.length - 1)) tab.length = tab := by
 obtain ⟨h1, h2, h3⟩ := hg
 have row : ∀ {k : Nat} {r : List Int}, tab[k]? = some r → ∀ j, j ≤ k → r[j]? = some (tv tab k j) := fun {k r} e j hj => by
  obtain ⟨a, b⟩ := h3 k r e
  unfold tv
  rw [e, Option.getD_some, List.getElem?_eq_getElem (show j < r.length by lia), Option.getD_some]
 have hz : ∀ h, h ≤ tab.length - 1 → tv tab h 0 = 0 := fun h hh => by
  have e := List.getElem?_eq_getElem (show h < tab.length by lia)
  have a := row e 0 (Nat.zero_le _)
  rw [(h3 _ _ e).2] at a
  exact (Option.some.inj a).symm
 refine List.ext_getElem? fun k => ?_
 by_cases hk : k < tab.length
 ·rw [tabOf_get _ hk, List.getElem?_eq_getElem hk]
  congr 1
  have e := List.getElem?_eq_getElem hk
  refine List.ext_getElem? fun j => ?_
  by_cases hj : j ≤ k
  ·rw [tabRow_get _ hj, row e j hj, ret_told hz (by lia) hj]
  ·rw [List.getElem?_eq_none (by rw [tabRow_len]; lia), List.getElem?_eq_none (by rw [(h3 _ _ e).1]; lia)]
 ·rw [List.getElem?_eq_none (by rw [tabOf_len]; lia), List.getElem?_eq_none (by lia)]
theorem good_tabOf {top : Nat} {sws : List Sw3} (hv : ∀ s ∈ sws, okS top s) (h1 : 1 ≤ top) (h2 : top ≤ 16) : goodT (tabOf sws (top + 1)) := by
 refine ⟨by rw [tabOf_len]; lia, by rw [tabOf_len]; lia, fun k r h => ?_⟩
 have hk : k < top + 1 := by
  have := (List.getElem?_eq_some_iff.mp h).1
  rwa [tabOf_len] at this
 rw [tabOf_get sws hk] at h
 cases h
 refine ⟨tabRow_len sws k, ?_⟩
 rw [tabRow_get sws (Nat.zero_le k)]
 exact congrArg some (ret_zero hv k)
end M
namespace L2
open PySem PySem.Spec PyProof.Rows
section
variable {K : PySem.W.Frag} {g : TG} {ti : TT} {te : TE} {σc : St} {H : Hp} {Q : VK}
theorem cp_tup {a : Addr} {xs : List V} (Pv : Nat → List V → Hp → Prop) (h0 : Pv 0 [] H) (hl : ∀ i ys H, Pv i ys H → SqT K H a xs ∧ ys.length ≤ i) (hx : xs.length < sizeLine)
 (hs : ∀ i x ys H, xs[i]? = some x → Pv i ys H → g x σc H fun σ2 H2 => ti σ2 H2 fun b H3 => if b = true then te σ2 H3 fun y H4 => Pv (i + 1) (ys ++ [y]) H4 else Pv (i + 1) ys H3)
 (hd : ∀ l ys H, Pv xs.length ys H → H l = none → Q (.ref l) (upd H l (.lst ys))) : CompI (Itt K a) g ti te σc H Q := by
 refine ⟨fun i m ys H => m = xs.length - i ∧ i ≤ xs.length ∧ Pv i ys H, ⟨_, rfl, Nat.zero_le _, h0⟩, ?_⟩
 rintro i m ys H ⟨rfl, hi, p⟩
 obtain ⟨q, hy⟩ := hl i ys H p
 refine ⟨by lia, ?_⟩
 by_cases hlt : i < xs.length
 ·refine .inr ⟨⟨xs, xs[i], q, by simp [hlt]⟩, Pv (i + 1), fun σ' H' p' => ⟨_, by lia, rfl, hlt, p'⟩, fun x H' y => ?_⟩
  obtain ⟨e, y⟩ := y
  subst e
  exact hs i x ys _ (y xs q) p
 ·have e : i = xs.length := by lia
  subst e
  exact .inl ⟨⟨xs, q, Nat.le_refl _⟩, fun l hl => hd l ys H p hl⟩
end
def rTupOf (K : PySem.W.Frag) : List V → Hp → VK → Prop := fun xs H Q => ∃ p ys, xs = [.ref p] ∧ ((SqL K H p ys ∧ ∀ l, H l = none → Q (.ref l) (upd H l (.tup ys))) ∨ (SqT K H p ys ∧ Q (.ref p) H))
theorem call_tupleK {X : Cx} (K : PySem.W.Frag) (hK : X.K = K := by rfl) : CallR X (.type "tuple") (rTupOf K) := by subst hK; exact call_tuple_of
section
variable {K : PySem.W.Frag} {H : Hp} {Q : VK}
theorem i_tupL {p : Addr} {ys : List V} (h : SqL K H p ys) (q : ∀ l, H l = none → Q (.ref l) (upd H l (.tup ys))) : rTupOf K [.ref p] H Q := ⟨p, ys, rfl, .inl ⟨h, q⟩⟩
theorem isi_tl : PySem.W.kitOne K (.type "tuple") (.type "list") = some false := by kernel_rfl
theorem isi_td : PySem.W.kitOne K (.type "tuple") (.type "dict") = some false := by kernel_rfl
theorem isi_tt : PySem.W.kitOne K (.type "tuple") (.type "tuple") = some true := by kernel_rfl
theorem isi_is : PySem.W.kitOne K (.type "int") (.type "str") = some false := by kernel_rfl
theorem i_isiTL {a : Addr} {xs : List V} (h : H a = some (.tup xs)) (q : Q (.bl false) H) : rIsi K [.ref a, .ty "list"] H Q := ⟨_, _, _, false, rfl, .tup h, isi_tl, q⟩
theorem i_isiTD {a : Addr} {xs : List V} (h : H a = some (.tup xs)) (q : Q (.bl false) H) : rIsi K [.ref a, .ty "dict"] H Q := ⟨_, _, _, false, rfl, .tup h, isi_td, q⟩
theorem i_isiTT {a : Addr} {xs : List V} (h : H a = some (.tup xs)) (q : Q (.bl true) H) : rIsi K [.ref a, .ty "tuple"] H Q := ⟨_, _, _, true, rfl, .tup h, isi_tt, q⟩
theorem i_isiIS {i : Int} (q : Q (.bl false) H) : rIsi K [.int i, .ty "str"] H Q := ⟨_, _, _, false, rfl, .int i, isi_is, q⟩
theorem i_lenT {p : Addr} {xs : List V} (h : SqT K H p xs) (q : Q (.int (xs.length : Int)) H) : rLen K [.ref p] H Q := by
 exact ⟨.ref p, _, rfl, Or.inr ⟨xs, h, rfl⟩, q⟩
end
end L2
namespace L2
open PySem PySem.Spec PyProof.Rows
end L2
namespace L2
open PySem PySem.Spec PyProof.Rows
theorem cellsFrom_get : ∀ (names : List (Str × NameKind)) (h : Heap) (acc : List (Str × Addr)) (x : Str) (c : Addr), (cellsFrom h.objs.size names acc).lookup x = some c →
 acc.lookup x = some c ∨ (h.objs.size ≤ c ∧ (x, NameKind.cell) ∈ names ∧ (pushCells h names).IsCell c none)
 | [], _, _, _, _, e => .inl e
 | (m, k) :: r, h, acc, x, c, e => by
   unfold cellsFrom at e
   unfold pushCells
   by_cases hk : (k == NameKind.cell) = true
   ·rw [if_pos hk] at e ⊢
    have hk' : k = .cell := by simpa using hk
    subst hk'
    have hs : (h.push { cls := .type "cell", data := .cell none }).objs.size = h.objs.size + 1 := Heap.size_push ..
    rw [← hs] at e
    rcases cellsFrom_get r _ _ x c e with z | ⟨z1, z2, z3⟩
    ·rw [List.lookup_cons] at z
     cases hx : x == m with
     | true =>
       rw [hx] at z
       have e1 : x = m := by simpa using hx
       cases z
       subst e1
       exact .inr ⟨Nat.le_refl _, List.mem_cons_self, (show Heap.IsCell _ _ _ from ⟨_, Heap.get?_push_size _ rfl, rfl⟩ : Heap.IsCell (h.push { cls := .type "cell", data := .cell none }) h.objs.size none).keeps (pushCells_keeps _ _)⟩
     | false =>
       rw [hx] at z
       exact .inl z
    ·exact .inr ⟨by rw [hs] at z1; lia, List.mem_cons_of_mem _ z2, z3⟩
   ·rw [if_neg hk] at e ⊢
    rcases cellsFrom_get r _ _ x c e with z | ⟨z1, z2, z3⟩
    ·exact .inl z
    ·exact .inr ⟨z1, List.mem_cons_of_mem _ z2, z3⟩
theorem cellsFrom_has : ∀ (names : List (Str × NameKind)) (n : Nat) (acc : List (Str × Addr)) (x : Str), ((x, NameKind.cell) ∈ names ∨ ∃ c, acc.lookup x = some c) → ∃ c, (cellsFrom n names acc).lookup x = some c
 | [], _, _, _, h => by
   rcases h with h | h
   ·exact absurd h (by simp)
   ·exact h
 | (m, k) :: r, n, acc, x, h => by
   unfold cellsFrom
   by_cases hk : (k == NameKind.cell) = true
   ·rw [if_pos hk]
    refine cellsFrom_has r _ _ x ?_
    rcases h with h | ⟨c, h⟩
    ·rcases List.mem_cons.mp h with e | e
     ·cases e
      exact .inr ⟨n, by simp⟩
     ·exact .inl e
    ·refine .inr ?_
     rw [List.lookup_cons]
     cases x == m with
     | true => exact ⟨_, rfl⟩
     | false => exact ⟨c, h⟩
   ·rw [if_neg hk]
    refine cellsFrom_has r _ _ x ?_
    rcases h with h | h
    ·rcases List.mem_cons.mp h with e | e
     ·cases e
      exact absurd rfl hk
     ·exact .inl e
    ·exact .inr h
theorem cellsFrom_new : ∀ (names : List (Str × NameKind)) (n0 n : Nat) (acc : List (Str × Addr)) (x : Str) (c : Addr), ((x, NameKind.cell) ∈ names ∨ ∀ c, acc.lookup x = some c → n0 ≤ c) → n0 ≤ n → (cellsFrom n names acc).lookup x = some c → n0 ≤ c
 | [], _, _, _, _, c, h, _, e => by
   rcases h with h | h
   ·exact absurd h (by simp)
   ·exact h c e
 | (m, k) :: r, n0, n, acc, x, c, h, hn, e => by
   unfold cellsFrom at e
   by_cases hk : (k == NameKind.cell) = true
   ·rw [if_pos hk] at e
    refine cellsFrom_new r n0 (n + 1) _ x c ?_ (Nat.le_succ_of_le hn) e
    rcases h with h | h
    ·rcases List.mem_cons.mp h with z | z
     ·cases z
      exact .inr fun c hc => by
       simp at hc
       subst hc
       exact hn
     ·exact .inl z
    ·refine .inr fun c hc => ?_
     rw [List.lookup_cons] at hc
     cases hx : x == m with
     | true => rw [hx] at hc; cases hc; exact hn
     | false => rw [hx] at hc; exact h c hc
   ·rw [if_neg hk] at e
    refine cellsFrom_new r n0 n _ x c ?_ hn e
    rcases h with h | h
    ·rcases List.mem_cons.mp h with z | z
     ·cases z
      exact absurd rfl hk
     ·exact .inl z
    ·exact .inr h
theorem cellsFrom_inj : ∀ (names : List (Str × NameKind)) (n : Nat) (acc : List (Str × Addr)), (∀ x y c, acc.lookup x = some c → acc.lookup y = some c → x = y) → (∀ x c, acc.lookup x = some c → c < n) →
 ∀ x y c, (cellsFrom n names acc).lookup x = some c → (cellsFrom n names acc).lookup y = some c → x = y
 | [], _, _, h, _ => h
 | (m, k) :: r, n, acc, h, hl => by
   intro x y c e1 e2
   unfold cellsFrom at e1 e2
   by_cases hk : (k == NameKind.cell) = true
   ·rw [if_pos hk] at e1 e2
    refine cellsFrom_inj r (n + 1) _ ?_ ?_ x y c e1 e2
    ·intro x y c h1 h2
     rw [List.lookup_cons] at h1 h2
     cases hx : x == m with
     | true =>
       rw [hx] at h1
       cases h1
       cases hy : y == m with
       | true => exact (by simpa using hx : x = m).trans (by simpa using hy : y = m).symm
       | false => rw [hy] at h2; exact absurd (hl y _ h2) (Nat.lt_irrefl _)
     | false =>
       rw [hx] at h1
       cases hy : y == m with
       | true => rw [hy] at h2; cases h2; exact absurd (hl x _ h1) (Nat.lt_irrefl _)
       | false => rw [hy] at h2; exact h x y c h1 h2
    ·intro x c h1
     rw [List.lookup_cons] at h1
     cases hx : x == m with
     | true => rw [hx] at h1; cases h1; exact Nat.lt_succ_self _
     | false => rw [hx] at h1; exact Nat.lt_succ_of_lt (hl x c h1)
   ·rw [if_neg hk] at e1 e2
    exact cellsFrom_inj r n acc h hl x y c e1 e2
theorem newEnv_cells {M : Model} {A : Around} {E : Value → Shared → Prop} {s : Shared} {scope : Scope} {globals : Addr} {closure : List (Str × Addr)} {qual : Str} {around : Env} {Q : Env → Shared → Prop}
 (hQ : Q (newEnv scope s.heap.objs.size globals (cellsFrom (s.heap.objs.size + 1) scope.names closure) qual none .none (some around) builtinsNs) { s with heap := pushCells (s.heap.push { cls := .type "dict", data := .dict #[] }) scope.names }) :
 wpAny M A (newFunctionEnv scope globals closure [] qual none .none (some around)) Q E s := by
 simp only [newFunctionEnv, Option.isSome_some, if_true]
 refine wpAny_bind (wpAny_alloc ?_)
 refine wpAny_bind (wpAny_layCells _ (fun name kind cells => by cases hkc : kind == NameKind.cell <;> simp [hkc]) _ _ _ _ ?_)
 rw [show ({ s with heap := s.heap.push { cls := .type "dict", data := .dict #[] } } : Shared).heap.objs.size = s.heap.objs.size + 1 from Heap.size_push ..]
 exact wpAny_bind (wpAny_pure (wpAny_pure hQ))
theorem relabel_cellN {env : Env} : ∀ {names : List (Str × NameKind)} {x : Str}, names.lookup x = some .cell →
 (names.map fun (n, k) => if (k == NameKind.free && env.scope.kind == .function && env.kindOf n == some .cell) then (n, NameKind.cell) else (n, k)).lookup x = some .cell
 | [], _, h => by simp at h
 | (n, k) :: r, x, h => by
   have ih := @relabel_cellN env r x
   show List.lookup x ((if (k == NameKind.free && env.scope.kind == .function && env.kindOf n == some .cell) = true then (n, NameKind.cell) else (n, k)) :: _) = _
   cases hx : x == n with
   | true =>
     simp only [List.lookup_cons, hx] at h
     cases h
     rw [if_neg (by simp)]
     simp [List.lookup_cons, hx]
   | false =>
     simp only [List.lookup_cons, hx] at h
     by_cases hc : (k == NameKind.free && env.scope.kind == .function && env.kindOf n == some .cell) = true
     ·rw [if_pos hc]; simp only [List.lookup_cons, hx]; exact ih h
     ·rw [if_neg hc]; simp only [List.lookup_cons, hx]; exact ih h
theorem relabel_cell {scope : Scope} {env : Env} {x : Str} (h : scope.names.lookup x = some .cell) : (relabel scope env).names.lookup x = some .cell := relabel_cellN h
def celC (X : Cx) (scope : Scope) (C : Addr) : List (Str × Addr) := cellsFrom (C + 1) scope.names (clOf X.env scope.names [])
def cxD (X : Cx) (scope : Scope) (C : Addr) (N : List Str) (s₂ : Shared) (H₂ : Hp) (ex : List Addr) (xb : Value → Shared → Prop) : Cx :=
 { X with N := N, s₀ := s₂, H₀ := H₂, env := compEnvC scope (celC X scope C) C X.env, outer := X.stack, stack := X.stack, ex := ex, fn := fun x => scope.names.lookup x == some .cell, pn := [], xe := xb }
structure CompOkD (X : Cx) (scope : Scope) (N : List Str) (fr : List (Option Nat)) : Prop where
 kind : scope.kind = .function
 own : ∀ y ∈ scope.names, y.2 = .cell → scope.names.lookup y.1 = some .cell
 names : ∀ y ∈ scope.names, y.2 = .local → scope.names.lookup y.1 = some .local
 frees : ∀ y ∈ scope.names, y.2 = .free → X.env.kindOf y.1 = some .cell ∨ X.env.kindOf y.1 = some .free
 fr : FrOk X scope N fr
section
variable {X : Cx} {scope : Scope} {N : List Str} {fr : List (Option Nat)} {xb : Value → Shared → Prop}
theorem CompOkD.cells (c : CompOkD X scope N fr) (ok : X.Ok) : ∀ y ∈ scope.names, y.2 = .free → ∃ c, X.env.cells.lookup y.1 = some c := fun y hy e => ok.has y.1 (c.frees y hy e)
theorem CompOkD.getC (c : CompOkD X scope N fr) (ok : X.Ok) {x : Str} {a : Addr} (h : (clOf X.env scope.names []).lookup x = some a) : X.env.cells.lookup x = some a :=
 clOf_get scope.names [] (c.cells ok) (fun _ _ z => by simp at z) h
theorem CompOkD.get (c : CompOkD X scope N fr) (ok : X.Ok) {g : Heap} {x : Str} {a : Addr} (h : (celC X scope g.objs.size).lookup x = some a) :
 X.env.cells.lookup x = some a ∨ (g.objs.size < a ∧ (x, NameKind.cell) ∈ scope.names ∧ (pushCells (g.push { cls := .type "dict", data := .dict #[] }) scope.names).IsCell a none) := by
 have hs : (g.push { cls := .type "dict", data := .dict #[] }).objs.size = g.objs.size + 1 := Heap.size_push ..
 unfold celC at h
 rw [← hs] at h
 rcases cellsFrom_get _ _ _ _ _ h with z | ⟨z1, z2, z3⟩
 ·exact .inl (c.getC ok z)
 ·exact .inr ⟨by rw [hs] at z1; exact z1, z2, z3⟩
structure Cel (X : Cx) (scope : Scope) (C : Addr) (h : Heap) : Prop where
 get : ∀ x a, (celC X scope C).lookup x = some a → X.env.cells.lookup x = some a ∨ (C < a ∧ (x, NameKind.cell) ∈ scope.names ∧ h.IsCell a none)
theorem compD_ok {pins : List (Addr × Obj)} {σ : St} {H : Hp} {s₂ : Shared} {C : Addr} {fp : List Addr} {h₁ : Heap} (c : CompOkD X scope N fr) (I : Inv X pins σ H s₂) (hC : s₂.heap.objs.size ≤ C) (hcel : Cel X scope C h₁) (hfp : ∀ b ∈ fp, FpOk X pins H b ∧ b < s₂.heap.objs.size) :
 (cxD X scope C N s₂ H fp xb).Ok where
 mod := I.ok.mod
 kind := c.kind
 glob := I.ok.glob
 blt := I.ok.blt
 above := hC
 inj := cellsFrom_inj _ _ _ (fun x y a h1 h2 => I.ok.inj x y a (c.getC I.ok h1) (c.getC I.ok h2)) fun x a h => by
  obtain ⟨v, z⟩ := I.cell x a (c.getC I.ok h)
  exact Nat.lt_succ_of_lt (Nat.lt_of_lt_of_le z.lt hC)
 has := fun x h => by
  refine cellsFrom_has _ _ _ _ ?_
  rcases h with h | h
  ·rcases relabel_get h with z | ⟨_, z⟩
   ·exact .inl z
   ·exact .inr (clOf_has scope.names [] (.inl z))
  ·rcases relabel_get h with z | ⟨z, _⟩
   ·exact .inr (clOf_has scope.names [] (.inl z))
   ·cases z
 cab := fun x a hx h => by
  have hx' : scope.names.lookup x = some .cell := by simpa [cxD] using hx
  exact Nat.le_trans hC (cellsFrom_new _ C _ _ x a (.inl (PySem.mem_of_lookup hx')) (Nat.le_succ _) h)
 hd := I.ok.hd
 frames := I.ok.frames
 stk := .inl rfl
 exf := fun b hb => ⟨Nat.ne_of_lt (Nat.lt_of_lt_of_le (hfp b hb).2 hC), fun x a h => by
  rcases hcel.get x a h with z | ⟨z, _⟩
  ·exact (hfp b hb).1.2.2.2.2.1 x a z
  ·exact Nat.ne_of_gt (Nat.lt_trans (Nat.lt_of_lt_of_le (hfp b hb).2 hC) z)⟩
 bs := I.bs
 bsz := Nat.le_trans I.ok.bsz I.sz
 noex := fun b o e hb => by
  rcases (hfp b hb).1.2.2.2.1 with z | z
  ·exact I.ok.noex b o e z
  ·have h1 : b < X.base.objs.size := Heap.lt_size e
   have h2 := I.ok.bsz
   exact absurd (Nat.lt_of_lt_of_le h1 (Nat.le_trans h2 z)) (Nat.lt_irrefl _)
 exfs := fun b hb z => by
  rcases List.mem_cons.mp (I.stkSub b z) with e | e
  ·exact (hfp b hb).1.2.1 e
  ·exact (hfp b hb).1.2.2.1 e
 funs := I.stack
 frf := I.stkFree
theorem compD_inv {pins : List (Addr × Obj)} {σ : St} {H : Hp} {s₂ : Shared} {C : Addr} {fp : List Addr} {h₄ : Heap} {tk : Nat} (c : CompOkD X scope N fr) (I : Inv X pins σ H s₂) (hC : s₂.heap.objs.size ≤ C) (hcel : Cel X scope C h₄) (hfp : ∀ b ∈ fp, FpOk X pins H b ∧ b < s₂.heap.objs.size)
 (hk : ∀ b o, s₂.heap.get? b = some o → h₄.get? b = some o) (hn : h₄.Ns C fun _ => none) : Inv (cxD X scope C N s₂ H fp xb) [] (stC fr σ) H { s₂ with heap := h₄, toks := tk } := by
 refine ⟨compD_ok c I hC hcel hfp, rfl, I.bare, Un.kept hk, ⟨_, hn, fun i x v e1 e2 e3 => ?_⟩, fun x a e => ?_, I.hok.fresh hC, fun x a e => ?_, fun p hp => absurd (show p ∈ ([] : List (Addr × Obj)) from hp) (by simp), I.hok.kept hk, ?_⟩
 ·obtain ⟨j, f1, f2⟩ := stC_get e2
  obtain ⟨g1, g2, g3⟩ := c.fr.get e1 f1
  obtain ⟨m, hm, hl⟩ := I.loc
  have vis : Vis X.env.scope x := by
   rcases g2 with g | g
   ·exact .inr (.inl g)
   ·exact .inr (.inr g)
  obtain ⟨u, ru, lk⟩ := hl j x v g1 f2 vis
  refine ⟨u, ru, ?_⟩
  rcases lk with ⟨k, _⟩ | ⟨_, a, ea, o, ho, hd⟩
  ·rcases g2 with g | g <;> (rw [k] at g; cases g)
  ·obtain ⟨a', ea'⟩ := cellsFrom_has scope.names (C + 1) (clOf X.env scope.names []) x (.inr (clOf_has (env := X.env) scope.names [] (.inl (PySem.mem_of_lookup g3))))
   have e5 : X.env.cells.lookup x = some a' := by
    rcases hcel.get x a' ea' with z | ⟨_, z, _⟩
    ·exact z
    ·rw [c.own _ z rfl] at g3; cases g3
   rw [ea] at e5
   cases e5
   have kd : (cxD X scope C N s₂ H fp xb).env.kindOf x = some .cell ∨ (cxD X scope C N s₂ H fp xb).env.kindOf x = some .free := relabel_free g3
   exact .inr ⟨kd, a, ea', o, hk _ _ ho, hd⟩
 ·rcases hcel.get x a e with z | ⟨_, _, z⟩
  ·obtain ⟨v, o, ho, hd⟩ := I.cell x a z
   exact ⟨v, o, hk _ _ ho, hd⟩
  ·exact ⟨_, z⟩
 ·rcases hcel.get x a e with z | ⟨z, _⟩
  ·exact I.freeC x a z
  ·exact I.hok.fresh (Nat.le_of_lt (Nat.lt_of_le_of_lt hC z))
 ·unfold stC
  rw [List.length_map]
  exact c.fr.len
end
section
variable {prog : Program} {w : World} {A : Around} {EE : Value → Shared → Prop} {R : Result → Shared → Prop} {s : Shared}
theorem compLoop_last {elt target iter : Expr} {ifs : List Expr} {gens : List Comprehension} {d : Nat} {scope : Scope} {pos : Pos} {it acc : Value} {env : Env}
 (hct : compTurn (.ListComp elt gens scope pos) d it acc env = (do
  standAt iter.pos
  match ← pyNext it with
  | none => pure (.done .next)
  | some v =>
    letOwnedTupleGo target it v
    assign target env v
    let mut ok := true
    for c in ifs do
     if ok then ok ← isTrue c env (eval c env)
    if ok then
     (do let _ ← call (.builtin "list.append") [acc, ← eval elt env])
    again (.compLoop (.ListComp elt gens scope pos) d it acc env)))
 (hE : ∀ x s, EE x s → notedBy (model prog w) A env (fun e s' => R (.error e) s') x s) (I : Nat → Shared → Prop)
 (turn : ∀ n s, I n s → wpAny (model prog w) A (pyNext it) (fun r s₁ => match r with
  | none => R (.ok .next) s₁
  | some v => wpAny (model prog w) A (letOwnedTupleGo target it v) (fun _ s₀ => wpAny (model prog w) A (assign target env v) (fun _ s₂ =>
   wpAny (model prog w) A (forIn ifs true fun c r => if r = true then do let ok ← isTrue c env (eval c env); pure (ForInStep.yield ok) else pure (ForInStep.yield r)) (fun ok s₃ =>
    if ok = true then wpAny (model prog w) A (eval elt env) (fun x s₄ =>
     wpAny (model prog w) A (call (.builtin "list.append") [acc, x]) (fun _ s₅ => ∃ m, m < n ∧ I m s₅) EE s₄) EE s₃
    else ∃ m, m < n ∧ I m s₃) EE s₂) EE s₀) EE s₁) EE s)
 (n : Nat) (h : I n s) :
 codeAny (model prog w) A (.compLoop (.ListComp elt gens scope pos) d it acc env) R s := by
 refine codeAny_loop rfl I (fun n s hI => ?_) n h
 show wpAny _ A ((compTurn (.ListComp elt gens scope pos) d it acc env).onRaise (fun x => do noteFrame x env; theTreesLotGoes x)) _ _ s
 refine wpAny_noted ?_
 rw [hct]
 walk_at "z16"
 walk_at "z28"
 cases r with
 | none => exact wpAny_pure h₁
 | some v =>
   refine wpAny_bind (wpAny_mono (nf h₁) (fun _ s₀ h₀ => ?_) fun _ _ h' => h')
   walk_at "z20"
   cases ok with
   | false => exact wpAny_pure ⟨rfl, h₃⟩
   | true =>
     exact wpAny_bind (wpAny_bind (wpAny_mono (nf h₃) (fun x s₄ h₄ => wpAny_bind (wpAny_mono (nf h₄) (fun _ s₅ h₅ => wpAny_pure (wpAny_pure ⟨rfl, h₅⟩)) fun _ _ h' => h')) fun _ _ h' => h'))
theorem compLoop_two {elt target iter target1 iter1 : Expr} {ifs ifs1 : List Expr} {scope : Scope} {pos : Pos} {it acc : Value} {env : Env} (hs : ∀ x, foldedSetIterable iter1 env x = pure x)
 (hE : ∀ x s, EE x s → notedBy (model prog w) A env (fun e s' => R (.error e) s') x s) (I : Nat → Shared → Prop)
 (turn : ∀ n s, I n s → wpAny (model prog w) A (pyNext it) (fun r s₁ => match r with
  | none => R (.ok .next) s₁
  | some v => wpAny (model prog w) A (letOwnedTupleGo target it v) (fun _ s₀ => wpAny (model prog w) A (assign target env v) (fun _ s₂ =>
   wpAny (model prog w) A (forIn ifs true fun c r => if r = true then do let ok ← isTrue c env (eval c env); pure (ForInStep.yield ok) else pure (ForInStep.yield r)) (fun ok s₃ =>
    if ok = true then wpAny (model prog w) A (eval iter1 env) (fun x s₄ => wpAny (model prog w) A (pyIter x) (fun it1 s₅ =>
     codeAny (model prog w) A (.compStart (.ListComp elt [⟨target, iter, ifs, 0⟩, ⟨target1, iter1, ifs1, 0⟩] scope pos) 1 it1 acc env) (fun r s' => match r with | .ok _ => ∃ m, m < n ∧ I m s' | .error e => cameBackBy (model prog w) A env EE e s') s₅) EE s₄) EE s₃
    else ∃ m, m < n ∧ I m s₃) EE s₂) EE s₀) EE s₁) EE s)
 (n : Nat) (h : I n s) :
 codeAny (model prog w) A (.compLoop (.ListComp elt [⟨target, iter, ifs, 0⟩, ⟨target1, iter1, ifs1, 0⟩] scope pos) 0 it acc env) R s := by
 refine codeAny_loop rfl I (fun n s hI => ?_) n h
 show wpAny _ A ((compTurn (.ListComp elt [⟨target, iter, ifs, 0⟩, ⟨target1, iter1, ifs1, 0⟩] scope pos) 0 it acc env).onRaise (fun x => do noteFrame x env; theTreesLotGoes x)) _ _ s
 refine wpAny_noted ?_
 rw [show compTurn (.ListComp elt [⟨target, iter, ifs, 0⟩, ⟨target1, iter1, ifs1, 0⟩] scope pos) 0 it acc env = (do
  standAt iter.pos
  match ← pyNext it with
  | none => pure (.done .next)
  | some v =>
    letOwnedTupleGo target it v
    assign target env v
    let mut ok := true
    for c in ifs do
     if ok then ok ← isTrue c env (eval c env)
    if ok then
     let x ← eval iter1 env
     standAt iter1.pos
     let x ← foldedSetIterable iter1 env x
     let _ ← runOwn (.compStart (.ListComp elt [⟨target, iter, ifs, 0⟩, ⟨target1, iter1, ifs1, 0⟩] scope pos) 1 (← holding [x] (pyIter x)) acc env) env
    again (.compLoop (.ListComp elt [⟨target, iter, ifs, 0⟩, ⟨target1, iter1, ifs1, 0⟩] scope pos) 0 it acc env)) from rfl]
 walk_at "z16"
 walk_at "z28"
 cases r with
 | none => exact wpAny_pure h₁
 | some v =>
   refine wpAny_bind (wpAny_mono (nf h₁) (fun _ s₀ h₀ => ?_) fun _ _ h' => h')
   walk_at "z20"
   cases ok with
   | false => exact wpAny_pure ⟨rfl, h₃⟩
   | true =>
     refine wpAny_bind (wpAny_mono (nf h₃) (fun x s₄ h₄ => wpAny_bind (wpAny_standAt (wpAny_bind (wpAny_of_eq (hs x) (wpAny_bind (wpAny_holding (wpAny_mono (nf h₄) (fun it1 s₅ h₅ => ?_) fun _ _ h' => h'))))))) fun _ _ h' => h')
     refine wpAny_bind (nf (wpAny_runOwn (codeAny_mono h₅ fun r s' hr => ?_)))
     cases r with
     | ok f => exact wpAny_pure ⟨rfl, hr⟩
     | error e => exact hr
end
structure DOk (X : Cx) (D : Addr) : Prop where
 ne : D ≠ X.env.locals
 ab : X.s₀.heap.objs.size ≤ D
 cl : ∀ x a, X.env.cells.lookup x = some a → a ≠ D
 fs : D ∉ X.fs
theorem lob_pin {us : List Value} {k : Nat} : ∀ v, (lob us k).data ≠ .cell v := fun v e => by cases (show Data.seq us.toArray k = Data.cell v from e)
def LastI (J : It) (g : TG) (ti : TT) (te : TE) (σc : St) (ys0 : List V) (H1 : Hp) (Z : List V → Hp → Prop) : Prop := ∃ W : Nat → Nat → List V → Hp → Prop, (∃ m, W 0 m ys0 H1) ∧ ∀ i m ys H, W i m ys H → ys.length < sizeLine ∧
 ((J.stop i H ∧ Z ys H) ∨ (J.go i H ∧ ∃ M : List V → Hp → Prop, (∀ ys' H', M ys' H' → ∃ m', m' < m ∧ W (i + 1) m' ys' H') ∧
   ∀ x H', J.yld i H x H' → g x σc H' fun σ2 H2 => ti σ2 H2 fun b H3 => if b = true then te σ2 H3 fun y H4 => M (ys ++ [y]) H4 else M ys H3))
section
variable {X : Cx} {scope : Scope} {fr1 : List (Option Nat)} {tg iter elt : Expr} {ifs : List Expr} {gens : List Comprehension} {d : Nat} {pos : Pos} {J : It} {g : TG} {ti : TT} {te : TE} {R : Result → Shared → Prop}
theorem last_loop {pins : List (Addr × Obj)} {σ0 : St} {H0 : Hp} {s0 : Shared} {it D : Addr} {fp : List Addr} {tn : Nat → Heap → Prop} {us0 : List Value} {k0 : Nat} {ys0 : List V} {Z : List V → Hp → Prop}
 (hct : ∀ acc, compTurn (.ListComp elt gens scope pos) d (.ref it) acc X.env = (do
  standAt iter.pos
  match ← pyNext (.ref it) with
  | none => pure (.done .next)
  | some v =>
    letOwnedTupleGo tg (.ref it) v
    assign tg X.env v
    let mut ok := true
    for c in ifs do
     if ok then ok ← isTrue c X.env (eval c X.env)
    if ok then
     (do let _ ← call (.builtin "list.append") [acc, ← eval elt X.env])
    again (.compLoop (.ListComp elt gens scope pos) d (.ref it) acc X.env)))
 (hc : X.calm = true) (I : Inv X pins σ0 H0 s0) (hσ : ∀ (i : Nat) v, σ0[i]? = some (some v) → ∃ j, fr1[i]? = some (some j)) (gw : GW fr1 g)
 (T : Turn X.prog X.w X.K tg J fp it tn) (st : tn 0 s0.heap) (hfp : ∀ b ∈ fp, FpOk X pins H0 b)
 (hD : s0.heap.get? D = some (lob us0 k0)) (hv : Vals ys0 us0) (hDH : H0 D = none) (hDx : DOk X D) (hDp : ∀ p ∈ X.pn ++ pins, p.1 ≠ D) (hDf : D ∉ fp)
 (hg : PG X tg g) (hi : PIfs X ifs ti) (he : PE X elt te) (hq : LastI J g ti te σ0 ys0 H0 Z)
 (hR : ∀ ys us k H s, Inv X pins σ0 H s → s.heap.get? D = some (lob us k) → Vals ys us → H D = none → ys.length < sizeLine → Z ys H → R (.ok .next) s)
 (hE : ∀ x s, X.xe x s → notedBy (model X.prog X.w) X.A X.env (fun e s' => R (.error e) s') x s) :
 codeAny (model X.prog X.w) X.A (.compLoop (.ListComp elt gens scope pos) d (.ref it) (.ref D) X.env) R s0 := by
 obtain ⟨W, ⟨m0, w0⟩, turn⟩ := hq
 refine compLoop_last (EE := X.xe) (hct _) hE (fun n s' => ∃ i ys us k H', Inv X pins σ0 H' s' ∧ tn i s'.heap ∧ (∀ b ∈ fp, H' b = none) ∧ s'.heap.get? D = some (lob us k) ∧ Vals ys us ∧ H' D = none ∧ W i n ys H') ?_ m0
  ⟨0, ys0, us0, k0, H0, I, st, fun b hb => (hfp b hb).1, hD, hv, hDH, w0⟩
 rintro n s3 ⟨i, ys, us, k, H3, I3, st3, fr3, hD3, rv3, hDn3, w3⟩
 obtain ⟨hlen, alt⟩ := turn i n ys H3 w3
 have I3p : Inv X (pins ++ [(D, lob us k)]) σ0 H3 s3 := I3.pins_of fun p hp => by
  rcases List.mem_append.mp hp with z | z
  ·exact I3.pin p (List.mem_append_right _ z)
  ·have e : p = (D, lob us k) := by simpa using z
   subst e
   exact ⟨hD3, hDn3, hDx.ne, hDx.fs, lob_pin⟩
 have stat : ∀ {H' : Hp}, (∀ b ∈ fp, H' b = none) → ∀ b ∈ fp, FpOk X (pins ++ [(D, lob us k)]) H' b := fun hn b hb => by
  obtain ⟨q1, q2, q3, q4, q5, q6⟩ := hfp b hb
  refine ⟨hn b hb, q2, q3, q4, q5, fun p hp => ?_⟩
  rcases List.mem_append.mp hp with z | z
  ·exact q6 p (List.mem_append_left _ z)
  ·rcases List.mem_append.mp z with z | z
   ·exact q6 p (List.mem_append_right _ z)
   ·have e : p = (D, lob us k) := by simpa using z
    subst e
    rintro rfl
    exact hDf hb
 rcases alt with ⟨stop, qn⟩ | ⟨go, M, hM, step⟩
 ·refine thn (T.done X rfl rfl rfl hc i _ s3 _ H3 _ I3p (stat fr3) st3 stop) fun r s4 ⟨hr, I4⟩ => ?_
  subst hr
  have pD := (I4.pin (D, lob us k) (by simp)).1
  exact hR ys us k H3 s4 (I4.pins_of fun p hp => I4.pin p (List.mem_append_right _ (List.mem_append_left _ hp))) pD rv3 hDn3 hlen qn
 ·refine thn (T.item X rfl rfl rfl hc i _ s3 _ H3 _ I3p (stat fr3) st3 go) fun r s4 ⟨u, hr, h4⟩ => ?_
  subst hr
  refine thn h4 fun _ s5 ⟨x, H5, I5, r5, y5, st5, fr5⟩ => ?_
  have I5' := I5.pinned (stat fr5) (T.obj _ _ st5)
  refine thn (hg _ s5 _ H5 x u _ I5' r5 (gw x _ H5 _ _ (fun σ2 H2 wk q => And.intro wk q) (step x H5 y5))) fun _ s6 ⟨σ6, H6, I6, wk6, q6⟩ => ?_
  refine thn (hi _ s6 σ6 H6 _ I6 q6) fun ok s7 ⟨H7, I7, q7⟩ => ?_
  have back : ∀ {σ8 : St} {H8 : Hp} {s8 : Shared}, σ8 = σ6 → Inv X ((pins ++ [(D, lob us k)]) ++ pinsAt fp s5.heap) σ8 H8 s8 → Inv X pins σ0 H8 s8 ∧ tn (i + 1) s8.heap ∧ (∀ b ∈ fp, H8 b = none) ∧ s8.heap.get? D = some (lob us k) ∧ H8 D = none := fun {σ8 H8 s8} e8 I8 => by
   subst e8
   have pf : ∀ b o, b ∈ fp → s5.heap.get? b = some o → s8.heap.get? b = some o ∧ H8 b = none := fun b o hb e => by
    have := I8.pin (b, o) (List.mem_append_right _ (List.mem_append_right _ (mem_pinsAt hb e)))
    exact ⟨this.1, this.2.1⟩
   refine ⟨(I8.pins_of (pins' := pins) fun p hp => I8.pin p (List.mem_append_right _ (List.mem_append_left _ (List.mem_append_left _ hp)))).weak wk6.1.symm fun a v e => ?_, T.keep _ _ _ st5 fun b hb o e => (pf b o hb e).1, fun b hb => ?_, (I8.pin (D, lob us k) (by simp)).1, (I8.pin (D, lob us k) (by simp)).2.1⟩
   ·obtain ⟨j, f1⟩ := hσ a v e
    rw [wk6.2 a j f1]
    exact e
   ·obtain ⟨o, e, _⟩ := T.obj _ _ st5 b hb
    exact (pf b o hb e).2
  cases ok with
  | false =>
    obtain ⟨m', hm, w7⟩ := hM _ _ (by simpa using q7)
    obtain ⟨a1, a2, a3, a4, a5⟩ := back rfl I7
    exact ⟨m', hm, i + 1, ys, us, k, H7, a1, a2, a3, a4, rv3, a5, w7⟩
  | true =>
    have q7' : te σ6 H7 fun y H4 => M (ys ++ [y]) H4 := by simpa using q7
    refine thn (he _ s7 σ6 H7 _ I7 q7') fun v s8 ⟨y, H8, I8, ry, q8⟩ => ?_
    obtain ⟨m', hm, w8⟩ := hM _ _ q8
    obtain ⟨a1, a2, a3, a4, a5⟩ := back rfl I8
    have hus : us.toArray.size ≤ sizeLine := by
     rw [List.size_toArray, ← rv3.length]
     exact Nat.le_of_lt hlen
    refine wpAny_list_append_plain (hsz := hus) (l := D) (items := us.toArray) ⟨_, a4⟩ fun h₅ hl₅ hs₅ => ?_
    obtain ⟨k', hl₅'⟩ := hl₅
    refine ⟨m', hm, i + 1, ys ++ [y], us ++ [v], k', H8, a1.turned (t' := s8.toks) (fun b o hb e => (hs₅.2 b hb).trans e) a5 hDx.ne (.inr hDx.ab) hDx.cl hDp, T.keep _ _ _ a2 fun b hb o e => (hs₅.2 b (fun z => hDf (z ▸ hb))).trans e, a3, ?_, rv3.append (.cons ry .nil), a5, w8⟩
    show h₅.get? D = _
    rw [hl₅']
    simp [lob]
end
section
variable {X : Cx} {scope : Scope} {N : List Str} {fr : List (Option Nat)} {tg iter elt : Expr} {ifs : List Expr} {rest : List Comprehension} {pos : Pos} {J : It} {xb : Addr → Value → Shared → Prop}
structure Beg (X : Cx) (scope : Scope) (N : List Str) (fr : List (Option Nat)) (xb : Addr → Value → Shared → Prop) (pins : List (Addr × Obj)) (σ : St) (H : Hp) (s₂ : Shared) (fp : List Addr) (D C : Addr) (h₁ : Heap) : Prop where
 ix : Inv X pins σ H s₂
 ds : s₂.heap.objs.size = D
 dc : D < C
 cel : Cel X scope C h₁
 inv : Inv (cxD X scope C N s₂ H fp (xb C)) [] (stC fr σ) H { s₂ with heap := h₁ }
 fpk : ∀ b ∈ fp, FpOk X pins H b ∧ b < s₂.heap.objs.size
 acc : h₁.get? D = some (lob [] 0)
 free : H D = none
section
variable {pins : List (Addr × Obj)} {σ : St} {H : Hp} {s₂ : Shared} {fp : List Addr} {D C : Addr} {h₁ : Heap}
theorem Beg.dok (B : Beg X scope N fr xb pins σ H s₂ fp D C h₁) : DOk (cxD X scope C N s₂ H fp (xb C)) D where
 ne := Nat.ne_of_lt B.dc
 ab := Nat.le_of_eq B.ds
 cl := fun x a e => by
  rcases B.cel.get x a e with z | ⟨z, _⟩
  ·obtain ⟨v, q⟩ := B.ix.cell x a z
   have := q.lt
   rw [B.ds] at this
   exact Nat.ne_of_lt this
  ·exact Nat.ne_of_gt (Nat.lt_trans B.dc z)
 fs := fun z => by
  have z' : D ∈ frs X.stack := z
  rcases List.mem_cons.mp (B.ix.stkSub D z') with e | e
  ·have := B.ix.lt
   rw [← e, B.ds] at this
   exact Nat.lt_irrefl _ this
  ·exact B.ix.nofs (Nat.le_of_eq B.ds) e
theorem Beg.fpD (B : Beg X scope N fr xb pins σ H s₂ fp D C h₁) : D ∉ fp := fun hb => by
 have := (B.fpk D hb).2
 rw [B.ds] at this
 exact Nat.lt_irrefl _ this
theorem Beg.fpo (B : Beg X scope N fr xb pins σ H s₂ fp D C h₁) : ∀ b ∈ fp, FpOk (cxD X scope C N s₂ H fp (xb C)) [] H b := fun b hb => by
 obtain ⟨q1, q2⟩ := B.fpk b hb
 refine ⟨q1.1, ?_, fun z => B.inv.ok.exfs b hb z, .inl hb, fun x a e => (B.inv.ok.exf b hb).2 x a e, fun p hp => absurd (show p ∈ ([] : List (Addr × Obj)) from hp) (by simp)⟩
 exact (B.inv.ok.exf b hb).1
theorem Beg.back (B : Beg X scope N fr xb pins σ H s₂ fp D C h₁) {H3 : Hp} {s4 : Shared} {ys : List V} {us : List Value} {k : Nat} (I4 : Inv (cxD X scope C N s₂ H fp (xb C)) [] (stC fr σ) H3 s4) (hD : s4.heap.get? D = some (lob us k)) (rv : Vals ys us) (hn : H3 D = none) (hl : ys.length < sizeLine) :
 Inv X pins σ (upd H3 D (.lst ys)) s4 ∧ Aside X pins (upd H3 D (.lst ys)) C ∧ ∃ m, s4.heap.Ns C m := by
 have IX : Inv X pins σ H3 s4 := B.ix.call' I4.os I4.base I4.hok I4.bare fun b hb => by
  obtain ⟨q1, q2, q3, q4, q5, q6⟩ := (B.fpk b hb).1
  exact ⟨q4, q2, q5, q6⟩
 have aD : Aside X pins H3 D := B.ix.aside (Nat.le_of_eq B.ds) hn
 refine ⟨IX.track hn aD.ne aD.ab aD.cl aD.pn ⟨Nat.le_of_lt hl, us, k, rv, hD⟩, B.ix.aside (by rw [B.ds]; exact Nat.le_of_lt B.dc) ?_, ?_⟩
 ·rw [upd_ne (Nat.ne_of_gt B.dc)]
  exact I4.free
 ·obtain ⟨m, hm, _⟩ := I4.loc
  exact ⟨m, hm⟩
end
theorem stC_some {fr : List (Option Nat)} {σ : St} : ∀ (i : Nat) v, (stC fr σ)[i]? = some (some v) → ∃ j, fr[i]? = some (some j) := fun i v e => by
 obtain ⟨j, f, _⟩ := stC_get e
 exact ⟨j, f⟩
theorem comp_coreG {pins : List (Addr × Obj)} {σ : St} {H : Hp} {s₂ : Shared} {it : Addr} {fp : List Addr} {tn : Nat → Heap → Prop} {E : Value → Shared → Prop} (c : CompOkD X scope N fr) (I : Inv X pins σ H s₂)
 (T : Turn X.prog X.w X.K tg J fp it tn) (st : tn 0 s₂.heap) (hfp : ∀ b ∈ fp, FpOk X pins H b) {RR : Value → Addr → Result → Shared → Prop}
 (hloop : ∀ D C h₁, Beg X scope N fr xb pins σ H s₂ fp D C h₁ → tn 0 h₁ → codeAny (model X.prog X.w) X.A (.compLoop (.ListComp elt (⟨tg, iter, ifs, 0⟩ :: rest) scope pos) 0 (.ref it) (.ref D) (cxD X scope C N s₂ H fp (xb C)).env) (RR (.ref D) C) { s₂ with heap := h₁ }) :
 wpAny (model X.prog X.w) X.A (newList []) (fun acc s₃ => wpAny (model X.prog X.w) X.A (newFunctionEnv scope X.env.globals (clOf X.env scope.names []) [] X.env.qual none .none (some X.env)) (fun cenv s₄ =>
  codeAny (model X.prog X.w) X.A (.compStart (.ListComp elt (⟨tg, iter, ifs, 0⟩ :: rest) scope pos) 0 (.ref it) acc { cenv with scope := relabel scope X.env }) (RR acc cenv.locals) s₄) E s₃) E s₂ := by
 refine wpAny_newObj_type (newEnv_cells ?_)
 dsimp only
 generalize hH2 : s₂.heap.push { cls := .type "list", dict := none, data := .seq ([] : List Value).toArray } = H2
 have hC : H2.objs.size = s₂.heap.objs.size + 1 := by rw [← hH2, Heap.size_push]
 have old : ∀ b o, H2.get? b = some o → (pushCells (H2.push { cls := .type "dict", data := .dict #[] }) scope.names).get? b = some o := fun b o e => pushCells_keeps _ _ _ _ (Heap.get?_push_of_some _ e)
 have old2 : ∀ b o, s₂.heap.get? b = some o → (pushCells (H2.push { cls := .type "dict", data := .dict #[] }) scope.names).get? b = some o := fun b o e => old b o (hH2 ▸ Heap.get?_push_of_some _ e)
 have hacc : (pushCells (H2.push { cls := .type "dict", data := .dict #[] }) scope.names).get? s₂.heap.objs.size = some (lob [] 0) := old _ _ (hH2 ▸ Heap.get?_push_size _ rfl)
 have hns : (pushCells (H2.push { cls := .type "dict", data := .dict #[] }) scope.names).Ns H2.objs.size fun _ => none := (Heap.Ns.new H2 (.type "dict")).keeps (pushCells_keeps _ _)
 have hcel : Cel X scope H2.objs.size (pushCells (H2.push { cls := .type "dict", data := .dict #[] }) scope.names) := ⟨fun x a e => c.get I.ok e⟩
 have hfp2 : ∀ b ∈ fp, FpOk X pins H b ∧ b < s₂.heap.objs.size := fun b hb => ⟨hfp b hb, by obtain ⟨o, e, _⟩ := T.obj _ _ st b hb; exact Heap.lt_size e⟩
 have I0 := compD_inv (xb := xb H2.objs.size) (tk := s₂.toks) c I (by rw [hC]; exact Nat.le_succ _) hcel hfp2 old2 hns
 have st₁ := T.keep _ _ _ st fun b hb o e => old2 b o e
 have lp := hloop s₂.heap.objs.size H2.objs.size _ ⟨I, rfl, by rw [hC]; exact Nat.lt_succ_self _, hcel, I0, hfp2, hacc, I.hok.fresh (Nat.le_refl _)⟩ st₁
 exact codeAny_compStart_list lp (T.self _ _ _ _ _ st₁ lp)
end
section
variable {prog : Program} {w : World} {A : Around} {R : Result → Shared → Prop} {s : Shared}
theorem compStart_one {elt target iter iter1 target1 : Expr} {ifs ifs1 : List Expr} {scope : Scope} {pos : Pos} {it acc : Value} {env : Env}
 (h0 : codeAny (model prog w) A (.compLoop (.ListComp elt [⟨target, iter, ifs, 0⟩, ⟨target1, iter1, ifs1, 0⟩] scope pos) 1 it acc env) R s)
 (h : wpAny (model prog w) A (pyIter it) (fun it' s' => codeAny (model prog w) A (.compLoop (.ListComp elt [⟨target, iter, ifs, 0⟩, ⟨target1, iter1, ifs1, 0⟩] scope pos) 1 it' acc env) R s')
  (notedBy (model prog w) A env fun x s' => R (.error x) s') s) :
 codeAny (model prog w) A (.compStart (.ListComp elt [⟨target, iter, ifs, 0⟩, ⟨target1, iter1, ifs1, 0⟩] scope pos) 1 it acc env) R s := by
 refine codeAny_of_tree ?_
 show wpAny _ _ ((compStart (.ListComp elt [⟨target, iter, ifs, 0⟩, ⟨target1, iter1, ifs1, 0⟩] scope pos) 1 it acc env).onRaise (fun x => do noteFrame x env; standAt theWindowsPlace)) _ _ s
 refine wpAny_notedAt ?_
 unfold compStart
 show wpAny _ _ (ask >>= _) _ _ s
 refine wpAny_bind (wpAny_askSetting (wpAny_ite ?_))
 split
 ·first
   | exact wpAny_bind (wpAny_pure (wpAny_pure (And.intro rfl h0)))
   | exact wpAny_pure (And.intro rfl h0)
 ·first
   | exact wpAny_bind (wpAny_rule (wpAny_bind (wpAny_standAt (wpAny_bind (wpAny_mono h (fun it' s' h' => wpAny_pure (And.intro rfl h')) fun _ _ x => x)))))
   | (refine wpAny_bind (wpAny_rule ?_); show wpAny _ _ (standAt iter1.pos >>= _) _ _ s; exact wpAny_bind (wpAny_standAt (wpAny_bind (wpAny_mono h (fun it' s' h' => wpAny_pure (And.intro rfl h')) fun _ _ x => x))))
end
def xNo : Addr → Value → Shared → Prop := fun _ _ _ => False
theorem CompI.last {J : It} {g : TG} {ti : TT} {te : TE} {σc : St} {H1 : Hp} {Q : VK} (h : CompI J g ti te σc H1 Q) : LastI J g ti te σc [] H1 fun ys H => ∀ l, H l = none → Q (.ref l) (upd H l (.lst ys)) := h
section
variable {X : Cx} {scope : Scope} {N : List Str} {fr : List (Option Nat)} {tg iter elt : Expr} {ifs : List Expr} {pos : Pos} {g : TG} {ti : TT} {te : TE}
theorem one_loop {pins : List (Addr × Obj)} {σ : St} {H : Hp} {s₂ : Shared} {it D C : Addr} {fp : List Addr} {tn : Nat → Heap → Prop} {J : It} {h₁ : Heap} {Q : VK} {R : Result → Shared → Prop} (hc : X.calm = true) (B : Beg X scope N fr xNo pins σ H s₂ fp D C h₁) (T : Turn X.prog X.w X.K tg J fp it tn) (st : tn 0 h₁)
 (hg : PG (cxD X scope C N s₂ H fp (xNo C)) tg g) (hi : PIfs (cxD X scope C N s₂ H fp (xNo C)) ifs ti) (he : PE (cxD X scope C N s₂ H fp (xNo C)) elt te) (gw : GW fr g) (q : CompI J g ti te (stC fr σ) H Q)
 (hR : ∀ H' ys s', Inv X pins σ (upd H' D (.lst ys)) s' → Aside X pins (upd H' D (.lst ys)) C → (∃ m, s'.heap.Ns C m) → Q (.ref D) (upd H' D (.lst ys)) → R (.ok .next) s') :
 codeAny (model X.prog X.w) X.A (.compLoop (.ListComp elt [⟨tg, iter, ifs, 0⟩] scope pos) 0 (.ref it) (.ref D) (cxD X scope C N s₂ H fp (xNo C)).env) R { s₂ with heap := h₁ } := by
 refine last_loop (X := cxD X scope C N s₂ H fp (xNo C)) (fun acc => compTurn_list ..) hc B.inv stC_some gw T st B.fpo B.acc .nil B.free B.dok (fun p hp => absurd (show p ∈ ([] : List (Addr × Obj)) from hp) (by simp)) B.fpD hg hi he q.last ?_ fun _ _ z => z.elim
 intro ys us k H3 s4 I4 hD rv hn hl z
 obtain ⟨a, b, c⟩ := B.back I4 hD rv hn hl
 exact hR H3 ys s4 a b c (z D hn)
theorem pe_compD {wi : TI} (c : CompOkD X scope N fr) (hc : X.calm = true) (hi : PI X tg iter wi) (hg : ∀ C s₂ H fp, PG (cxD X scope C N s₂ H fp (xNo C)) tg g) (hf : ∀ C s₂ H fp, PIfs (cxD X scope C N s₂ H fp (xNo C)) ifs ti) (he : ∀ C s₂ H fp, PE (cxD X scope C N s₂ H fp (xNo C)) elt te) (gw : GW fr g)
 (hs : ∀ x, foldedSetIterable iter X.env x = pure x := by intro _; rfl) : PE X (.ListComp elt [⟨tg, iter, ifs, 0⟩] scope pos) (tComp fr wi g ti te) := by
 walk_at "z3"
 rw [eval_ListComp]
 refine wpAny_comprehension_free (use := none) rfl hs (closure_eq (c.cells I.ok)) c.kind c.names (thn (hi pins s σ H _ I h) fun v s1 h1 => thn h1 fun itv s2 h2 => ?_)
 obtain ⟨it, fp, tn, J, H2, e, I2, T, st2, f2, q⟩ := h2
 subst e
 refine comp_coreG (xb := xNo) (RR := fun acc C => compPost (model X.prog X.w) X.A X.xe none (EP X pins σ Q) acc C) c I2 T st2 f2 fun D C h₁ B st₁ => ?_
 refine one_loop (Q := Q) hc B T st₁ (hg C _ _ _) (hf C _ _ _) (he C _ _ _) gw q fun H' ys s' IT as hm q => ?_
 obtain ⟨m, hm⟩ := hm
 exact ⟨m, hm, fun h' sb => ⟨.ref D, _, IT.turned (t' := s'.toks) (fun b o hb e => (sb.2 b hb).trans e) as.fr as.ne (.inr as.ab) as.cl as.pn, rfl, q⟩⟩
end
def msk (fr1 : List (Option Nat)) (σ : St) : St := List.zipWith (fun f v => f.bind fun _ => v) fr1 σ
theorem msk_get {fr1 : List (Option Nat)} {σ : St} {i : Nat} {v : V} (h : (msk fr1 σ)[i]? = some (some v)) : (∃ j, fr1[i]? = some (some j)) ∧ σ[i]? = some (some v) := by
 unfold msk at h
 rw [List.getElem?_zipWith] at h
 cases e1 : fr1[i]? with
 | none => rw [e1] at h; cases h
 | some f =>
   cases e2 : σ[i]? with
   | none => rw [e1, e2] at h; cases h
   | some u =>
     rw [e1, e2] at h
     cases f with
     | none => cases h
     | some j =>
       have h' : u = some v := by simpa using h
       subst h'
       exact ⟨⟨j, rfl⟩, rfl⟩
theorem msk_of {fr1 : List (Option Nat)} {σ : St} {i j : Nat} {v : V} (h1 : fr1[i]? = some (some j)) (h2 : σ[i]? = some (some v)) : (msk fr1 σ)[i]? = some (some v) := by
 unfold msk
 rw [List.getElem?_zipWith, h1, h2]
 rfl
def CompI2 (J : It) (fr1 : List (Option Nat)) (g : TG) (ti : TT) (wi1 : TI) (g1 : TG) (ti1 : TT) (te : TE) (σc : St) (H1 : Hp) (Q : VK) : Prop := ∃ W : Nat → Nat → List V → Hp → Prop, (∃ m, W 0 m [] H1) ∧ ∀ i m ys H, W i m ys H → ys.length < sizeLine ∧
 ((J.stop i H ∧ ∀ l, H l = none → Q (.ref l) (upd H l (.lst ys))) ∨ (J.go i H ∧ ∃ M : List V → Hp → Prop, (∀ ys' H', M ys' H' → ∃ m', m' < m ∧ W (i + 1) m' ys' H') ∧
   ∀ x H', J.yld i H x H' → g x σc H' fun σ2 H2 => ti σ2 H2 fun b H3 => if b = true then wi1 σ2 H3 fun J1 H4 => LastI J1 g1 ti1 te (msk fr1 σ2) ys H4 M else M ys H3))
def tComp2 (fr fr1 : List (Option Nat)) (wi : TI) (g : TG) (ti : TT) (wi1 : TI) (g1 : TG) (ti1 : TT) (te : TE) : TE := fun σ H Q => wi σ H fun J H1 => CompI2 J fr1 g ti wi1 g1 ti1 te (stC fr σ) H1 Q
section
variable {X : Cx} {scope : Scope} {N : List Str} {fr fr1 : List (Option Nat)} {tg iter tg1 iter1 elt : Expr} {ifs ifs1 : List Expr} {pos : Pos} {g g1 : TG} {ti ti1 : TT} {te : TE} {wi1 : TI}
theorem two_loop {pins : List (Addr × Obj)} {σ : St} {H : Hp} {s₂ : Shared} {it D C : Addr} {fp : List Addr} {tn : Nat → Heap → Prop} {J : It} {h₁ : Heap} {Q : VK} {R : Result → Shared → Prop} (hc : X.calm = true) (hN : N.length = fr.length) (hfl : fr1.length = fr.length) (hff : ∀ i j : Nat, fr[i]? = some (some j) → ∃ j' : Nat, fr1[i]? = some (some j')) (B : Beg X scope N fr xNo pins σ H s₂ fp D C h₁) (T : Turn X.prog X.w X.K tg J fp it tn) (st : tn 0 h₁)
 (hs1 : ∀ x, foldedSetIterable iter1 (cxD X scope C N s₂ H fp (xNo C)).env x = pure x)
 (hg : PG (cxD X scope C N s₂ H fp (xNo C)) tg g) (hi : PIfs (cxD X scope C N s₂ H fp (xNo C)) ifs ti) (hi1 : PI (cxD X scope C N s₂ H fp (xNo C)) tg1 iter1 wi1) (hg1 : PG (cxD X scope C N s₂ H fp (xNo C)) tg1 g1) (hj1 : PIfs (cxD X scope C N s₂ H fp (xNo C)) ifs1 ti1)
 (he : PE (cxD X scope C N s₂ H fp (xNo C)) elt te) (gw : GW fr g) (gw1 : GW fr1 g1) (q : CompI2 J fr1 g ti wi1 g1 ti1 te (stC fr σ) H Q)
 (hR : ∀ H' ys s', Inv X pins σ (upd H' D (.lst ys)) s' → Aside X pins (upd H' D (.lst ys)) C → (∃ m, s'.heap.Ns C m) → Q (.ref D) (upd H' D (.lst ys)) → R (.ok .next) s') :
 codeAny (model X.prog X.w) X.A (.compLoop (.ListComp elt [⟨tg, iter, ifs, 0⟩, ⟨tg1, iter1, ifs1, 0⟩] scope pos) 0 (.ref it) (.ref D) (cxD X scope C N s₂ H fp (xNo C)).env) R { s₂ with heap := h₁ } := by
 obtain ⟨W, ⟨m0, w0⟩, turn⟩ := q
 have hDx := B.dok
 have hfp := B.fpo
 have hDf := B.fpD
 have back0 : ∀ {H3 : Hp} {s4 : Shared} {ys : List V} {us : List Value} {k : Nat}, Inv (cxD X scope C N s₂ H fp (xNo C)) [] (stC fr σ) H3 s4 → s4.heap.get? D = some (lob us k) → Vals ys us → H3 D = none → ys.length < sizeLine → (∀ l, H3 l = none → Q (.ref l) (upd H3 l (.lst ys))) → R (.ok .next) s4 := fun I4 hD rv hn hl z => by
  obtain ⟨a, b, c⟩ := B.back I4 hD rv hn hl
  exact hR _ _ _ a b c (z D hn)
 have hacc := B.acc
 have hfree := B.free
 have hinv := B.inv
 have hpn : ∀ p ∈ (cxD X scope C N s₂ H fp (xNo C)).pn, False := fun p hp => absurd (show p ∈ ([] : List (Addr × Obj)) from hp) (by simp)
 have hcX : (cxD X scope C N s₂ H fp (xNo C)).calm = true := hc
 have hNX : (cxD X scope C N s₂ H fp (xNo C)).N = N := rfl
 have hxe : ∀ x s, (cxD X scope C N s₂ H fp (xNo C)).xe x s → False := fun _ _ z => z
 have hT : Turn (cxD X scope C N s₂ H fp (xNo C)).prog (cxD X scope C N s₂ H fp (xNo C)).w (cxD X scope C N s₂ H fp (xNo C)).K tg J fp it tn := T
 show codeAny (model (cxD X scope C N s₂ H fp (xNo C)).prog (cxD X scope C N s₂ H fp (xNo C)).w) (cxD X scope C N s₂ H fp (xNo C)).A _ _ _
 clear hR B T hc
 generalize cxD X scope C N s₂ H fp (xNo C) = Y at *
 refine compLoop_two (EE := Y.xe) hs1 (fun x s z => (hxe x s z).elim) (fun n s' => ∃ i ys us k H', Inv Y [] (stC fr σ) H' s' ∧ tn i s'.heap ∧ (∀ b ∈ fp, H' b = none) ∧ s'.heap.get? D = some (lob us k) ∧ Vals ys us ∧ H' D = none ∧ W i n ys H') ?_ m0
  ⟨0, [], [], 0, H, hinv, st, fun b hb => (hfp b hb).1, hacc, .nil, hfree, w0⟩
 rintro n s3 ⟨i, ys, us, k, H3, I3, st3, fr3, hD3, rv3, hDn3, w3⟩
 obtain ⟨hlen, alt⟩ := turn i n ys H3 w3
 have I3p : Inv Y [(D, lob us k)] (stC fr σ) H3 s3 := I3.pins_of fun p hp => by
  have e : p = (D, lob us k) := by simpa using hp
  subst e
  exact ⟨hD3, hDn3, hDx.ne, hDx.fs, lob_pin⟩
 have stat : ∀ {H' : Hp}, (∀ b ∈ fp, H' b = none) → ∀ b ∈ fp, FpOk Y [(D, lob us k)] H' b := fun hn b hb => by
  obtain ⟨q1, q2, q3, q4, q5, q6⟩ := hfp b hb
  refine ⟨hn b hb, q2, q3, q4, q5, fun p hp => ?_⟩
  rcases List.mem_append.mp hp with z | z
  ·exact (hpn p z).elim
  ·have e : p = (D, lob us k) := by simpa using z
   subst e
   rintro rfl
   exact hDf hb
 rcases alt with ⟨stop, qn⟩ | ⟨go, M, hM, step⟩
 ·refine thn (hT.done Y rfl rfl rfl hcX i _ s3 _ H3 _ I3p (stat fr3) st3 stop) fun r s4 ⟨hr, I4⟩ => ?_
  subst hr
  have pD := (I4.pin (D, lob us k) (by simp)).1
  exact back0 (I4.pins_of fun p hp => absurd hp (by simp)) pD rv3 hDn3 hlen qn
 ·refine thn (hT.item Y rfl rfl rfl hcX i _ s3 _ H3 _ I3p (stat fr3) st3 go) fun r s4 ⟨u, hr, h4⟩ => ?_
  subst hr
  refine thn h4 fun _ s5 ⟨x, H5, I5, r5, y5, st5, fr5⟩ => ?_
  have I5' := I5.pinned (stat fr5) (hT.obj _ _ st5)
  refine thn (hg _ s5 _ H5 x u _ I5' r5 (gw x _ H5 _ _ (fun σ2 H2 wk q => And.intro wk q) (step x H5 y5))) fun _ s6 ⟨σ6, H6, I6, wk6, q6⟩ => ?_
  refine thn (hi _ s6 σ6 H6 _ I6 q6) fun ok s7 ⟨H7, I7, q7⟩ => ?_
  cases ok with
  | false =>
    obtain ⟨m', hm, w7⟩ := hM _ _ (by simpa using q7)
    have pf : ∀ b o, b ∈ fp → s5.heap.get? b = some o → s7.heap.get? b = some o ∧ H7 b = none := fun b o hb e => by
     have := I7.pin (b, o) (List.mem_append_right _ (List.mem_append_right _ (mem_pinsAt hb e)))
     exact ⟨this.1, this.2.1⟩
    refine ⟨m', hm, i + 1, ys, us, k, H7, (I7.pins_of (pins' := []) fun p hp => absurd hp (by simp)).weak wk6.1.symm fun a v e => ?_, hT.keep _ _ _ st5 fun b hb o e => (pf b o hb e).1, fun b hb => ?_, (I7.pin (D, lob us k) (by simp)).1, rv3, (I7.pin (D, lob us k) (by simp)).2.1, w7⟩
    ·obtain ⟨j, f1⟩ := stC_some a v e
     rw [wk6.2 a j f1]
     exact e
    ·obtain ⟨o, e, _⟩ := hT.obj _ _ st5 b hb
     exact (pf b o hb e).2
  | true =>
    have q7' : wi1 σ6 H7 fun J1 H4 => LastI J1 g1 ti1 te (msk fr1 σ6) ys H4 M := by simpa using q7
    refine thn (hi1 _ s7 σ6 H7 _ I7 q7') fun v s8 h8 => thn h8 fun itv s9 h9 => ?_
    obtain ⟨it1, fp1, tn1, J1, H9, e9, I9, T1, st9, f9, L9⟩ := h9
    subst e9
    have hpD := I9.pin (D, lob us k) (by simp)
    have hl6 : σ6.length = fr.length := by rw [I6.len, hNX, hN]
    have I9' : Inv Y (pinsAt fp s5.heap) (msk fr1 σ6) H9 s9 := (I9.pins_of (pins' := pinsAt fp s5.heap) fun p hp => I9.pin p (List.mem_append_right _ (List.mem_append_right _ hp))).weak (by unfold msk; rw [List.length_zipWith, hl6, hfl]; simp) fun a v e => (msk_get e).2
    have f9' : ∀ b ∈ fp1, FpOk Y (pinsAt fp s5.heap) H9 b := fun b hb => by
     obtain ⟨q1, q2, q3, q4, q5, q6⟩ := f9 b hb
     refine ⟨q1, q2, q3, q4, q5, fun p hp => ?_⟩
     rcases List.mem_append.mp hp with z | z
     ·exact q6 p (List.mem_append_left _ z)
     ·exact q6 p (List.mem_append_right _ (List.mem_append_right _ z))
    have hD1 : D ∉ fp1 := fun hb => (f9 D hb).2.2.2.2.2 (D, lob us k) (by simp) rfl
    have hDp : ∀ p ∈ Y.pn ++ pinsAt fp s5.heap, p.1 ≠ D := fun p hp => by
     rcases List.mem_append.mp hp with z | z
     ·exact (hpn p z).elim
     ·intro e
      exact hDf (e ▸ (of_pinsAt z).1)
    have lp := last_loop (X := Y) (gens := [⟨tg, iter, ifs, 0⟩, ⟨tg1, iter1, ifs1, 0⟩]) (d := 1) (scope := scope) (pos := pos) (R := fun r s' => match r with | .ok _ => ∃ m, m < n ∧ ∃ i ys us k H', Inv Y [] (stC fr σ) H' s' ∧ tn i s'.heap ∧ (∀ b ∈ fp, H' b = none) ∧ s'.heap.get? D = some (lob us k) ∧ Vals ys us ∧ H' D = none ∧ W i m ys H' | .error e => cameBackBy (model Y.prog Y.w) Y.A Y.env Y.xe e s')
     (fun acc => rfl) hcX I9' (fun a v e => (msk_get e).1) gw1 T1 st9 f9' hpD.1 rv3 hpD.2.1 hDx hDp hD1 hg1 hj1 he L9 ?_ fun _ _ z => (hxe _ _ z).elim
    ·exact compStart_one lp (T1.self _ _ _ _ _ st9 lp)
    ·intro ys2 us2 k2 H10 s10 I10 hD10 rv10 hn10 hl10 z10
     obtain ⟨m', hm, w10⟩ := hM _ _ z10
     have pf : ∀ b o, b ∈ fp → s5.heap.get? b = some o → s10.heap.get? b = some o ∧ H10 b = none := fun b o hb e => by
      have := I10.pin (b, o) (List.mem_append_right _ (mem_pinsAt hb e))
      exact ⟨this.1, this.2.1⟩
     refine ⟨m', hm, i + 1, ys2, us2, k2, H10, (I10.pins_of (pins' := []) fun p hp => absurd hp (by simp)).weak (by unfold msk; rw [List.length_zipWith, hl6, hfl]; unfold stC; simp) fun a v e => ?_, hT.keep _ _ _ st5 fun b hb o e => (pf b o hb e).1, fun b hb => ?_, hD10, rv10, hn10, w10⟩
     ·obtain ⟨j, f1⟩ := stC_some a v e
      obtain ⟨j', f2⟩ := hff a j f1
      exact msk_of f2 (by rw [wk6.2 a j f1]; exact e)
     ·obtain ⟨o, e, _⟩ := hT.obj _ _ st5 b hb
      exact (pf b o hb e).2
theorem ps_setC2 {wi : TI} {i : Nat} {x : Str} {pos' spos : Pos} (hN : X.N.Nodup) (hn : X.N[i]? = some x) (hx : Loc X.env.scope x) (c : CompOkD X scope N fr) (hc : X.calm = true) (hNl : N.length = fr.length) (hfl1 : fr1.length = fr.length) (hff : ∀ i j : Nat, fr[i]? = some (some j) → ∃ j' : Nat, fr1[i]? = some (some j')) (hi : PI X tg iter wi)
 (hg : ∀ C s₂ H fp, PG (cxD X scope C N s₂ H fp (xNo C)) tg g) (hf : ∀ C s₂ H fp, PIfs (cxD X scope C N s₂ H fp (xNo C)) ifs ti) (hi1 : ∀ C s₂ H fp, PI (cxD X scope C N s₂ H fp (xNo C)) tg1 iter1 wi1) (hg1 : ∀ C s₂ H fp, PG (cxD X scope C N s₂ H fp (xNo C)) tg1 g1) (hj1 : ∀ C s₂ H fp, PIfs (cxD X scope C N s₂ H fp (xNo C)) ifs1 ti1) (he : ∀ C s₂ H fp, PE (cxD X scope C N s₂ H fp (xNo C)) elt te) (gw : GW fr g) (gw1 : GW fr1 g1)
 (hsw : swapsWith (.ListComp elt [⟨tg, iter, ifs, 0⟩, ⟨tg1, iter1, ifs1, 0⟩] scope pos) (some (.Name x pos')) spos.line X.env = pure true := by rfl) (hs : ∀ x, foldedSetIterable iter X.env x = pure x := by intro _; rfl) (hs1 : ∀ C s₂ H fp x, foldedSetIterable iter1 (cxD X scope C N s₂ H fp (xNo C)).env x = pure x := by intro _ _ _ _ _; rfl)
 (hfl : X.fn x = true ∨ X.env.scope.names.lookup x = some .local := by first | exact .inl rfl | exact .inr rfl | assumption) :
 PS X (.Assign [.Name x pos'] (.ListComp elt [⟨tg, iter, ifs, 0⟩, ⟨tg1, iter1, ifs1, 0⟩] scope pos) spos) (tAsg (tComp2 fr fr1 wi g ti wi1 g1 ti1 te) (gName i)) := by
 walk_at "z3"
 rw [exec_Assign_Name_used _ _ _ _ hsw]
 refine wpAny_bind (wpAny_standAt (wpAny_bind ?_))
 show wpAny _ X.A (do let _ ← comprehension (.ListComp elt [⟨tg, iter, ifs, 0⟩, ⟨tg1, iter1, ifs1, 0⟩] scope pos) scope X.env _ (newList []) false (eval iter X.env) (some (assign (.Name x pos') X.env))) _ _ s
 refine wpAny_bind (wpAny_mono (wpAny_comprehension_free (use := some (assign (.Name x pos') X.env)) (Q := fun _ s' => SP X pins Q .next s') rfl hs (closure_eq (c.cells I.ok)) c.kind c.names
  (thn (hi pins s σ H _ I h) fun v s1 h1 => thn h1 fun itv s2 h2 => ?_)) (fun _ s' hq => wpAny_pure (wpAny_pure hq)) fun _ _ e => e)
 obtain ⟨it, fp, tn, J, H2, e, I2, T, st2, f2, q⟩ := h2
 subst e
 refine comp_coreG (xb := xNo) (RR := fun acc C => compPost (model X.prog X.w) X.A X.xe (some (assign (.Name x pos') X.env)) (fun _ s' => SP X pins Q .next s') acc C) c I2 T st2 f2 fun D C h₁ B st₁ => ?_
 refine two_loop (Q := _) hc hNl hfl1 hff B T st₁ (hs1 C _ _ _) (hg C _ _ _) (hf C _ _ _) (hi1 C _ _ _) (hg1 C _ _ _) (hj1 C _ _ _) (he C _ _ _) gw gw1 q fun H' ys s' IT as hm q => ?_
 obtain ⟨m, hm⟩ := hm
 show wpAny _ X.A (assign (.Name x pos') X.env (.ref D)) _ _ _
 refine wpAny_assign_Name (store_ok2 IT hN hn hx (v := .ref D) rfl (fun s2 I3 hsb => ?_) hfl)
 obtain ⟨a, sb, ha⟩ := hsb
 have hne : C ≠ a := by
  rcases ha with ha | ha
  ·rw [ha]; exact as.ne
  ·exact (as.cl _ _ ha).symm
 refine ⟨m, hm.sameBut sb hne, fun h' sb' => ⟨_, _, I3.turned (t' := s2.toks) (fun b o hb e => (sb'.2 b hb).trans e) as.fr as.ne (.inr as.ab) as.cl as.pn, q⟩⟩
end
theorem nestD_kind {X : Cx} {scope0 : Scope} {C : Addr} {N : List Str} {s₂ : Shared} {H₂ : Hp} {ex : List Addr} {xb : Value → Shared → Prop} {x : Str} (h : scope0.names.lookup x = some .free ∨ scope0.names.lookup x = some .cell) : (cxD X scope0 C N s₂ H₂ ex xb).env.kindOf x = some .cell ∨ (cxD X scope0 C N s₂ H₂ ex xb).env.kindOf x = some .free := by
 rcases h with h | h
 ·exact relabel_free h
 ·exact .inl (relabel_cell h)
theorem nestD_frees {X : Cx} {scope0 scope : Scope} {C : Addr} {N : List Str} {s₂ : Shared} {H₂ : Hp} {ex : List Addr} {xb : Value → Shared → Prop} (h : ∀ y ∈ scope.names, y.2 = .free → scope0.names.lookup y.1 = some .free ∨ scope0.names.lookup y.1 = some .cell) :
 ∀ y ∈ scope.names, y.2 = .free → (cxD X scope0 C N s₂ H₂ ex xb).env.kindOf y.1 = some .cell ∨ (cxD X scope0 C N s₂ H₂ ex xb).env.kindOf y.1 = some .free := fun y hy e => nestD_kind (h y hy e)
theorem fr_cover {fr fr1 : List (Option Nat)} (h : (List.range fr.length).all (fun i => !(fr[i]?.join).isSome || (fr1[i]?.join).isSome) = true) : ∀ i j : Nat, fr[i]? = some (some j) → ∃ j' : Nat, fr1[i]? = some (some j') := fun i j e => by
 have hi : i < fr.length := (List.getElem?_eq_some_iff.mp e).1
 have := List.all_eq_true.mp h i (List.mem_range.mpr hi)
 rw [e] at this
 simp only [Option.join, Option.isSome_some, Bool.not_true, Bool.false_or, Option.bind_some, id] at this
 cases e1 : fr1[i]? with
 | none => rw [e1] at this; simp at this
 | some o =>
   cases o with
   | none => rw [e1] at this; simp at this
   | some j' => exact ⟨j', rfl⟩
section
variable {g g1 : TG} {ti ti1 : TT} {te : TE} {wi1 : TI} {fr1 : List (Option Nat)} {σc : St} {H : Hp} {Q : VK}
theorem cp2_range {lo : Int} {n : Nat} (Pv : Nat → List V → Hp → Prop) (h0 : Pv 0 [] H) (hl : ∀ i ys H, i ≤ n → Pv i ys H → ys.length < sizeLine)
 (hs : ∀ i ys H, i < n → Pv i ys H → g (.int (lo + i)) σc H fun σ2 H2 => ti σ2 H2 fun b H3 => if b = true then wi1 σ2 H3 fun J1 H4 => LastI J1 g1 ti1 te (msk fr1 σ2) ys H4 (Pv (i + 1)) else Pv (i + 1) ys H3)
 (hd : ∀ l ys H, Pv n ys H → H l = none → Q (.ref l) (upd H l (.lst ys))) : CompI2 (Itr lo n) fr1 g ti wi1 g1 ti1 te σc H Q := by
 refine ⟨fun i m ys H => m = n - i ∧ i ≤ n ∧ Pv i ys H, ⟨_, rfl, Nat.zero_le _, h0⟩, ?_⟩
 rintro i m ys H ⟨rfl, hi, p⟩
 refine ⟨hl i ys H hi p, ?_⟩
 by_cases hlt : i < n
 ·refine .inr ⟨hlt, Pv (i + 1), fun σ' H' p' => ⟨_, by lia, rfl, hlt, p'⟩, fun x H' y => ?_⟩
  obtain ⟨e, y⟩ := y
  subst e y
  exact hs i ys _ hlt p
 ·have e : i = n := by lia
  subst e
  exact .inl ⟨Nat.le_refl _, fun l hl => hd l ys H p hl⟩
theorem last_range {lo : Int} {n : Nat} {ys0 : List V} {Z : List V → Hp → Prop} (Pv : Nat → List V → Hp → Prop) (h0 : Pv 0 ys0 H) (hl : ∀ i ys H, i ≤ n → Pv i ys H → ys.length < sizeLine)
 (hs : ∀ i ys H, i < n → Pv i ys H → g (.int (lo + i)) σc H fun σ2 H2 => ti σ2 H2 fun b H3 => if b = true then te σ2 H3 fun y H4 => Pv (i + 1) (ys ++ [y]) H4 else Pv (i + 1) ys H3)
 (hd : ∀ ys H, Pv n ys H → Z ys H) : LastI (Itr lo n) g ti te σc ys0 H Z := by
 refine ⟨fun i m ys H => m = n - i ∧ i ≤ n ∧ Pv i ys H, ⟨_, rfl, Nat.zero_le _, h0⟩, ?_⟩
 rintro i m ys H ⟨rfl, hi, p⟩
 refine ⟨hl i ys H hi p, ?_⟩
 by_cases hlt : i < n
 ·refine .inr ⟨hlt, Pv (i + 1), fun σ' H' p' => ⟨_, by lia, rfl, hlt, p'⟩, fun x H' y => ?_⟩
  obtain ⟨e, y⟩ := y
  subst e y
  exact hs i ys _ hlt p
 ·have e : i = n := by lia
  subst e
  exact .inl ⟨Nat.le_refl _, hd ys H p⟩
end
end L2
namespace L2
open PySem PySem.Spec PyProof.Rows
section
variable {κ : Type} [DecidableEq κ]
def valV (kvs : List (κ × V)) (k : κ) : Option V := (kvs.find? fun kv => decide (kv.1 = k)).map (·.2)
def putK (kvs : List (κ × V)) (k : κ) (v : V) : List (κ × V) :=
 if (kvs.any fun kv => decide (kv.1 = k)) = true then kvs.map (fun kv => if kv.1 = k then (kv.1, v) else kv) else kvs ++ [(k, v)]
theorem valV_nil {k : κ} : valV ([] : List (κ × V)) k = none := rfl
theorem valV_pos {p : κ × V} {r : List (κ × V)} {k : κ} (e : p.1 = k) : valV (p :: r) k = some p.2 := by simp [valV, List.find?_cons, e]
theorem valV_neg {p : κ × V} {r : List (κ × V)} {k : κ} (e : ¬ p.1 = k) : valV (p :: r) k = valV r k := by simp [valV, List.find?_cons, e]
theorem valV_any (k : κ) : ∀ kvs : List (κ × V), (kvs.any fun kv => decide (kv.1 = k)) = (valV kvs k).isSome
 | [] => rfl
 | p :: r => by
   rw [List.any_cons]
   by_cases e : p.1 = k
   ·simp only [valV_pos e, decide_eq_true e, Bool.true_or, Option.isSome_some]
   ·rw [valV_neg e, decide_eq_false e, Bool.false_or]; exact valV_any k r
theorem valV_map (k j : κ) (y : V) : ∀ kvs : List (κ × V), valV (kvs.map fun kv => if kv.1 = k then (kv.1, y) else kv) j = (valV kvs j).map fun x => if j = k then y else x
 | [] => rfl
 | p :: r => by
   have ih := valV_map k j y r
   rw [List.map_cons]
   by_cases h : p.1 = k
   ·rw [if_pos h]
    by_cases e : p.1 = j
    ·rw [valV_pos (p := (p.1, y)) e, valV_pos e, Option.map_some, if_pos (e.symm.trans h)]
    ·rw [valV_neg (p := (p.1, y)) e, valV_neg e, ih]
   ·rw [if_neg h]
    by_cases e : p.1 = j
    ·rw [valV_pos (p := p) e, valV_pos e, Option.map_some, if_neg (fun z => h (e.trans z))]
    ·rw [valV_neg (p := p) e, valV_neg e, ih]
theorem valV_snoc (k j : κ) (y : V) : ∀ kvs : List (κ × V), valV kvs k = none → valV (kvs ++ [(k, y)]) j = if j = k then some y else valV kvs j
 | [], _ => by
   by_cases e : k = j
   ·rw [if_pos e.symm]; exact valV_pos (p := (k, y)) e
   ·rw [if_neg (fun z => e z.symm)]; exact valV_neg (p := (k, y)) e
 | p :: r, hn => by
   rw [List.cons_append]
   have hk : ¬ p.1 = k := fun z => by rw [valV_pos z] at hn; cases hn
   rw [valV_neg hk] at hn
   have ih := valV_snoc k j y r hn
   by_cases e : p.1 = j
   ·rw [valV_pos e, valV_pos e, if_neg (fun z => hk (e.trans z))]
   ·rw [valV_neg e, valV_neg e, ih]
theorem valV_put (kvs : List (κ × V)) (k j : κ) (y : V) : valV (putK kvs k y) j = if j = k then some y else valV kvs j := by
 unfold putK
 by_cases a : (kvs.any fun kv => decide (kv.1 = k)) = true
 ·rw [if_pos a, valV_map]
  rw [valV_any] at a
  by_cases e : j = k
  ·obtain ⟨x, hx⟩ := Option.isSome_iff_exists.mp a
   rw [if_pos e, e, hx, Option.map_some, if_pos rfl]
  ·rw [if_neg e]
   cases valV kvs j with
   | none => rfl
   | some x => rw [Option.map_some, if_neg e]
 ·rw [if_neg a]
  refine valV_snoc k j y kvs ?_
  rw [valV_any] at a
  cases q : valV kvs k with
  | none => rfl
  | some x => rw [q] at a; exact (a rfl).elim
theorem length_putK (kvs : List (κ × V)) (k : κ) (v : V) : (putK kvs k v).length ≤ kvs.length + 1 := by
 unfold putK
 split
 ·rw [List.length_map]; lia
 ·rw [List.length_append, List.length_cons, List.length_nil]; lia
theorem putK_new {kvs : List (κ × V)} {k : κ} (v : V) (h : valV kvs k = none) : putK kvs k v = kvs ++ [(k, v)] := by
 unfold putK
 rw [valV_any, h]
 exact if_neg (by decide)
theorem RelO.isSome_eq {o : Option V} {u : Option Value} (r : RelO o u) : o.isSome = u.isSome := by
 cases o with
 | none => cases u with
   | none => rfl
   | some _ => exact (show False from r).elim
 | some _ => cases u with
   | none => exact (show False from r).elim
   | some _ => rfl
theorem RelO.getD {o : Option V} {u : Option Value} {d : V} {d' : Value} (r : RelO o u) (rd : RelV d d') : RelV (o.getD d) (u.getD d') := by
 cases o with
 | none => cases u with
   | none => exact rd
   | some _ => exact (show False from r).elim
 | some _ => cases u with
   | none => exact (show False from r).elim
   | some _ => exact r
theorem KV.val {kvs : List (κ × V)} {vs : List (κ × Value)} (r : KV kvs vs) (k : κ) : RelO (valV kvs k) (valueAt vs k) := by
 unfold KV at r
 induction r with
 | nil => exact True.intro
 | @cons p q ps qs h t ih =>
   obtain ⟨h1, h2⟩ := h
   by_cases e : p.1 = k
   ·have e' : q.1 = k := h1.symm.trans e
    have b : valueAt (q :: qs) k = some q.2 := by simp [valueAt, List.find?_cons, e']
    rw [valV_pos e, b]; exact h2
   ·have e' : ¬ q.1 = k := fun z => e (h1.trans z)
    have b : valueAt (q :: qs) k = valueAt qs k := by simp [valueAt, List.find?_cons, e']
    rw [valV_neg e, b]; exact ih
theorem KV.any {kvs : List (κ × V)} {vs : List (κ × Value)} (r : KV kvs vs) (k : κ) : (kvs.any fun kv => decide (kv.1 = k)) = vs.any fun kv => decide (kv.1 = k) := by
 unfold KV at r
 induction r with
 | nil => rfl
 | cons h t ih => rw [List.any_cons, List.any_cons, ih, h.1]
theorem KV.repl {kvs : List (κ × V)} {vs : List (κ × Value)} (r : KV kvs vs) (k : κ) {y : V} {u : Value} (ry : RelV y u) :
 KV (kvs.map fun kv => if kv.1 = k then (kv.1, y) else kv) (vs.map fun kv => if kv.1 = k then (kv.1, u) else kv) := by
 unfold KV at r ⊢
 induction r with
 | nil => exact .nil
 | @cons p q ps qs h t ih =>
   rw [List.map_cons, List.map_cons]
   refine .cons ?_ ih
   obtain ⟨h1, h2⟩ := h
   by_cases e : p.1 = k
   ·rw [if_pos e, if_pos (h1.symm.trans e)]; exact ⟨h1, ry⟩
   ·rw [if_neg e, if_neg (fun z => e (h1.trans z))]; exact ⟨h1, h2⟩
theorem KV.put {kvs : List (κ × V)} {vs : List (κ × Value)} (r : KV kvs vs) (k : κ) {y : V} {u : Value} (ry : RelV y u) : KV (putK kvs k y) (stored vs k u) := by
 unfold putK stored
 rw [r.any k]
 by_cases e : (vs.any fun kv => decide (kv.1 = k)) = true
 ·rw [if_pos e, if_pos e]; exact r.repl k ry
 ·rw [if_neg e, if_neg e]; exact Paired.snoc r ⟨rfl, ry⟩
theorem KV.length {kvs : List (κ × V)} {vs : List (κ × Value)} (r : KV kvs vs) : kvs.length = vs.length := Paired.length r
end
theorem kV_is {P : Program} {w : World} {k : Key} {u : Value} (r : RelV (kV k) u) : (mixKind P w).is k u = true := by
 cases k with
 | inl i => obtain ⟨t, e⟩ := (show ∃ t, u = Value.int i t from r); subst e; exact mixKind_int P w i t
 | inr x => obtain ⟨t, e⟩ := (show ∃ t, u = Value.str x t from r); subst e; exact mixKind_str P w x t
theorem items_are {P : Program} {w : World} : ∀ {ks : List Key} {us : List Value}, Vals (ks.map kV) us → ItemsAre (mixKind P w) ks us
 | [], _, r => by rw [List.map_nil] at r; cases r; exact .nil
 | k :: ks, _, r => by
   rw [List.map_cons] at r
   cases r with
   | cons h t => exact .cons (kV_is h) (items_are t)
abbrev KT (H : Hp) : List (List Key × V) → List (List Key × Addr × Value) → Prop := Paired fun p q => p.1 = q.1 ∧ H q.2.1 = some (.tup (p.1.map kV)) ∧ RelV p.2 q.2.2
theorem KT.val {H : Hp} {kvs : List (List Key × V)} {xs : List (List Key × Addr × Value)} (r : KT H kvs xs) (k : List Key) : RelO (valV kvs k) ((atKey xs k).map (·.2)) := by
 induction r with
 | nil => exact True.intro
 | @cons p q ps qs h t ih =>
   obtain ⟨h1, _, h2⟩ := h
   by_cases e : p.1 = k
   ·have e' : q.1 = k := h1.symm.trans e
    have b : atKey (q :: qs) k = some q.2 := by simp [atKey, List.find?_cons, e']
    rw [valV_pos e, b]; exact h2
   ·have e' : ¬ q.1 = k := fun z => e (h1.trans z)
    have b : atKey (q :: qs) k = atKey qs k := by simp [atKey, List.find?_cons, e']
    rw [valV_neg e, b]; exact ih
theorem KT.repl {H : Hp} {kvs : List (List Key × V)} {xs : List (List Key × Addr × Value)} (r : KT H kvs xs) (k : List Key) {y : V} {u : Value} (ry : RelV y u) :
 KT H (kvs.map fun kv => if kv.1 = k then (kv.1, y) else kv) (xs.map (putAt k u)) := by
 induction r with
 | nil => exact .nil
 | @cons p q ps qs h t ih =>
   rw [List.map_cons, List.map_cons]
   refine .cons ?_ ih
   obtain ⟨h1, h2, h3⟩ := h
   unfold putAt
   by_cases e : p.1 = k
   ·rw [if_pos e, if_pos (h1.symm.trans e)]; exact ⟨h1, h2, ry⟩
   ·rw [if_neg e, if_neg (fun z => e (h1.trans z))]; exact ⟨h1, h2, h3⟩
theorem KT.put {H : Hp} {kvs : List (List Key × V)} {xs : List (List Key × Addr × Value)} (r : KT H kvs xs) (k : List Key) {b : Addr} {y : V} {u : Value} (hb : H b = some (.tup (k.map kV))) (ry : RelV y u) :
 KT H (putK kvs k y) (storedH xs k b u) := by
 have e : (kvs.any fun kv => decide (kv.1 = k)) = (atKey xs k).isSome := by
  rw [valV_any, (r.val k).isSome_eq, Option.isSome_map]
 unfold putK storedH
 rw [e]
 by_cases q : (atKey xs k).isSome = true
 ·rw [if_pos q, if_pos q]; exact r.repl k ry
 ·rw [if_neg q, if_neg q]; exact Paired.snoc r ⟨rfl, hb, ry⟩
theorem KT.keeps {H H' : Hp} {kvs : List (List Key × V)} {xs : List (List Key × Addr × Value)} (r : KT H kvs xs) (ht : ∀ b ys, H b = some (.tup ys) → H' b = some (.tup ys)) : KT H' kvs xs :=
 Paired.mapP r fun _ _ z => ⟨z.1, ht _ _ z.2.1, z.2.2⟩
section
variable {P : Program} {w : World} {H : Hp} {h : Heap} {a : Addr}
theorem rd_of {u : HO} (ok : HOk P w H h) (e : Rd H a u) : ObjOk P w H h a u := e.ok ok
theorem dk_rd {kvs : List (Key × V)} (ok : HOk P w H h) (e : Rd H a (.dK kvs)) : kvs.length ≤ sizeLine ∧ (a == sysModules) = false ∧ ∃ vs, KV kvs vs ∧ h.DictOf (mixKind P w) a vs :=
 show ObjOk P w H h a (.dK kvs) from rd_of ok e
theorem dk_of {kvs : List (Key × V)} (ok : HOk P w H h) (e : H a = some (.dK kvs)) : kvs.length ≤ sizeLine ∧ (a == sysModules) = false ∧ ∃ vs, KV kvs vs ∧ h.DictOf (mixKind P w) a vs := dk_rd ok (.inl e)
theorem key_of {ks : List Key} (ok : HOk P w H h) (e : H a = some (.tup (ks.map kV))) : (tupleKind (mixKind P w)).is h ks a := by
 obtain ⟨_, its, r, o, h1, h2, n, h3⟩ := (show ObjOk P w H h a (.tup (ks.map kV)) from ok a _ e)
 exact ⟨o, its.toArray, n, h1, h2, h3, by simpa using items_are r⟩
theorem dt_rd {kvs : List (List Key × V)} (ok : HOk P w H h) (e : Rd H a (.dT kvs)) : kvs.length ≤ sizeLine ∧ (a == sysModules) = false ∧
 ∃ xs, KT H kvs xs ∧ h.DictOfH (tupleKind (mixKind P w)) a xs := by
 obtain ⟨z, y, xs, r, o, es, ep, h1, h2, h3, h4, h5⟩ := (show ObjOk P w H h a (.dT kvs) from rd_of ok e)
 refine ⟨z, y, xs, r, o, es, ep, h1, h2, h3, h4, fun x hx => ?_, h5⟩
 have all : ∀ {l : List (List Key × V)} {m : List (List Key × Addr × Value)}, KT H l m → ∀ x ∈ m, (tupleKind (mixKind P w)).is h x.1 x.2.1 := by
  intro l m q
  induction q with
  | nil => intro x hx; exact nomatch hx
  | @cons p q ps qs hq t ih =>
    intro x hx
    rcases List.mem_cons.mp hx with e | hx
    ·subst e
     exact key_of ok (by rw [← hq.1]; exact hq.2.1)
    ·exact ih x hx
 exact all r x hx
theorem dt_of {kvs : List (List Key × V)} (ok : HOk P w H h) (e : H a = some (.dT kvs)) : kvs.length ≤ sizeLine ∧ (a == sysModules) = false ∧
 ∃ xs, KT H kvs xs ∧ h.DictOfH (tupleKind (mixKind P w)) a xs := dt_rd ok (.inl e)
end
def DGet (H : Hp) (a : Addr) (y : V) (r : Option V) : Prop :=
 (∃ kvs k, Rd H a (.dK kvs) ∧ y = kV k ∧ r = valV kvs k) ∨ ∃ kvs k b, Rd H a (.dT kvs) ∧ y = .ref b ∧ H b = some (.tup (k.map kV)) ∧ r = valV kvs k
def DPut (H : Hp) (a : Addr) (y v : V) (H' : Hp) : Prop :=
 (∃ kvs k, H a = some (.dK kvs) ∧ y = kV k ∧ kvs.length < sizeLine ∧ H' = upd H a (.dK (putK kvs k v))) ∨
 ∃ kvs k b, H a = some (.dT kvs) ∧ y = .ref b ∧ H b = some (.tup (k.map kV)) ∧ kvs.length < sizeLine ∧ H' = upd H a (.dT (putK kvs k v))
theorem DGet.t {H : Hp} {a b : Addr} {kvs : List (List Key × V)} {k : List Key} (e : H a = some (.dT kvs)) (eb : H b = some (.tup (k.map kV))) : DGet H a (.ref b) (valV kvs k) := .inr ⟨kvs, k, b, .inl e, rfl, eb, rfl⟩
theorem DPut.t {H : Hp} {a b : Addr} {kvs : List (List Key × V)} {k : List Key} {v : V} (e : H a = some (.dT kvs)) (eb : H b = some (.tup (k.map kV))) (hl : kvs.length < sizeLine) :
 DPut H a (.ref b) v (upd H a (.dT (putK kvs k v))) := .inr ⟨kvs, k, b, e, rfl, eb, hl, rfl⟩
section
variable {X : Cx} {pins : List (Addr × Obj)} {σ : St} {H : Hp} {s : Shared} {a : Addr} {y v : V} {u r : Value} {o : Option V} {A : Around} {E : Value → Shared → Prop}
theorem Inv.big (I : Inv X pins σ H s) : sysModules < s.heap.objs.size := by
 have h : mainGlobals < s.heap.objs.size := (I.mod.glob.keeps I.bk).lt
 exact Nat.lt_trans (by decide) h
theorem d_getItem {Q : Value → Shared → Prop} (hu : A.units + 1 < cLine) (I : Inv X pins σ H s) (g : DGet H a y (some v)) (ry : RelV y u) (h : ∀ w' s', Inv X pins σ H s' → RelV v w' → Q w' s') :
 wpAny (model X.prog X.w) A (getItem (.ref a) u) Q E s := by
 rcases g with ⟨kvs, k, e, ey, l⟩ | ⟨kvs, k, b, e, ey, eb, l⟩
 ·subst ey
  obtain ⟨z, hd, vs, rel, dd⟩ := dk_rd I.hok e
  obtain ⟨w', hw, rw'⟩ := RelO.some_of (v := v) (o := valueAt vs k) (by rw [l]; exact rel.val k)
  exact wpAny_getItem_of (kV_is ry) dd.mapOf hw (h w' _ (I.tok _) rw')
 ·subst ey
  cases (show u = Value.ref b from ry)
  obtain ⟨z, hd, xs, rel, dd⟩ := dt_rd I.hok e
  obtain ⟨w', hw, rw'⟩ := RelO.some_of (v := v) (o := (atKey xs k).map (·.2)) (by rw [l]; exact rel.val k)
  obtain ⟨p, hp, hp2⟩ := Option.map_eq_some_iff.mp hw
  refine wpAny_getItem_heap (tupleKind_room_in1 hu) (key_of I.hok eb) dd hp ?_
  rw [hp2]
  exact h w' _ (I.tok _) rw'
theorem d_write {h' : Heap} {t' : Nat} {ob : HO} (I : Inv X pins σ H s) (mu : Mut (H a)) (hs : Heap.SameBut a s.heap h') (he : ∃ q, h'.get? a = some q) (new : ObjOk X.prog X.w (upd H a ob) h' a ob) :
 Inv X pins σ (upd H a ob) { s with heap := h', toks := t' } :=
 I.write (x := a) (e := a) mu (.inl rfl) (fun b q hb z => (hs.2 b hb).trans z) he new
theorem dk_new {P : Program} {w : World} {H' : Hp} {h' : Heap} {kvs : List (Key × V)} {vs : List (Key × Value)} (z : kvs.length ≤ sizeLine) (hd : (a == sysModules) = false) (rel : KV kvs vs) (dd : h'.DictOf (mixKind P w) a vs) :
 ObjOk P w H' h' a (.dK kvs) := ⟨z, hd, vs, rel, dd⟩
theorem d_setItem {H' : Hp} {Q : Unit → Shared → Prop} (hu : A.units + 1 < cLine) (I : Inv X pins σ H s) (g : DPut H a y v H') (ry : RelV y u) (rv : RelV v r) (h : ∀ s', Inv X pins σ H' s' → Q () s') :
 wpAny (model X.prog X.w) A (setItem (.ref a) u r) Q E s := by
 rcases g with ⟨kvs, k, e, ey, l, eH⟩ | ⟨kvs, k, b, e, ey, eb, l, eH⟩
 ·subst ey eH
  obtain ⟨z, hd, vs, rel, dd⟩ := dk_of I.hok e
  have hz : vs.length ≤ sizeLine := by rw [← rel.length]; exact z
  have hl : (putK kvs k v).length ≤ sizeLine := by have := length_putK kvs k v; lia
  refine wpAny_setItem_pairs (hsz := hz) (kV_is ry) dd fun h' dd' hs => h _ ?_
  have he : ∃ q, h'.get? a = some q := let ⟨q, _, _, hq, _⟩ := dd'; ⟨q, hq⟩
  exact d_write I (by rw [e]; exact True.intro) hs he (dk_new hl hd (rel.put k rv) dd')
 ·subst ey eH
  cases (show u = Value.ref b from ry)
  obtain ⟨z, hd, xs, rel, dd⟩ := dt_of I.hok e
  have hz : xs.length ≤ sizeLine := by rw [← Paired.length rel]; exact z
  have hl : (putK kvs k v).length ≤ sizeLine := by have := length_putK kvs k v; lia
  refine wpAny_setItem_heap (hsz := hz) (tupleKind_room_in1 hu) (key_of I.hok eb) dd fun h' dd' hs => h _ ?_
  obtain ⟨q, es, ep, hq, h2, h3, h4, _, h5⟩ := dd'
  refine d_write I (by rw [e]; exact True.intro) hs ⟨q, hq⟩ ⟨hl, hd, _, (rel.put k eb rv).keeps fun c ys ec => ?_, q, es, ep, hq, h2, h3, h4, h5⟩
  rw [upd_ne (ne_of ec e (fun z => nomatch z))]
  exact ec
end
section
variable {X : Cx} {pins : List (Addr × Obj)} {σ : St} {H : Hp} {s : Shared} {a : Addr} {kvs : List (Key × V)} {k : Key} {u : Value} {A : Around} {E : Value → Shared → Prop}
end
def NoSl (i : Expr) : Prop := ∀ ov iv, subscripted i false ov iv = operate [ov, iv] (getItem ov iv)
theorem subD_of {prog : Program} {w : World} {A : Around} {E : Value → Shared → Prop} {s : Shared} {env : Env} {value slice : Expr} {pos : Pos} {T id : String} {Q : Value → Shared → Prop}
 (hl : typeLookup (.type T) "__getitem__" = pure (some (.builtin id))) (hs : NoSl slice)
 (h : wpAny (model prog w) A (eval value env) (fun o s₁ => wpAny (model prog w) A (eval slice env) (fun i s₂ => s₂.TypeIs o T ∧ wpAny (model prog w) A (getItem o i) Q E s₂) E s₁) E s) :
 wpAny (model prog w) A (eval (.Subscript value slice pos) env) Q E s := by
 refine Subscript_ (wpAny_mono h (fun o s₁ h₁ => wpAny_mono h₁ (fun i s₂ h₂ => ?_) fun _ _ x => x) fun _ _ x => x)
 obtain ⟨hT, h₂⟩ := h₂
 unfold subscriptTail
 refine wpAny_bind ?_
 rw [getitemInPython_of_ne hT.not_modules]
 refine wpAny_bind (wpAny_specialOf hT hl ?_)
 have fin : wpAny (model prog w) A (subscripted slice false o i) (fun r s₃ => wpAny (model prog w) A (letTemporaryGo value o r >>= fun _ => pure r) Q E s₃) E s₂ := by
  rw [hs o i]
  exact wpAny_operating (wpAny_mono h₂ (fun r s₃ h₃ => wpAny_bind (wpAny_letTemporaryGo (wpAny_pure h₃))) fun _ _ x => x)
 first
  | exact wpAny_pure (wpAny_bind fin)
  | exact wpAny_bind (wpAny_pure (wpAny_bind fin))
  | exact wpAny_bind fin
theorem dict_typeIs {X : Cx} {pins : List (Addr × Obj)} {σ : St} {H : Hp} {s : Shared} {a : Addr} {y : V} {o : Option V} (I : Inv X pins σ H s) (g : DGet H a y o) : s.TypeIs (.ref a) "dict" := by
 rcases g with ⟨kvs, k, e, _, _⟩ | ⟨kvs, k, b, e, _, _, _⟩
 ·obtain ⟨_, _, vs, _, dd⟩ := dk_rd I.hok e
  exact dd.typeIs
 ·obtain ⟨_, _, xs, _, dd⟩ := dt_rd I.hok e
  exact dd.typeIs
def tDGet (td ty : TE) : TE := fun σ H Q => td σ H fun x H1 => ty σ H1 fun y H2 => ∃ a v, x = .ref a ∧ DGet H2 a y (some v) ∧ Q v H2
def sDPut (td ty tv : TE) : TS := fun D σ H => tv σ H fun v H1 => td σ H1 fun x H2 => ty σ H2 fun y H3 => ∃ a H4, x = .ref a ∧ DPut H3 a y v H4 ∧ D.nx σ H4
section
variable {X : Cx} {o i e value : Expr} {pos pos' tpos : Pos} {td ty tv : TE}
theorem pe_dget (hu : X.A.units + 1 < cLine) (ho : PE X o td) (hi : PE X i ty) (hs : NoSl i) : PE X (.Subscript o i pos) (tDGet td ty) := by
 walk_at "z3"
 refine subD_of PySem.F.slot_dict_getitem.lookup hs (thn (ho pins s σ H _ I h) fun u s1 ⟨x, H1, I1, rx, q1⟩ => thn (hi pins s1 σ H1 _ I1 q1) fun iv s2 ⟨y, H2, I2, ry, a, v, ex, g, q2⟩ => ?_)
 subst ex
 obtain rfl : u = Value.ref a := rx
 exact ⟨dict_typeIs I2 g, d_getItem hu I2 g ry fun w' s3 I3 rw' => ⟨v, H2, I3, rw', q2⟩⟩
theorem ps_dput (hu : X.A.units + 1 < cLine) (ho : PE X o td) (hi : PE X i ty) (hv : PE X value tv) (hs : swapsWith value (some (.Subscript o i pos')) pos.line X.env = pure false) :
 PS X (.Assign [.Subscript o i pos'] value pos) (sDPut td ty tv) := by
 intro pins s σ H D I h
 refine wpAny_Assign_Subscript (thn (hv pins s σ H _ I h) fun r s1 ⟨v, H1, I1, rv, q1⟩ => thn (ho pins s1 σ H1 _ I1 q1) fun u s2 ⟨x, H2, I2, rx, q2⟩ => thn (hi pins s2 σ H2 _ I2 q2) fun iv s3 ⟨y, H3, I3, ry, a, H4, ex, g, q3⟩ => ?_) hs
 subst ex
 obtain rfl : u = Value.ref a := rx
 exact d_setItem hu I3 g ry rv fun s4 I4 => ⟨σ, H4, I4, q3⟩
end
end L2
namespace L2
open PySem PySem.Spec PyProof.Rows
section
variable {prog : Program} {w : World} {A : Around} {E : Value → Shared → Prop} {R : Result → Shared → Prop} {s : Shared}
end
def DCompI (J : It) (g : TG) (ti : TT) (tk tv : TE) (σc : St) (H1 : Hp) (Q : VK) : Prop := ∃ W : Nat → Nat → List (Key × V) → Hp → Prop, (∃ m, W 0 m [] H1) ∧ ∀ i m ys H, W i m ys H → ys.length < sizeLine ∧
 ((J.stop i H ∧ ∀ l, H l = none → Q (.ref l) (upd H l (.dK ys))) ∨ (J.go i H ∧ ∃ M : List (Key × V) → Hp → Prop, (∀ ys' H', M ys' H' → ∃ m', m' < m ∧ W (i + 1) m' ys' H') ∧
   ∀ x H', J.yld i H x H' → g x σc H' fun σ2 H2 => ti σ2 H2 fun b H3 => if b = true then tk σ2 H3 fun y H4 => ∃ k : Key, y = kV k ∧ tv σ2 H4 fun v H5 => M (putK ys k v) H5 else M ys H3))
def tDComp (fr : List (Option Nat)) (wi : TI) (g : TG) (ti : TT) (tk tv : TE) : TE := fun σ H Q => wi σ H fun J H1 => DCompI J g ti tk tv (stC fr σ) H1 Q
section
variable {X : Cx} {scope : Scope} {N : List Str} {fr : List (Option Nat)} {tg iter kx vx : Expr} {ifs : List Expr} {pos : Pos} {J : It} {g : TG} {ti : TT} {tk tv : TE}
end
end L2
namespace L2
open PySem PySem.Spec PyProof.Rows
theorem dt_empty {P : Program} {w : World} {H : Hp} (h : Heap) (hb : sysModules < h.objs.size) : ObjOk P w H (h.push { cls := .type "dict", data := .dict #[] }) h.objs.size (.dT []) :=
 ⟨Nat.zero_le _, beq_eq_false_iff_ne.mpr (Ne.symm (Nat.ne_of_lt hb)), [], .nil, _, #[], 0, Heap.get?_push_size _ rfl, ⟨rfl, rfl, rfl⟩, rfl, rfl, List.nodup_nil⟩
def tDNewT : TE := fun _ H Q => ∀ p, H p = none → Q (.ref p) (upd H p (.dT []))
section
variable {X : Cx} {pos : Pos}
theorem pe_dnewT : PE X (.Dict [] [] pos) tDNewT := fun pins s σ H Q I h =>
 wpAny_Dict_empty ⟨.ref s.heap.objs.size, _, I.laid (a := s.heap.objs.size) (o := .dT []) (t' := s.toks) (fun _ _ q => Heap.get?_push_of_some _ q) (Nat.le_refl _) (dt_empty s.heap I.big), rfl, h _ (I.hok.fresh (Nat.le_refl _))⟩
end
structure M1 (X : Cx) (o : Expr) (m : Str) (apos : Pos) (e : Expr) (cpos : Pos) : Prop where
 base : attributeBase o m X.env (eval o X.env) = eval o X.env
 few : ((backTo cpos (starEach [e] X.env)).all (fun x => !x.1) && (backToKw cpos (keywordEach [] X.env)).all (fun x => x.1.isSome)
  && decide (([e] : List Expr).length + ([] : List Keyword).length + (if ([] : List Keyword).isEmpty then 0 else 1) < 30)) = true
 line : (apos.endLine == cpos.line) = true
 trees : backTo cpos (starEach [e] X.env) = [(false, eval e X.env)]
structure M2 (X : Cx) (o : Expr) (m : Str) (apos : Pos) (e f : Expr) (cpos : Pos) : Prop where
 base : attributeBase o m X.env (eval o X.env) = eval o X.env
 few : ((backTo cpos (starEach [e, f] X.env)).all (fun x => !x.1) && (backToKw cpos (keywordEach [] X.env)).all (fun x => x.1.isSome)
  && decide (([e, f] : List Expr).length + ([] : List Keyword).length + (if ([] : List Keyword).isEmpty then 0 else 1) < 30)) = true
 line : (apos.endLine == cpos.line) = true
 trees : backTo cpos (starEach [e, f] X.env) = [(false, eval e X.env), (false, eval f X.env)]
def IsD (H : Hp) (a : Addr) : Prop := (∃ kvs, Rd H a (.dK kvs)) ∨ ∃ kvs, Rd H a (.dT kvs)
theorem isD_at {X : Cx} {pins : List (Addr × Obj)} {σ : St} {H : Hp} {s : Shared} {a : Addr} (I : Inv X pins σ H s) (d : IsD H a) :
 s.TypeIs (.ref a) "dict" ∧ (∀ b, Value.ref a = .ref b → ∃ ob, s.heap.get? b = some ob ∧ ob.dict = none) ∧ (a == sysModules) = false := by
 rcases d with ⟨kvs, e⟩ | ⟨kvs, e⟩
 ·obtain ⟨_, hd, vs, _, dd⟩ := dk_rd I.hok e
  refine ⟨dd.typeIs, fun b q => ?_, hd⟩
  cases q
  obtain ⟨ob, _, _, h1, h2, _⟩ := dd
  exact ⟨ob, h1, h2.2.1⟩
 ·obtain ⟨_, hd, xs, _, dd⟩ := dt_rd I.hok e
  refine ⟨dd.typeIs, fun b q => ?_, hd⟩
  cases q
  obtain ⟨ob, _, _, h1, h2, _⟩ := dd
  exact ⟨ob, h1, h2.2.1⟩
section
variable {X : Cx} {pins : List (Addr × Obj)} {σ : St} {H : Hp} {s : Shared} {a : Addr} {y d : V} {u r : Value} {o : Option V} {A : Around} {E : Value → Shared → Prop}
theorem d_get2 {Q : Value → Shared → Prop} (hu : A.units + 1 < cLine) (I : Inv X pins σ H s) (g : DGet H a y o) (ry : RelV y u) (rd : RelV d r) (h : ∀ w' s', Inv X pins σ H s' → RelV (o.getD d) w' → Q w' s') :
 wpAny (model X.prog X.w) A (call (.builtin "dict.get") [.ref a, u, r]) Q E s := by
 rcases g with ⟨kvs, k, e, ey, l⟩ | ⟨kvs, k, b, e, ey, eb, l⟩
 ·subst ey
  obtain ⟨z, hd, vs, rel, dd⟩ := dk_rd I.hok e
  refine call_meetsIn PySem.F.slot_dict_get dd.typeIs PySem.F.entry_dict_get (PySem.F.args_dict_get_3 _ _ _) (meets_dict_get_default (mixKind X.prog X.w) a (kV_is ry) hd r) ⟨_, dd.mapOf, h _ _ (I.tok _) ?_⟩
  rw [l]
  exact (rel.val k).getD rd
 ·subst ey
  cases (show u = Value.ref b from ry)
  obtain ⟨z, hd, xs, rel, dd⟩ := dt_rd I.hok e
  refine call_meetsIn PySem.F.slot_dict_get dd.typeIs PySem.F.entry_dict_get (PySem.F.args_dict_get_3 _ _ _) (meetsH_dict_get_default (tupleKind (mixKind X.prog X.w)) a b hd r) ⟨tupleKind_room_in1 hu, k, xs, key_of I.hok eb, dd, h _ _ (I.tok _) ?_⟩
  rw [l]
  exact (rel.val k).getD rd
end
def tDGet2 (td ty tx : TE) : TE := fun σ H Q => td σ H fun x H1 => ∃ a, x = .ref a ∧ IsD H1 a ∧ ty σ H1 fun y H2 => tx σ H2 fun z H3 => ∃ o, DGet H3 a y o ∧ Q (o.getD z) H3
section
variable {X : Cx} {o e f : Expr} {apos cpos : Pos} {td ty tx : TE}
theorem pe_dget2 (hu : X.A.units + 1 < cLine) (ho : PE X o td) (he : PE X e ty) (hf : PE X f tx) (m : M2 X o "get" apos e f cpos) : PE X (.Call (.Attribute o "get" apos) [e, f] [] cpos) (tDGet2 td ty tx) := by
 walk_at "z3"
 refine wpAny_Call_method m.base m.few m.line PySem.F.plainAttrs_dict PySem.F.slot_dict_get PySem.F.type_dict_get (thn (ho pins s σ H _ I h) fun u s1 ⟨x, H1, I1, rx, a, ex, d, q1⟩ => ?_)
 subst ex
 obtain rfl : u = Value.ref a := rx
 obtain ⟨t1, t2, _⟩ := isD_at I1 d
 refine ⟨t1, t2, ?_⟩
 rw [m.trees]
 refine Calls.callWith_builtin rfl (Calls.evalArgs_plain (Calls.spliced_cons (thn (he pins s1 σ H1 _ I1 q1) fun iv s2 ⟨y, H2, I2, ry, q2⟩ =>
  Calls.spliced_cons (thn (hf pins s2 σ H2 _ I2 q2) fun fv s3 ⟨z, H3, I3, rz, ov, g, q3⟩ => Calls.spliced_nil ?_))))
 exact d_get2 hu I3 g ry rz fun w' s4 I4 rw' => ⟨_, H3, I4, rw', q3⟩
end
end L2
namespace L2
open PySem PySem.Spec PyProof.Rows
section
variable {X : Cx} {e k : Expr} {te : TE} {tk : TO} {pos p2 : Pos}
def rRev (K : PySem.W.Frag) : V → Hp → VK → Prop := fun x H Q => ∃ a xs, x = .ref a ∧ SqL K H a xs ∧ ∀ p, H p = none → Q (.ref p) (upd H p (.lst xs.reverse))
def tRev (K : PySem.W.Frag) (te : TE) (tk : TO) : TE := fun σ H Q => te σ H fun x H1 => tk σ H1 fun j H2 => j = some (-1) ∧ rRev K x H2 Q
end
section
variable {X : Cx}
end
section
variable {K : PySem.W.Frag} {H : Hp} {Q : VK}
end
end L2
namespace L2
open PySem PySem.Spec PyProof.Rows
section
variable {prog : Program} {w : World} {A : Around} {E : Value → Shared → Prop} {s : Shared}
def RunsTo (prog : Program) (w : World) (A : Around) (vs : List Value) (s : Shared) (R : List Value → Prop) : Prop :=
 ∀ {E : Value → Shared → Prop} {P : SortSt → Shared → Prop}, (∀ (st : SortSt) (out : List Value), failedOf st = none → (arrOf st).map (·.2) = out.toArray → out.length = vs.length → R out → P st s) →
  wpAny (model prog w) A (do let kind ← keyKind' vs.toArray; let ((), st) ← (sortRuns').run (SortSt.mk' kind (vs.toArray.zip vs.toArray) #[] 7 none); pure st) P E s
theorem list_sort_raw {a : Addr} {vs : List Value} {n : Nat} {P : Fin → Shared → Prop} {R : List Value → Prop} (ho : s.heap.get? a = some (seqObj "list" vs.toArray n)) (h2 : 2 ≤ vs.length) (hz : vs.length ≤ sizeLine)
 (hr : ∀ h' : Heap, (∀ b o, b ≠ a → s.heap.get? b = some o → h'.get? b = some o) → RunsTo prog w A vs { s with heap := h' } R)
 (h : ∀ out : List Value, out.length = vs.length → R out → P (.done (.ret .none)) { s with heap := sortedHeap s.heap a vs out.toArray }) :
 wpAny (model prog w) A (Builtin.«list.sort» ⟨[.ref a], []⟩) P E s := by
 rw [list_sort_plain]
 have ha : a < s.heap.objs.size := Heap.lt_size ho
 refine wpAny_bind (listItems_at ho rfl ?_)
 refine wpAny_bind (listUpdate_at ho rfl ?_ (by rw [List.size_toArray]; exact hz) (Nat.zero_le _))
 obtain ⟨e1, ho1⟩ : ∃ e1, (s.heap.update a (Obj.mapSeq fun _ => #[])).get? a = some (seqObj "list" #[] e1) := ⟨_, get?_update_seq ho (fun _ => #[])⟩
 refine wpAny_bind (seqEpoch_at ho1 rfl ?_)
 refine wpAny_bind (wpAny_newTuple ?_ (by show vs.length ≤ _; exact hz))
 refine wpAny_bind (wpAny_newList ?_ (Nat.zero_le _))
 refine wpAny_holding ?_
 have ho6 : (((s.heap.update a (Obj.mapSeq fun _ => #[])).push (seqObj "tuple" vs.toArray 0)).push (seqObj "list" #[] 0)).get? a = some (seqObj "list" #[] e1) := by
  rw [Heap.get?_push_ne _ _ _ (by rw [size_push', Heap.size_update]; exact Nat.ne_of_lt (Nat.lt_succ_of_lt ha)), Heap.get?_push_ne _ _ _ (by rw [Heap.size_update]; exact Nat.ne_of_lt ha)]
  exact ho1
 have keep : ∀ b o, b ≠ a → s.heap.get? b = some o → (((s.heap.update a (Obj.mapSeq fun _ => #[])).push (seqObj "tuple" vs.toArray 0)).push (seqObj "list" #[] 0)).get? b = some o := fun b o hb q => by
  have hlt := Heap.lt_size q
  rw [Heap.get?_push_ne _ _ _ (by rw [size_push', Heap.size_update]; exact Nat.ne_of_lt (Nat.lt_succ_of_lt hlt)), Heap.get?_push_ne _ _ _ (by rw [Heap.size_update]; exact Nat.ne_of_lt hlt), Heap.get?_update_ne _ _ _ _ hb]
  exact q
 show wpAny (model prog w) A _ P E { s with heap := ((s.heap.update a (Obj.mapSeq fun _ => #[])).push (seqObj "tuple" vs.toArray 0)).push (seqObj "list" #[] 0) }
 dsimp only
 have hn2 : ¬ vs.toArray.size < 2 := by rw [List.size_toArray]; lia
 rw [if_neg hn2, if_neg hn2]
 have run := hr _ keep (E := E) (P := fun st s' => wpAny (model prog w) A (do
  let sorted := (arrOf st).map (·.2)
  let touched := (← seqEpoch a) != e1
  Builtin.List.listUpdate (.ref a) fun _ => sorted
  if let some e := failedOf st then rule "list.sort.comparison-raised"; throw e
  if touched then rule "list.sort.modified"; raiseError "ValueError" "list modified during sort"
  ret .none) P E s') (fun st out hf har hl hR => ?_)
 ·have := wpAny_bind run
  simp only [bind_assoc, pure_bind] at this
  exact this
 ·rw [har]
  refine wpAny_bind (seqEpoch_at ho6 rfl ?_)
  refine wpAny_bind (listUpdate_at ho6 rfl ?_ (Nat.zero_le _) (by show out.toArray.size ≤ _; rw [List.size_toArray]; lia))
  rw [hf]
  simp only [bne_self_eq_false, Bool.false_eq_true, if_false]
  exact wpAny_pure (h out hl hR)
end
section
variable {X : Cx}
end
end L2
set_option maxHeartbeats 4000000
namespace L2
open PySem PySem.Spec PyProof.Rows
def gallop' : Bool → Keyed → Array Keyed → Nat → Nat → Nat → StateT SortSt Sem (Option Nat) := sortPriv% PySem.Builtin.gallop
local macro_rules | `(tactic| walk_at "gallop") => do
 let n := Lean.mkIdent ((Lean.Name.num `_private.PySem.Builtin.List.W1All 0) ++ `PySem.Builtin.gallop)
 `(tactic| (delta gallop'; delta $n:ident; dsimp only))
def R (ρ : Keyed → Int) (xs : Array Keyed) (i : Nat) : Int := (xs[i]?).elim 0 ρ
def SortedIn (ρ : Keyed → Int) (xs : Array Keyed) (lo hi : Nat) : Prop := ∀ i j, lo ≤ i → i ≤ j → j < hi → R ρ xs i ≤ R ρ xs j
section
variable {prog : Program} {w : World} {A : Around} {E : Value → Shared → Prop} {s : Shared} {a₀ : Array Keyed} {ρ : Keyed → Int} {k0 : SortKind}
def LtBy (prog : Program) (w : World) (A : Around) (s : Shared) (k0 : SortKind) (ρ : Keyed → Int) (a₀ : Array Keyed) : Prop :=
 ∀ {E : Value → Shared → Prop} {st : SortSt} {x y : Keyed} {Q : Option Bool → SortSt → Prop}, kindOf st = k0 → x ∈ a₀.toList → y ∈ a₀.toList → Q (some (decide (ρ x < ρ y))) st → wpS (model prog w) A E s (lt' x y) Q st
theorem wpS_elem {xs : Array Keyed} {i : Nat} {x : Keyed} {st : SortSt} {Q : Keyed → SortSt → Prop} (hx : xs[i]? = some x) (h : Q x st) : wpS (model prog w) A E s (elem' xs i) Q st := by
 rw [elem'_eq, hx]; exact wpS_pure h
def bey (ρ : Keyed → Int) (left : Bool) (key : Keyed) (v : Int) : Bool := if left then decide (v < ρ key) else !decide (ρ key < v)
theorem wpS_bey (hL : LtBy prog w A s k0 ρ a₀) {st : SortSt} (hk : kindOf st = k0) {left : Bool} {key x : Keyed} {arr : Array Keyed} {i : Nat} {Q : Option Bool → SortSt → Prop} (hkey : key ∈ a₀.toList) (hx : arr[i]? = some x) (hm : x ∈ a₀.toList) (h : Q (some (bey ρ left key (R ρ arr i))) st) :
 wpS (model prog w) A E s (elem' arr i >>= fun x => if left = true then lt' x key else lt' key x >>= fun r => pure (Option.map (fun x => !x) r)) Q st := by
 refine wpS_bind (wpS_elem hx ?_)
 have e : R ρ arr i = ρ x := by unfold R; rw [hx]; rfl
 rw [e] at h
 cases left with
 | true =>
   rw [if_pos rfl]
   exact hL hk hm hkey h
 | false =>
   rw [if_neg (by decide)]
   exact wpS_bind (hL hk hkey hm (wpS_pure h))
theorem wpS_gallop (hL : LtBy prog w A s k0 ρ a₀) {st : SortSt} (hk : kindOf st = k0) {left : Bool} {key : Keyed} {arr : Array Keyed} {base n hint : Nat} {Q : Option Nat → SortSt → Prop} (hkey : key ∈ a₀.toList) (harr : ∀ i, i < n → ∃ x, arr[base + i]? = some x ∧ x ∈ a₀.toList)
 (hs : SortedIn ρ arr base (base + n)) (hh : hint < n) (h : ∀ k, k ≤ n → (∀ i, i < k → bey ρ left key (R ρ arr (base + i)) = true) → (∀ i, k ≤ i → i < n → bey ρ left key (R ρ arr (base + i)) = false) → Q (some k) st) :
 wpS (model prog w) A E s (gallop' left key arr base n hint) Q st := by
 have hb : ∀ {i : Nat} {Q' : Option Bool → SortSt → Prop}, i < n → Q' (some (bey ρ left key (R ρ arr (base + i)))) st → wpS (model prog w) A E s (elem' arr (base + i) >>= fun x => if left = true then lt' x key else lt' key x >>= fun r => pure (Option.map (fun x => !x) r)) Q' st := fun hi q => by
  obtain ⟨x, hx, hm⟩ := harr _ hi
  exact wpS_bey hL hk hkey hx hm q
 have anti : ∀ i j, i ≤ j → j < n → bey ρ left key (R ρ arr (base + j)) = true → bey ρ left key (R ρ arr (base + i)) = true := fun i j hij hj e => by
  have := hs (base + i) (base + j) (by lia) (by lia) (by lia)
  unfold bey at e ⊢
  cases left with
  | true => simp only [if_true, decide_eq_true_eq] at e ⊢; lia
  | false => simp only [Bool.false_eq_true, if_false, Bool.not_eq_true', decide_eq_false_iff_not] at e ⊢; lia
 have antiF : ∀ i j, i ≤ j → j < n → bey ρ left key (R ρ arr (base + i)) = false → bey ρ left key (R ρ arr (base + j)) = false := fun i j hij hj e => by
  cases q : bey ρ left key (R ρ arr (base + j)) with
  | false => rfl
  | true => rw [anti i j hij hj q] at e; cases e
 generalize hP : (fun i => bey ρ left key (R ρ arr (base + i))) = P at *
 have hPi : ∀ i, bey ρ left key (R ρ arr (base + i)) = P i := fun i => by rw [← hP]
 simp only [hPi] at hb anti antiF h
 clear hP hPi
 walk_at "gallop"
 refine wpS_bind (hb hh ?_)
 cases hr : P hint with
 | true =>
   simp only [if_true]
   refine wpS_bind (wpS_mono (wpS_forRange (I := fun x c st' => st' = st ∧ ∃ l o, c = (none, l, o) ∧ l < o ∧ x + 1 ≤ o ∧ hint + l < n ∧ P (hint + l) = true)
    (Q := fun c st' => st' = st ∧ ∃ l o, c = (none, l, o) ∧ l < o ∧ hint + l < n ∧ P (hint + l) = true ∧ (n - hint ≤ o ∨ (hint + o < n ∧ P (hint + o) = false))) ?_ ?_ ⟨rfl, 0, 1, rfl, by lia, by lia, by lia, hr⟩) ?_)
   ·rintro x c st' _ hx ⟨rfl, l, o, rfl, h1, h2, h3, h4⟩
    dsimp only
    split
    ·rename_i g
     exact wpS_pure ⟨rfl, l, o, rfl, h1, h3, h4, .inl g⟩
    ·rename_i g
     refine wpS_bind (hb (i := hint + o) (by lia) ?_)
     cases q : P (hint + o) with
     | true =>
       simp only [Bool.not_true, Bool.false_eq_true, if_false]
       exact wpS_pure ⟨rfl, o, 2 * o + 1, rfl, by lia, by lia, by lia, q⟩
     | false =>
       simp only [Bool.not_false, if_true]
       exact wpS_pure ⟨rfl, l, o, rfl, h1, h3, h4, .inr ⟨by lia, q⟩⟩
   ·rintro c st' ⟨rfl, l, o, rfl, h1, h2, h3, h4⟩
    exact ⟨rfl, l, o, rfl, h1, h3, h4, .inl (by lia)⟩
   ·rintro c st' ⟨rfl, l, o, rfl, h1, h3, h4, h5⟩
    dsimp only
    refine wpS_bind (wpS_mono (wpS_forRange (I := fun x c st'' => st'' = st' ∧ ∃ lo hi, c = (none, lo, hi) ∧ lo ≤ hi ∧ hi ≤ n ∧ hi - lo ≤ n - x ∧ (∀ i, i < lo → P i = true) ∧ (∀ i, hi ≤ i → i < n → P i = false))
     (Q := fun c st'' => st'' = st' ∧ ∃ lo hi, c = (none, lo, hi) ∧ lo ≤ hi ∧ hi ≤ lo ∧ hi ≤ n ∧ (∀ i, i < lo → P i = true) ∧ (∀ i, hi ≤ i → i < n → P i = false)) ?_ ?_ ⟨rfl, _, _, rfl, by lia, by lia, by lia, fun i hi => anti i _ (by lia) h3 h4, fun i hi hn => ?_⟩) ?_)
    ·rintro x c st'' _ hx ⟨rfl, lo, hi, rfl, q1, q2, q3, q4, q5⟩
     dsimp only
     split
     ·exact wpS_pure ⟨rfl, lo, hi, rfl, q1, by lia, q2, q4, q5⟩
     ·refine wpS_bind (hb (i := lo + (hi - lo) / 2) (by lia) ?_)
      cases q : P (lo + (hi - lo) / 2) with
      | true =>
        simp only [if_true]
        exact wpS_pure ⟨rfl, _, hi, rfl, by lia, q2, by lia, fun i hi' => anti i _ (by lia) (by lia) q, q5⟩
      | false =>
        simp only [Bool.false_eq_true, if_false]
        exact wpS_pure ⟨rfl, lo, _, rfl, by lia, by lia, by lia, q4, fun i h1 h2 => antiF _ i h1 h2 q⟩
    ·rintro c st'' ⟨rfl, lo, hi, rfl, q1, q2, q3, q4, q5⟩
     exact ⟨rfl, lo, hi, rfl, q1, by lia, q2, q4, q5⟩
    ·rcases h5 with g | ⟨g1, g2⟩
     ·lia
     ·exact antiF _ i (by lia) hn g2
    ·rintro c st'' ⟨rfl, lo, hi, rfl, q1, q2, q3, q4, q5⟩
     exact wpS_pure (h hi q3 (fun i hi' => q4 i (by lia)) q5)
 | false =>
   simp only [Bool.false_eq_true, if_false]
   refine wpS_bind (wpS_mono (wpS_forRange (I := fun x c st' => st' = st ∧ ∃ l o, c = (none, l, o) ∧ l < o ∧ x + 1 ≤ o ∧ l ≤ hint ∧ P (hint - l) = false)
    (Q := fun c st' => st' = st ∧ ∃ l o, c = (none, l, o) ∧ l < o ∧ l ≤ hint ∧ P (hint - l) = false ∧ (hint + 1 ≤ o ∨ (o ≤ hint ∧ P (hint - o) = true))) ?_ ?_ ⟨rfl, 0, 1, rfl, by lia, by lia, by lia, hr⟩) ?_)
   ·rintro x c st' _ hx ⟨rfl, l, o, rfl, h1, h2, h3, h4⟩
    dsimp only
    split
    ·rename_i g
     exact wpS_pure ⟨rfl, l, o, rfl, h1, h3, h4, .inl g⟩
    ·rename_i g
     refine wpS_bind (hb (i := hint - o) (by lia) ?_)
     cases q : P (hint - o) with
     | true =>
       simp only [if_true]
       exact wpS_pure ⟨rfl, l, o, rfl, h1, h3, h4, .inr ⟨by lia, q⟩⟩
     | false =>
       simp only [Bool.false_eq_true, if_false]
       exact wpS_pure ⟨rfl, o, 2 * o + 1, rfl, by lia, by lia, by lia, q⟩
   ·rintro c st' ⟨rfl, l, o, rfl, h1, h2, h3, h4⟩
    exact ⟨rfl, l, o, rfl, h1, h3, h4, .inl (by lia)⟩
   ·rintro c st' ⟨rfl, l, o, rfl, h1, h3, h4, h5⟩
    dsimp only
    refine wpS_bind (wpS_mono (wpS_forRange (I := fun x c st'' => st'' = st' ∧ ∃ lo hi, c = (none, lo, hi) ∧ lo ≤ hi ∧ hi ≤ n ∧ hi - lo ≤ n - x ∧ (∀ i, i < lo → P i = true) ∧ (∀ i, hi ≤ i → i < n → P i = false))
     (Q := fun c st'' => st'' = st' ∧ ∃ lo hi, c = (none, lo, hi) ∧ lo ≤ hi ∧ hi ≤ lo ∧ hi ≤ n ∧ (∀ i, i < lo → P i = true) ∧ (∀ i, hi ≤ i → i < n → P i = false)) ?_ ?_ ⟨rfl, _, _, rfl, by lia, by lia, by lia, fun i hi => ?_, fun i hi hn => antiF _ i hi hn h4⟩) ?_)
    ·rintro x c st'' _ hx ⟨rfl, lo, hi, rfl, q1, q2, q3, q4, q5⟩
     dsimp only
     split
     ·exact wpS_pure ⟨rfl, lo, hi, rfl, q1, by lia, q2, q4, q5⟩
     ·refine wpS_bind (hb (i := lo + (hi - lo) / 2) (by lia) ?_)
      cases q : P (lo + (hi - lo) / 2) with
      | true =>
        simp only [if_true]
        exact wpS_pure ⟨rfl, _, hi, rfl, by lia, q2, by lia, fun i hi' => anti i _ (by lia) (by lia) q, q5⟩
      | false =>
        simp only [Bool.false_eq_true, if_false]
        exact wpS_pure ⟨rfl, lo, _, rfl, by lia, by lia, by lia, q4, fun i h1 h2 => antiF _ i h1 h2 q⟩
    ·rintro c st'' ⟨rfl, lo, hi, rfl, q1, q2, q3, q4, q5⟩
     exact ⟨rfl, lo, hi, rfl, q1, by lia, q2, q4, q5⟩
    ·rcases h5 with g | ⟨g1, g2⟩
     ·lia
     ·exact anti i _ (by lia) (by lia) g2
    ·rintro c st'' ⟨rfl, lo, hi, rfl, q1, q2, q3, q4, q5⟩
     exact wpS_pure (h hi q3 (fun i hi' => q4 i (by lia)) q5)
end
end L2
namespace L2
open PySem PySem.Spec PyProof.Rows
section
variable {ρ : Keyed → Int} {a b out : Array Keyed} {ia ib k : Nat}
def Ls (ρ : Keyed → Int) (l : List Keyed) : Prop := l.Pairwise fun x y => ρ x ≤ ρ y
structure MI (ρ : Keyed → Int) (a b out : Array Keyed) (ia ib : Nat) : Prop where
 la : ia ≤ a.size
 lb : ib ≤ b.size
 pm : out.toList.Perm (a.toList.take ia ++ b.toList.take ib)
 so : Ls ρ out.toList
 le : ∀ x ∈ out.toList, ∀ y ∈ a.toList.drop ia ++ b.toList.drop ib, ρ x ≤ ρ y
def RS (ρ : Keyed → Int) (a b r : Array Keyed) : Prop := r.toList.Perm (a.toList ++ b.toList) ∧ Ls ρ r.toList
theorem ext_l (xs : Array Keyed) (i j : Nat) : (xs.extract i j).toList = (xs.toList.drop i).take (j - i) := by
 simp [List.extract_eq_take_drop]
theorem Ls.app {l m : List Keyed} (hl : Ls ρ l) (hm : Ls ρ m) (h : ∀ x ∈ l, ∀ y ∈ m, ρ x ≤ ρ y) : Ls ρ (l ++ m) := List.pairwise_append.mpr ⟨hl, hm, h⟩
theorem Ls.sub {l m : List Keyed} (hl : Ls ρ l) (h : m.Sublist l) : Ls ρ m := List.Pairwise.sublist h hl
theorem Ls.split {l : List Keyed} (hl : Ls ρ l) (i : Nat) : ∀ x ∈ l.take i, ∀ y ∈ l.drop i, ρ x ≤ ρ y := by
 have := hl
 rw [← List.take_append_drop i l] at this
 exact (List.pairwise_append.mp this).2.2
theorem perm_mid {α : Type} (A B X : List α) : (A ++ B ++ X).Perm (A ++ X ++ B) := by
 rw [List.append_assoc, List.append_assoc]
 exact List.Perm.append_left A List.perm_append_comm
theorem MI.tA (h : MI ρ a b out ia ib) (hk : ia + k ≤ a.size) (sa : Ls ρ a.toList) (hc : ∀ x ∈ (a.toList.drop ia).take k, ∀ y ∈ b.toList.drop ib, ρ x ≤ ρ y) : MI ρ a b (out ++ a.extract ia (ia + k)) (ia + k) ib := by
 have e : (out ++ a.extract ia (ia + k)).toList = out.toList ++ (a.toList.drop ia).take k := by rw [Array.toList_append, ext_l, Nat.add_sub_cancel_left]
 have e1 : a.toList.take (ia + k) = a.toList.take ia ++ (a.toList.drop ia).take k := List.take_add
 have e2 : a.toList.drop ia = (a.toList.drop ia).take k ++ a.toList.drop (ia + k) := by rw [← List.drop_drop]; exact (List.take_append_drop _ _).symm
 refine ⟨hk, h.lb, ?_, ?_, ?_⟩
 ·rw [e, e1]
  exact (h.pm.append_right _).trans (perm_mid _ _ _)
 ·rw [e]
  exact h.so.app (sa.sub ((List.take_sublist _ _).trans (List.drop_sublist _ _))) fun x hx y hy => h.le x hx y (List.mem_append_left _ (List.mem_of_mem_take hy))
 ·rw [e]
  intro x hx y hy
  rcases List.mem_append.mp hx with q | q
  ·refine h.le x q y ?_
   rw [e2]
   rcases List.mem_append.mp hy with z | z
   ·exact List.mem_append_left _ (List.mem_append_right _ z)
   ·exact List.mem_append_right _ z
  ·rcases List.mem_append.mp hy with z | z
   ·have := (sa.sub (List.drop_sublist ia _)).split k x q y
    rw [List.drop_drop] at this
    exact this z
   ·exact hc x q y z
theorem MI.tB (h : MI ρ a b out ia ib) (hk : ib + k ≤ b.size) (sb : Ls ρ b.toList) (hc : ∀ x ∈ (b.toList.drop ib).take k, ∀ y ∈ a.toList.drop ia, ρ x ≤ ρ y) : MI ρ a b (out ++ b.extract ib (ib + k)) ia (ib + k) := by
 have e : (out ++ b.extract ib (ib + k)).toList = out.toList ++ (b.toList.drop ib).take k := by rw [Array.toList_append, ext_l, Nat.add_sub_cancel_left]
 have e1 : b.toList.take (ib + k) = b.toList.take ib ++ (b.toList.drop ib).take k := List.take_add
 have e2 : b.toList.drop ib = (b.toList.drop ib).take k ++ b.toList.drop (ib + k) := by rw [← List.drop_drop]; exact (List.take_append_drop _ _).symm
 refine ⟨h.la, hk, ?_, ?_, ?_⟩
 ·rw [e, e1, ← List.append_assoc]
  exact h.pm.append_right _
 ·rw [e]
  exact h.so.app (sb.sub ((List.take_sublist _ _).trans (List.drop_sublist _ _))) fun x hx y hy => h.le x hx y (List.mem_append_right _ (List.mem_of_mem_take hy))
 ·rw [e]
  intro x hx y hy
  rcases List.mem_append.mp hx with q | q
  ·refine h.le x q y ?_
   rw [e2]
   rcases List.mem_append.mp hy with z | z
   ·exact List.mem_append_left _ z
   ·exact List.mem_append_right _ (List.mem_append_right _ z)
  ·rcases List.mem_append.mp hy with z | z
   ·exact hc x q y z
   ·have := (sb.sub (List.drop_sublist ib _)).split k x q y
    rw [List.drop_drop] at this
    exact this z
theorem push_ext {xs : Array Keyed} {i : Nat} {x : Keyed} (hx : xs[i]? = some x) : out.push x = out ++ xs.extract i (i + 1) := by
 apply Array.ext'
 obtain ⟨hi, e⟩ := Array.getElem?_eq_some_iff.mp hx
 rw [Array.toList_push, Array.toList_append, ext_l, Nat.add_sub_cancel_left, List.drop_eq_getElem_cons (by simpa using hi), List.take_succ_cons, List.take_zero]
 simp [e]
theorem one_take {xs : Array Keyed} {i : Nat} {x z : Keyed} (hx : xs[i]? = some x) (hz : z ∈ (xs.toList.drop i).take 1) : z = x := by
 obtain ⟨hi, e⟩ := Array.getElem?_eq_some_iff.mp hx
 rw [List.drop_eq_getElem_cons (by simpa using hi), List.take_succ_cons, List.take_zero] at hz
 simpa [e] using hz
theorem R_at {xs : Array Keyed} {i : Nat} {x : Keyed} (hx : xs[i]? = some x) : R ρ xs i = ρ x := by unfold R; rw [hx]; rfl
theorem Ls.rest {xs : Array Keyed} (h : Ls ρ xs.toList) {i : Nat} {x : Keyed} (hx : xs[i]? = some x) {y : Keyed} (hy : y ∈ xs.toList.drop i) : ρ x ≤ ρ y := by
 obtain ⟨hi, e⟩ := Array.getElem?_eq_some_iff.mp hx
 have hd := h.sub (List.drop_sublist i _)
 rw [List.drop_eq_getElem_cons (by simpa using hi)] at hd hy
 rcases List.mem_cons.mp hy with q | q
 ·rw [q]; simp [e]
 ·have := (List.pairwise_cons.mp hd).1 y q
  simpa [e] using this
theorem MI.pA (h : MI ρ a b out ia ib) (sa : Ls ρ a.toList) (sb : Ls ρ b.toList) {x : Keyed} (hx : a[ia]? = some x) (hc : ∀ y, b[ib]? = some y → ρ x ≤ ρ y) : MI ρ a b (out.push x) (ia + 1) ib := by
 rw [push_ext hx]
 refine h.tA (Array.getElem?_eq_some_iff.mp hx).1 sa fun z hz y hy => ?_
 rw [one_take hx hz]
 cases hb : b[ib]? with
 | none =>
   have : b.size ≤ ib := by simpa using hb
   rw [List.drop_eq_nil_of_le (by simpa using this)] at hy
   simp at hy
 | some v => exact Int.le_trans (hc v hb) (sb.rest hb hy)
theorem MI.pB (h : MI ρ a b out ia ib) (sa : Ls ρ a.toList) (sb : Ls ρ b.toList) {x : Keyed} (hx : b[ib]? = some x) (hc : ∀ y, a[ia]? = some y → ρ x ≤ ρ y) : MI ρ a b (out.push x) ia (ib + 1) := by
 rw [push_ext hx]
 refine h.tB (Array.getElem?_eq_some_iff.mp hx).1 sb fun z hz y hy => ?_
 rw [one_take hx hz]
 cases hb : a[ia]? with
 | none =>
   have : a.size ≤ ia := by simpa using hb
   rw [List.drop_eq_nil_of_le (by simpa using this)] at hy
   simp at hy
 | some v => exact Int.le_trans (hc v hb) (sa.rest hb hy)
theorem perm_four {α : Type} (A A' B B' : List α) : ((A ++ B) ++ A' ++ B').Perm ((A ++ A') ++ (B ++ B')) := by
 refine ((perm_mid A B A').append_right B').trans ?_
 rw [List.append_assoc]
theorem MI.done (h : MI ρ a b out ia ib) (sa : Ls ρ a.toList) (sb : Ls ρ b.toList) (hd : ia = a.size ∨ ib = b.size) : RS ρ a b (out ++ a.extract ia a.size ++ b.extract ib b.size) := by
 have e : (out ++ a.extract ia a.size ++ b.extract ib b.size).toList = out.toList ++ a.toList.drop ia ++ b.toList.drop ib := by
  rw [Array.toList_append, Array.toList_append, ext_l, ext_l, List.take_of_length_le (by simp), List.take_of_length_le (by simp)]
 refine ⟨?_, ?_⟩
 ·rw [e]
  refine ((h.pm.append_right _).append_right _).trans ((perm_four _ _ _ _).trans ?_)
  rw [List.take_append_drop, List.take_append_drop]
 ·rw [e, List.append_assoc]
  refine h.so.app ?_ h.le
  refine (sa.sub (List.drop_sublist _ _)).app (sb.sub (List.drop_sublist _ _)) fun x hx y hy => ?_
  rcases hd with q | q
  ·rw [q, List.drop_eq_nil_of_le (by simp)] at hx; simp at hx
  ·rw [q, List.drop_eq_nil_of_le (by simp)] at hy; simp at hy
theorem MI.lastA (h : MI ρ a b out ia ib) (sa : Ls ρ a.toList) (sb : Ls ρ b.toList) (hg : ∀ x ∈ a.toList.drop ia, ∀ y ∈ b.toList, ρ y ≤ ρ x) : RS ρ a b (out ++ b.extract ib b.size ++ a.extract ia a.size) := by
 have e : (out ++ b.extract ib b.size ++ a.extract ia a.size).toList = out.toList ++ b.toList.drop ib ++ a.toList.drop ia := by
  rw [Array.toList_append, Array.toList_append, ext_l, ext_l, List.take_of_length_le (by simp), List.take_of_length_le (by simp)]
 refine ⟨?_, ?_⟩
 ·rw [e]
  refine (perm_mid _ _ _).trans (((h.pm.append_right _).append_right _).trans ((perm_four _ _ _ _).trans ?_))
  rw [List.take_append_drop, List.take_append_drop]
 ·rw [e, List.append_assoc]
  refine h.so.app ?_ fun x hx y hy => h.le x hx y ?_
  ·exact (sb.sub (List.drop_sublist _ _)).app (sa.sub (List.drop_sublist _ _)) fun x hx y hy => hg y hy x (List.mem_of_mem_drop hx)
  ·rcases List.mem_append.mp hy with z | z
   ·exact List.mem_append_right _ z
   ·exact List.mem_append_left _ z
end
end L2
namespace L2
open PySem PySem.Spec PyProof.Rows
def mergeLo' : Array Keyed → Array Keyed → StateT SortSt Sem (Array Keyed) := sortPriv% PySem.Builtin.mergeLo
def setMinGallop' : Nat → StateT SortSt Sem Unit := sortPriv% PySem.Builtin.setMinGallop
local macro_rules | `(tactic| walk_at "mergeLo") => do
 let n := Lean.mkIdent ((Lean.Name.num `_private.PySem.Builtin.List.W1All 0) ++ `PySem.Builtin.mergeLo)
 `(tactic| (delta mergeLo'; delta $n:ident; dsimp only))
local macro_rules | `(tactic| walk_at "setMin") => do
 let n := Lean.mkIdent ((Lean.Name.num `_private.PySem.Builtin.List.W1All 0) ++ `PySem.Builtin.setMinGallop)
 `(tactic| (delta setMinGallop'; delta $n:ident))
structure GS (st st' : SortSt) : Prop where
 kd : kindOf st' = kindOf st
 ar : arrOf st' = arrOf st
 pe : pendingOf st' = pendingOf st
 fl : failedOf st' = failedOf st
theorem GS.refl (st : SortSt) : GS st st := ⟨rfl, rfl, rfl, rfl⟩
theorem GS.trans {a b c : SortSt} (h : GS a b) (h' : GS b c) : GS a c := ⟨h'.kd.trans h.kd, h'.ar.trans h.ar, h'.pe.trans h.pe, h'.fl.trans h.fl⟩
section
variable {prog : Program} {w : World} {A : Around} {E : Value → Shared → Prop} {s : Shared} {a₀ : Array Keyed} {ρ : Keyed → Int} {k0 : SortKind} {a b : Array Keyed}
theorem wpS_setMin {st : SortSt} {g : Nat} {Q : Unit → SortSt → Prop} (h : ∀ st', GS st st' → Q () st') : wpS (model prog w) A E s (setMinGallop' g) Q st := by
 walk_at "setMin"
 exact wpS_modify (h _ ⟨rfl, rfl, rfl, rfl⟩)
theorem wpS_ite {α : Type} {c : Prop} [Decidable c] {m1 m2 : StateT SortSt Sem α} {Q : α → SortSt → Prop} {st : SortSt} {M : Model} (h1 : c → wpS M A E s m1 Q st) (h2 : ¬ c → wpS M A E s m2 Q st) : wpS M A E s (if c then m1 else m2) Q st := by
 by_cases g : c
 ·rw [if_pos g]; exact h1 g
 ·rw [if_neg g]; exact h2 g
theorem mem_at {xs : Array Keyed} (h : ∀ x ∈ xs.toList, x ∈ a₀.toList) {i : Nat} (hi : i < xs.size) : ∃ x, xs[i]? = some x ∧ x ∈ a₀.toList := ⟨xs[i], Array.getElem?_eq_getElem hi, h _ (by simp)⟩
theorem at_mem {xs : Array Keyed} {i : Nat} {x : Keyed} (h : xs[i]? = some x) : x ∈ xs.toList := by
 obtain ⟨hi, rfl⟩ := Array.getElem?_eq_some_iff.mp h
 simp
theorem mem_win {xs : Array Keyed} {i k : Nat} {x : Keyed} (h : x ∈ (xs.toList.drop i).take k) : ∃ j, j < k ∧ xs[i + j]? = some x := by
 obtain ⟨j, hj, e⟩ := List.mem_iff_getElem.mp h
 rw [List.length_take, List.length_drop] at hj
 refine ⟨j, by lia, ?_⟩
 rw [List.getElem_take, List.getElem_drop] at e
 rw [Array.getElem?_eq_getElem (by simp at hj; lia)]
 simpa using e
theorem Ls.inn {xs : Array Keyed} (h : Ls ρ xs.toList) {lo hi : Nat} (hh : hi ≤ xs.size) : SortedIn ρ xs lo hi := fun i j _ hij hj => by
 have hi' : i < xs.size := by lia
 have hj' : j < xs.size := by lia
 rw [R_at (Array.getElem?_eq_getElem hi')]
 rw [R_at (Array.getElem?_eq_getElem hj')]
 refine h.rest (i := i) (Array.getElem?_eq_getElem hi') ?_
 rw [List.mem_iff_getElem]
 exact ⟨j - i, by simp; lia, by rw [List.getElem_drop]; simp; congr 1; lia⟩
theorem bey_f {key : Keyed} {v : Int} : bey ρ false key v = true ↔ v ≤ ρ key := by unfold bey; simp
theorem bey_t {key : Keyed} {v : Int} : bey ρ true key v = true ↔ v < ρ key := by unfold bey; simp
theorem bey_ff {key : Keyed} {v : Int} : bey ρ false key v = false ↔ ρ key < v := by unfold bey; simp
theorem bey_tf {key : Keyed} {v : Int} : bey ρ true key v = false ↔ ρ key ≤ v := by unfold bey; simp
theorem wpS_mergeLo (hL : LtBy prog w A s k0 ρ a₀) {st : SortSt} (hk : kindOf st = k0) {Q : Array Keyed → SortSt → Prop} (sa : Ls ρ a.toList) (sb : Ls ρ b.toList) (ma : ∀ x ∈ a.toList, x ∈ a₀.toList) (mb : ∀ x ∈ b.toList, x ∈ a₀.toList) (na : 1 ≤ a.size) (nb : 1 ≤ b.size)
 (hfirst : ∀ x y, a[0]? = some x → b[0]? = some y → ρ y ≤ ρ x) (hlast : ∀ x ∈ a.toList.drop (a.size - 1), ∀ y ∈ b.toList, ρ y ≤ ρ x) (h : ∀ r st', GS st st' → RS ρ a b r → Q r st') : wpS (model prog w) A E s (mergeLo' a b) Q st := by
 walk_at "mergeLo"
 walk_at "z31"
 obtain ⟨y0, hy0, my0⟩ := mem_at mb (i := 0) (by lia)
 refine wpS_bind (wpS_elem hy0 ?_)
 have mI : MI ρ a b #[] 0 0 := ⟨by lia, by lia, by simp, by simp [Ls], by simp⟩
 have m1 : MI ρ a b #[y0] 0 1 := mI.pB sa sb hy0 (fun x hx => hfirst x y0 hx hy0)
 refine wpS_ite (fun g => ?_) (fun _ => ?_)
 ·exact wpS_pure (h _ _ (GS.refl _) (m1.done sa sb (.inr (by simpa using g))))
 rename_i g1
 have g1' : ¬ 1 = b.size := by simpa using g1
 refine wpS_ite (fun g => ?_) (fun _ => ?_)
 ·have g' : 0 + 1 = a.size := by simpa using g
  exact wpS_pure (h _ _ (GS.refl _) (m1.lastA sa sb (fun x hx => hlast x (by rw [show a.size - 1 = 0 by lia]; exact hx))))
 rename_i g2
 have g2' : ¬ 0 + 1 = a.size := by simpa using g2
 refine wpS_bind (wpS_get ?_)
 refine wpS_bind (wpS_mono (wpS_forRange (I := fun x c st' => GS st st' ∧ ∃ out ia ib g, c = (none, out, ia, ib, g) ∧ MI ρ a b out ia ib ∧ ia + 1 < a.size ∧ ib < b.size ∧ x + 1 ≤ ia + ib)
  (Q := fun c st' => GS st st' ∧ ∃ r rest, c = (some r, rest) ∧ RS ρ a b r) ?step ?fin ⟨GS.refl _, _, _, _, _, rfl, m1, by lia, by lia, by lia⟩) ?post)
 case fin =>
  rintro c st' ⟨gs, out, ia, ib, g, rfl, m, q1, q2, q3⟩
  lia
 case post =>
  rintro c st' ⟨gs, r, rest, rfl, hr⟩
  exact wpS_pure (h _ _ gs hr)
 case step =>
  rintro x c st' _ hx ⟨gs, out, ia, ib, g, rfl, m, lA, lB, hp⟩
  dsimp only
  refine wpS_bind (wpS_mono (wpS_forRange (I := fun y c st'' => st'' = st' ∧ ∃ out' ia' ib' ac bc, c = (none, out', ia', ib', ac, bc) ∧ MI ρ a b out' ia' ib' ∧ ia' + 1 < a.size ∧ ib' < b.size ∧ y + (ia + ib) ≤ ia' + ib')
   (Q := fun c st'' => st'' = st' ∧ ((∃ r rest, c = (some r, rest) ∧ RS ρ a b r) ∨ ∃ out' ia' ib' ac bc, c = (none, out', ia', ib', ac, bc) ∧ MI ρ a b out' ia' ib' ∧ ia' + 1 < a.size ∧ ib' < b.size ∧ ia + ib + 1 ≤ ia' + ib')) ?step1 ?fin1 ⟨rfl, _, _, _, _, _, rfl, m, lA, lB, by lia⟩) ?post1)
  case fin1 =>
   rintro c st'' ⟨rfl, out', ia', ib', ac, bc, rfl, m', q1, q2, q3⟩
   lia
  case step1 =>
   rintro y c st'' _ hy ⟨rfl, out', ia', ib', ac, bc, rfl, m', lA', lB', hp'⟩
   dsimp only
   have hk' : kindOf st'' = k0 := gs.kd.trans hk
   obtain ⟨yb, hyb, myb⟩ := mem_at mb (i := ib') (by lia)
   obtain ⟨xa, hxa, mxa⟩ := mem_at ma (i := ia') (by lia)
   refine wpS_bind (wpS_elem hyb ?_)
   refine wpS_bind (wpS_elem hxa ?_)
   refine wpS_bind (hL hk' myb mxa ?_)
   by_cases hlt : ρ yb < ρ xa
   ·simp only [hlt, decide_true, if_true]
    refine wpS_bind (wpS_elem hyb ?_)
    have mB := m'.pB sa sb hyb (fun x hx => by rw [hxa] at hx; cases hx; lia)
    refine wpS_ite (fun c0 => ?_) (fun _ => ?_)
    ·exact wpS_pure ⟨rfl, .inl ⟨_, _, rfl, mB.done sa sb (.inr (by simpa using c0))⟩⟩
    rename_i c0
    have c0' : ¬ ib' + 1 = b.size := by simpa using c0
    walk_at "z2"
    ·exact wpS_pure ⟨rfl, .inr ⟨_, _, _, _, _, rfl, mB, lA', by lia, by lia⟩⟩
    ·exact wpS_pure ⟨rfl, _, _, _, _, _, rfl, mB, lA', by lia, by lia⟩
   ·simp only [hlt, decide_false, Bool.false_eq_true, if_false]
    refine wpS_bind (wpS_elem hxa ?_)
    have mA := m'.pA sa sb hxa (fun x hx => by rw [hyb] at hx; cases hx; lia)
    refine wpS_ite (fun c0 => ?_) (fun _ => ?_)
    ·have c0' : ia' + 1 + 1 = a.size := by simpa using c0
     exact wpS_pure ⟨rfl, .inl ⟨_, _, rfl, mA.lastA sa sb (fun x hx => hlast x (by rw [show a.size - 1 = ia' + 1 by lia]; exact hx))⟩⟩
    rename_i c0
    have c0' : ¬ ia' + 1 + 1 = a.size := by simpa using c0
    walk_at "z2"
    ·exact wpS_pure ⟨rfl, .inr ⟨_, _, _, _, _, rfl, mA, by lia, lB', by lia⟩⟩
    ·exact wpS_pure ⟨rfl, _, _, _, _, _, rfl, mA, by lia, lB', by lia⟩
  case post1 =>
   rintro c st'' ⟨rfl, ⟨r, rest, rfl, hr⟩ | ⟨out', ia', ib', ac, bc, rfl, m', lA', lB', hp'⟩⟩
   ·dsimp only
    exact wpS_pure ⟨gs, r, _, rfl, hr⟩
   dsimp only
   walk_at "z31"
   refine wpS_bind (wpS_mono (wpS_forRange (I := fun z c st3 => GS st st3 ∧ ∃ out ia ib g ac bc, c = (none, out, ia, ib, g, ac, bc) ∧ MI ρ a b out ia ib ∧ ia + 1 < a.size ∧ ib < b.size ∧ z + (ia' + ib') ≤ ia + ib)
    (Q := fun c st3 => GS st st3 ∧ ((∃ r rest, c = (some r, rest) ∧ RS ρ a b r) ∨ ∃ out ia ib g ac bc, c = (none, out, ia, ib, g, ac, bc) ∧ MI ρ a b out ia ib ∧ ia + 1 < a.size ∧ ib < b.size ∧ ia' + ib' ≤ ia + ib)) ?step2 ?fin2 ⟨gs, _, _, _, _, _, _, rfl, m', lA', lB', by lia⟩) ?post2)
   case fin2 =>
    rintro c st3 ⟨gs, out, ia, ib, g, ac, bc, rfl, m, q1, q2, q3⟩
    lia
   case post2 =>
    rintro c st3 ⟨gs, ⟨r, rest, rfl, hr⟩ | ⟨out, ia, ib, g, ac, bc, rfl, m, lA, lB, hp⟩⟩
    ·dsimp only
     exact wpS_pure ⟨gs, r, _, rfl, hr⟩
    ·dsimp only
     refine wpS_bind (wpS_setMin fun st4 gs4 => ?_)
     exact wpS_pure ⟨gs.trans gs4, _, _, _, _, rfl, m, lA, lB, by lia⟩
   case step2 =>
    clear m lA lB hp m' lA' lB'
    rintro z c st' _ hz ⟨gs, out, ia, ib, g, ac, bc, rfl, m, lA, lB, hp⟩
    dsimp only
    walk_at "z2"
    ·refine wpS_bind (wpS_setMin fun st3 gs3 => ?_)
     have gs2 := gs.trans gs3
     have hk2 : kindOf st3 = k0 := gs2.kd.trans hk
     obtain ⟨y, hy, my⟩ := mem_at mb (i := ib) (by lia)
     refine wpS_bind (wpS_elem hy ?_)
     refine wpS_bind (wpS_gallop hL hk2 my (fun i hi => mem_at ma (by lia)) (sa.inn (by lia)) (by lia) fun k i1 i2 i3 => ?_)
     dsimp only
     have mA := m.tA (k := k) (by lia) sa (fun z hz y' hy' => by
      walk_at "z24"
      have := bey_f.mp (i2 j hj)
      rw [R_at e] at this
      have := sb.rest hy hy'
      lia)
     have hgt : ∀ x, a[ia + k]? = some x → ρ y ≤ ρ x := fun x hx => by
      have hl := (Array.getElem?_eq_some_iff.mp hx).1
      have := bey_ff.mp (i3 k (Nat.le_refl _) (by lia))
      rw [R_at hx] at this
      lia
     refine wpS_ite (fun kp => ?_) (fun _ => ?_)
     ·refine wpS_ite (fun c3 => ?_) (fun _ => ?_)
      ·have c3' : ia + k + 1 = a.size := by simpa using c3
       exact wpS_pure ⟨gs2, .inl ⟨_, _, rfl, mA.lastA sa sb (fun x hx => hlast x (by rw [show a.size - 1 = ia + k by lia]; exact hx))⟩⟩
      rename_i c3
      have c3' : ¬ ia + k + 1 = a.size := by simpa using c3
      refine wpS_ite (fun c4 => ?_) (fun _ => ?_)
      ·exact wpS_pure ⟨gs2, .inl ⟨_, _, rfl, mA.done sa sb (.inl (by simpa using c4))⟩⟩
      rename_i c4
      have c4' : ¬ ia + k = a.size := by simpa using c4
      have hia : ia + k + 1 < a.size := by have := mA.la; lia
      obtain ⟨y1, hy1, my1⟩ := mem_at mb (i := ib) (by lia)
      refine wpS_bind (wpS_elem hy1 ?_)
      rw [hy] at hy1
      cases hy1
      have mB := mA.pB sa sb hy hgt
      refine wpS_ite (fun c0 => ?_) (fun _ => ?_)
      ·walk_at "z38"
      rename_i c0
      have c0' : ¬ ib + 1 = b.size := by simpa using c0
      obtain ⟨x1, hx1, mx1⟩ := mem_at ma (i := (ia + k)) (by lia)
      refine wpS_bind (wpS_elem hx1 ?_)
      walk_at "z10"
      dsimp only
      have mB2 := mB.tB (k := k') (by lia) sb (fun z hz y' hy' => by
       walk_at "z24"
       have := bey_t.mp (j2 j hj)
       rw [R_at e] at this
       have := sa.rest hx1 hy'
       lia)
      refine wpS_ite (fun k0' => ?_) (fun _ => ?_)
      ·refine wpS_ite (fun c2 => ?_) (fun _ => ?_)
       ·walk_at "z35"
       rename_i c2
       have c2' : ¬ ib + 1 + k' = b.size := by simpa using c2
       have lib2 : ib + 1 + k' < b.size := by have := mB2.lb; lia
       obtain ⟨x2, hx2, mx2⟩ := mem_at ma (i := (ia + k)) (by lia)
       walk_at "z7"
       rw [hx1] at hx2
       cases hx2
       walk_at "z13"
       walk_at "z30"
       ·have c1' : (ia + k) + 1 + 1 = a.size := by simpa using c1
        walk_at "z6"
       rename_i c1
       have c1' : ¬ (ia + k) + 1 + 1 = a.size := by simpa using c1
       have lia := mC.la
       walk_at "z2"
       ·walk_at "z0"
       ·walk_at "z1"
      ·rename_i k0'
       have k0'' : k' = 0 := by lia
       subst k0''
       have lib2 : ib + 1 < b.size := by lia
       obtain ⟨x2, hx2, mx2⟩ := mem_at ma (i := (ia + k)) (by lia)
       walk_at "z7"
       rw [hx1] at hx2
       cases hx2
       walk_at "z15"
       walk_at "z30"
       ·have c1' : (ia + k) + 1 + 1 = a.size := by simpa using c1
        walk_at "z6"
       rename_i c1
       have c1' : ¬ (ia + k) + 1 + 1 = a.size := by simpa using c1
       have lia := mC.la
       walk_at "z2"
       ·walk_at "z0"
       ·walk_at "z1"
     ·rename_i kp
      have kp' : k = 0 := by lia
      subst kp'
      have hia : ia + 1 < a.size := lA
      obtain ⟨y1, hy1, my1⟩ := mem_at mb (i := ib) (by lia)
      refine wpS_bind (wpS_elem hy1 ?_)
      rw [hy] at hy1
      cases hy1
      have mB := m.pB sa sb hy hgt
      refine wpS_ite (fun c0 => ?_) (fun _ => ?_)
      ·walk_at "z38"
      rename_i c0
      have c0' : ¬ ib + 1 = b.size := by simpa using c0
      obtain ⟨x1, hx1, mx1⟩ := mem_at ma (i := ia) (by lia)
      refine wpS_bind (wpS_elem hx1 ?_)
      walk_at "z10"
      dsimp only
      have mB2 := mB.tB (k := k') (by lia) sb (fun z hz y' hy' => by
       walk_at "z24"
       have := bey_t.mp (j2 j hj)
       rw [R_at e] at this
       have := sa.rest hx1 hy'
       lia)
      refine wpS_ite (fun k0' => ?_) (fun _ => ?_)
      ·refine wpS_ite (fun c2 => ?_) (fun _ => ?_)
       ·walk_at "z35"
       rename_i c2
       have c2' : ¬ ib + 1 + k' = b.size := by simpa using c2
       have lib2 : ib + 1 + k' < b.size := by have := mB2.lb; lia
       obtain ⟨x2, hx2, mx2⟩ := mem_at ma (i := ia) (by lia)
       walk_at "z7"
       rw [hx1] at hx2
       cases hx2
       walk_at "z13"
       walk_at "z30"
       ·have c1' : ia + 1 + 1 = a.size := by simpa using c1
        walk_at "z8"
       rename_i c1
       have c1' : ¬ ia + 1 + 1 = a.size := by simpa using c1
       have lia := mC.la
       walk_at "z2"
       ·walk_at "z0"
       ·walk_at "z1"
      ·rename_i k0'
       have k0'' : k' = 0 := by lia
       subst k0''
       have lib2 : ib + 1 < b.size := by lia
       obtain ⟨x2, hx2, mx2⟩ := mem_at ma (i := ia) (by lia)
       walk_at "z7"
       rw [hx1] at hx2
       cases hx2
       walk_at "z15"
       walk_at "z30"
       ·have c1' : ia + 1 + 1 = a.size := by simpa using c1
        walk_at "z8"
       rename_i c1
       have c1' : ¬ ia + 1 + 1 = a.size := by simpa using c1
       have lia := mC.la
       walk_at "z2"
       ·walk_at "z0"
       ·walk_at "z1"
    ·refine wpS_bind (wpS_setMin fun st3 gs3 => ?_)
     have gs2 := gs.trans gs3
     have hk2 : kindOf st3 = k0 := gs2.kd.trans hk
     obtain ⟨y, hy, my⟩ := mem_at mb (i := ib) (by lia)
     refine wpS_bind (wpS_elem hy ?_)
     refine wpS_bind (wpS_gallop hL hk2 my (fun i hi => mem_at ma (by lia)) (sa.inn (by lia)) (by lia) fun k i1 i2 i3 => ?_)
     dsimp only
     have mA := m.tA (k := k) (by lia) sa (fun z hz y' hy' => by
      walk_at "z24"
      have := bey_f.mp (i2 j hj)
      rw [R_at e] at this
      have := sb.rest hy hy'
      lia)
     have hgt : ∀ x, a[ia + k]? = some x → ρ y ≤ ρ x := fun x hx => by
      have hl := (Array.getElem?_eq_some_iff.mp hx).1
      have := bey_ff.mp (i3 k (Nat.le_refl _) (by lia))
      rw [R_at hx] at this
      lia
     refine wpS_ite (fun kp => ?_) (fun _ => ?_)
     ·refine wpS_ite (fun c3 => ?_) (fun _ => ?_)
      ·have c3' : ia + k + 1 = a.size := by simpa using c3
       exact wpS_pure ⟨gs2, .inl ⟨_, _, rfl, mA.lastA sa sb (fun x hx => hlast x (by rw [show a.size - 1 = ia + k by lia]; exact hx))⟩⟩
      rename_i c3
      have c3' : ¬ ia + k + 1 = a.size := by simpa using c3
      refine wpS_ite (fun c4 => ?_) (fun _ => ?_)
      ·exact wpS_pure ⟨gs2, .inl ⟨_, _, rfl, mA.done sa sb (.inl (by simpa using c4))⟩⟩
      rename_i c4
      have c4' : ¬ ia + k = a.size := by simpa using c4
      have hia : ia + k + 1 < a.size := by have := mA.la; lia
      obtain ⟨y1, hy1, my1⟩ := mem_at mb (i := ib) (by lia)
      refine wpS_bind (wpS_elem hy1 ?_)
      rw [hy] at hy1
      cases hy1
      have mB := mA.pB sa sb hy hgt
      refine wpS_ite (fun c0 => ?_) (fun _ => ?_)
      ·walk_at "z38"
      rename_i c0
      have c0' : ¬ ib + 1 = b.size := by simpa using c0
      obtain ⟨x1, hx1, mx1⟩ := mem_at ma (i := (ia + k)) (by lia)
      refine wpS_bind (wpS_elem hx1 ?_)
      walk_at "z10"
      dsimp only
      have mB2 := mB.tB (k := k') (by lia) sb (fun z hz y' hy' => by
       walk_at "z24"
       have := bey_t.mp (j2 j hj)
       rw [R_at e] at this
       have := sa.rest hx1 hy'
       lia)
      refine wpS_ite (fun k0' => ?_) (fun _ => ?_)
      ·refine wpS_ite (fun c2 => ?_) (fun _ => ?_)
       ·walk_at "z35"
       rename_i c2
       have c2' : ¬ ib + 1 + k' = b.size := by simpa using c2
       have lib2 : ib + 1 + k' < b.size := by have := mB2.lb; lia
       obtain ⟨x2, hx2, mx2⟩ := mem_at ma (i := (ia + k)) (by lia)
       walk_at "z7"
       rw [hx1] at hx2
       cases hx2
       walk_at "z13"
       walk_at "z30"
       ·have c1' : (ia + k) + 1 + 1 = a.size := by simpa using c1
        walk_at "z6"
       rename_i c1
       have c1' : ¬ (ia + k) + 1 + 1 = a.size := by simpa using c1
       have lia := mC.la
       walk_at "z2"
       ·walk_at "z0"
       ·walk_at "z1"
      ·rename_i k0'
       have k0'' : k' = 0 := by lia
       subst k0''
       have lib2 : ib + 1 < b.size := by lia
       obtain ⟨x2, hx2, mx2⟩ := mem_at ma (i := (ia + k)) (by lia)
       walk_at "z7"
       rw [hx1] at hx2
       cases hx2
       walk_at "z15"
       walk_at "z30"
       ·have c1' : (ia + k) + 1 + 1 = a.size := by simpa using c1
        walk_at "z6"
       rename_i c1
       have c1' : ¬ (ia + k) + 1 + 1 = a.size := by simpa using c1
       have lia := mC.la
       walk_at "z2"
       ·walk_at "z0"
       ·walk_at "z1"
     ·rename_i kp
      have kp' : k = 0 := by lia
      subst kp'
      have hia : ia + 1 < a.size := lA
      obtain ⟨y1, hy1, my1⟩ := mem_at mb (i := ib) (by lia)
      refine wpS_bind (wpS_elem hy1 ?_)
      rw [hy] at hy1
      cases hy1
      have mB := m.pB sa sb hy hgt
      refine wpS_ite (fun c0 => ?_) (fun _ => ?_)
      ·walk_at "z38"
      rename_i c0
      have c0' : ¬ ib + 1 = b.size := by simpa using c0
      obtain ⟨x1, hx1, mx1⟩ := mem_at ma (i := ia) (by lia)
      refine wpS_bind (wpS_elem hx1 ?_)
      walk_at "z10"
      dsimp only
      have mB2 := mB.tB (k := k') (by lia) sb (fun z hz y' hy' => by
       walk_at "z24"
       have := bey_t.mp (j2 j hj)
       rw [R_at e] at this
       have := sa.rest hx1 hy'
       lia)
      refine wpS_ite (fun k0' => ?_) (fun _ => ?_)
      ·refine wpS_ite (fun c2 => ?_) (fun _ => ?_)
       ·walk_at "z35"
       rename_i c2
       have c2' : ¬ ib + 1 + k' = b.size := by simpa using c2
       have lib2 : ib + 1 + k' < b.size := by have := mB2.lb; lia
       obtain ⟨x2, hx2, mx2⟩ := mem_at ma (i := ia) (by lia)
       walk_at "z7"
       rw [hx1] at hx2
       cases hx2
       walk_at "z13"
       walk_at "z30"
       ·have c1' : ia + 1 + 1 = a.size := by simpa using c1
        walk_at "z8"
       rename_i c1
       have c1' : ¬ ia + 1 + 1 = a.size := by simpa using c1
       have lia := mC.la
       walk_at "z2"
       ·walk_at "z0"
       ·walk_at "z1"
      ·rename_i k0'
       have k0'' : k' = 0 := by lia
       subst k0''
       have lib2 : ib + 1 < b.size := by lia
       obtain ⟨x2, hx2, mx2⟩ := mem_at ma (i := ia) (by lia)
       walk_at "z7"
       rw [hx1] at hx2
       cases hx2
       walk_at "z15"
       walk_at "z30"
       ·have c1' : ia + 1 + 1 = a.size := by simpa using c1
        walk_at "z8"
       rename_i c1
       have c1' : ¬ ia + 1 + 1 = a.size := by simpa using c1
       have lia := mC.la
       walk_at "z2"
       ·walk_at "z0"
       ·walk_at "z1"
end
end L2
namespace L2
open PySem PySem.Spec PyProof.Rows
section
variable {ρ : Keyed → Int} {a b out : Array Keyed} {na nb k : Nat}
structure MH (ρ : Keyed → Int) (a b out : Array Keyed) (na nb : Nat) : Prop where
 la : na ≤ a.size
 lb : nb ≤ b.size
 pm : out.toList.Perm (a.toList.drop na ++ b.toList.drop nb)
 so : Ls ρ out.toList.reverse
 le : ∀ y ∈ out.toList, ∀ x ∈ a.toList.take na ++ b.toList.take nb, ρ x ≤ ρ y
theorem win_drop (l : List Keyed) {i j : Nat} (h : i ≤ j) : l.drop i = (l.drop i).take (j - i) ++ l.drop j := by
 have := (List.take_append_drop (j - i) (l.drop i)).symm
 rw [List.drop_drop, show i + (j - i) = j by lia] at this
 exact this
theorem win_take (l : List Keyed) {i j : Nat} (h : i ≤ j) : l.take j = l.take i ++ (l.drop i).take (j - i) := by
 rw [← List.take_add, show i + (j - i) = j by lia]
theorem MH.tA (h : MH ρ a b out na nb) (hk : k ≤ na) (sa : Ls ρ a.toList) (hc : ∀ x ∈ (a.toList.drop k).take (na - k), ∀ y ∈ b.toList.take nb, ρ y ≤ ρ x) : MH ρ a b (out ++ (a.extract k na).reverse) k nb := by
 have e : (out ++ (a.extract k na).reverse).toList = out.toList ++ ((a.toList.drop k).take (na - k)).reverse := by rw [Array.toList_append, Array.toList_reverse, ext_l]
 have e1 := win_take a.toList hk
 have e2 := win_drop a.toList hk
 refine ⟨Nat.le_trans hk h.la, h.lb, ?_, ?_, ?_⟩
 ·rw [e]
  refine (h.pm.append (List.reverse_perm _)).trans ?_
  conv => rhs; rw [e2]
  rw [List.append_assoc (List.take (na - k) (List.drop k a.toList))]
  exact List.perm_append_comm
 ·rw [e, List.reverse_append, List.reverse_reverse]
  refine (sa.sub ((List.take_sublist _ _).trans (List.drop_sublist _ _))).app h.so fun x hx y hy => h.le y (by simpa using hy) x (List.mem_append_left _ ?_)
  rw [e1]; exact List.mem_append_right _ hx
 ·rw [e]
  intro y hy x hx
  rcases List.mem_append.mp hy with q | q
  ·refine h.le y q x ?_
   rw [e1]
   rcases List.mem_append.mp hx with z | z
   ·exact List.mem_append_left _ (List.mem_append_left _ z)
   ·exact List.mem_append_right _ z
  ·rw [List.mem_reverse] at q
   rcases List.mem_append.mp hx with z | z
   ·exact sa.split k x z y (List.mem_of_mem_take q)
   ·exact hc y q x z
theorem MH.tB (h : MH ρ a b out na nb) (hk : k ≤ nb) (sb : Ls ρ b.toList) (hc : ∀ x ∈ (b.toList.drop k).take (nb - k), ∀ y ∈ a.toList.take na, ρ y ≤ ρ x) : MH ρ a b (out ++ (b.extract k nb).reverse) na k := by
 have e : (out ++ (b.extract k nb).reverse).toList = out.toList ++ ((b.toList.drop k).take (nb - k)).reverse := by rw [Array.toList_append, Array.toList_reverse, ext_l]
 have e1 := win_take b.toList hk
 have e2 := win_drop b.toList hk
 refine ⟨h.la, Nat.le_trans hk h.lb, ?_, ?_, ?_⟩
 ·rw [e]
  refine (h.pm.append (List.reverse_perm _)).trans ?_
  conv => rhs; rw [e2]
  rw [List.append_assoc]
  exact List.Perm.append_left _ List.perm_append_comm
 ·rw [e, List.reverse_append, List.reverse_reverse]
  refine (sb.sub ((List.take_sublist _ _).trans (List.drop_sublist _ _))).app h.so fun x hx y hy => h.le y (by simpa using hy) x (List.mem_append_right _ ?_)
  rw [e1]; exact List.mem_append_right _ hx
 ·rw [e]
  intro y hy x hx
  rcases List.mem_append.mp hy with q | q
  ·refine h.le y q x ?_
   rw [e1]
   rcases List.mem_append.mp hx with z | z
   ·exact List.mem_append_left _ z
   ·exact List.mem_append_right _ (List.mem_append_left _ z)
  ·rw [List.mem_reverse] at q
   rcases List.mem_append.mp hx with z | z
   ·exact hc y q x z
   ·exact sb.split k x z y (List.mem_of_mem_take q)
theorem push_rev {xs : Array Keyed} {i : Nat} {x : Keyed} (hx : xs[i]? = some x) : out.push x = out ++ (xs.extract i (i + 1)).reverse := by
 apply Array.ext'
 obtain ⟨hi, e⟩ := Array.getElem?_eq_some_iff.mp hx
 rw [Array.toList_push, Array.toList_append, Array.toList_reverse, ext_l, Nat.add_sub_cancel_left, List.drop_eq_getElem_cons (by simpa using hi), List.take_succ_cons, List.take_zero]
 simp [e]
theorem Ls.upto {xs : Array Keyed} (h : Ls ρ xs.toList) {i : Nat} {x : Keyed} (hx : xs[i]? = some x) {y : Keyed} (hy : y ∈ xs.toList.take (i + 1)) : ρ y ≤ ρ x := by
 obtain ⟨hi, e⟩ := Array.getElem?_eq_some_iff.mp hx
 rw [List.take_add_one, List.getElem?_eq_getElem (by simpa using hi)] at hy
 rcases List.mem_append.mp hy with q | q
 ·refine h.split i y q x ?_
  rw [List.drop_eq_getElem_cons (by simpa using hi)]
  simp [e]
 ·have : y = x := by simpa [e] using q
  rw [this]; exact Int.le_refl _
theorem MH.pA (h : MH ρ a b out (na + 1) nb) (sa : Ls ρ a.toList) (sb : Ls ρ b.toList) {x : Keyed} (hx : a[na]? = some x) (hc : ∀ j y, nb = j + 1 → b[j]? = some y → ρ y ≤ ρ x) : MH ρ a b (out.push x) na nb := by
 rw [push_rev hx]
 refine h.tA (Nat.le_succ _) sa fun z hz y hy => ?_
 rw [Nat.add_sub_cancel_left] at hz
 rw [one_take hx hz]
 cases nb with
 | zero => simp at hy
 | succ j =>
   have hj : j < b.size := by have := h.lb; lia
   exact Int.le_trans (sb.upto (Array.getElem?_eq_getElem hj) hy) (hc j _ rfl (Array.getElem?_eq_getElem hj))
theorem MH.pB (h : MH ρ a b out na (nb + 1)) (sa : Ls ρ a.toList) (sb : Ls ρ b.toList) {x : Keyed} (hx : b[nb]? = some x) (hc : ∀ j y, na = j + 1 → a[j]? = some y → ρ y ≤ ρ x) : MH ρ a b (out.push x) na nb := by
 rw [push_rev hx]
 refine h.tB (Nat.le_succ _) sb fun z hz y hy => ?_
 rw [Nat.add_sub_cancel_left] at hz
 rw [one_take hx hz]
 cases na with
 | zero => simp at hy
 | succ j =>
   have hj : j < a.size := by have := h.la; lia
   exact Int.le_trans (sa.upto (Array.getElem?_eq_getElem hj) hy) (hc j _ rfl (Array.getElem?_eq_getElem hj))
theorem MH.done (h : MH ρ a b out na nb) (sa : Ls ρ a.toList) (sb : Ls ρ b.toList) (hd : na = 0 ∨ nb = 0) : RS ρ a b (a.extract 0 na ++ b.extract 0 nb ++ out.reverse) := by
 have e : (a.extract 0 na ++ b.extract 0 nb ++ out.reverse).toList = a.toList.take na ++ b.toList.take nb ++ out.toList.reverse := by
  rw [Array.toList_append, Array.toList_append, ext_l, ext_l, Array.toList_reverse, List.drop_zero, List.drop_zero, Nat.sub_zero, Nat.sub_zero]
 refine ⟨?_, ?_⟩
 ·rw [e]
  refine (List.Perm.append_left _ ((List.reverse_perm _).trans h.pm)).trans ?_
  rw [← List.append_assoc]
  refine (perm_four _ _ _ _).trans ?_
  rw [List.take_append_drop, List.take_append_drop]
 ·rw [e]
  refine Ls.app ?_ h.so fun x hx y hy => h.le y (by simpa using hy) x hx
  refine (sa.sub (List.take_sublist _ _)).app (sb.sub (List.take_sublist _ _)) fun x hx y hy => ?_
  rcases hd with q | q
  ·subst q; simp at hx
  ·subst q; simp at hy
theorem MH.firstB (h : MH ρ a b out na nb) (sa : Ls ρ a.toList) (sb : Ls ρ b.toList) (hg : ∀ x ∈ b.toList.take nb, ∀ y ∈ a.toList, ρ x ≤ ρ y) : RS ρ a b (b.extract 0 nb ++ a.extract 0 na ++ out.reverse) := by
 have e : (b.extract 0 nb ++ a.extract 0 na ++ out.reverse).toList = b.toList.take nb ++ a.toList.take na ++ out.toList.reverse := by
  rw [Array.toList_append, Array.toList_append, ext_l, ext_l, Array.toList_reverse, List.drop_zero, List.drop_zero, Nat.sub_zero, Nat.sub_zero]
 refine ⟨?_, ?_⟩
 ·rw [e]
  refine (List.Perm.append List.perm_append_comm ((List.reverse_perm _).trans h.pm)).trans ?_
  rw [← List.append_assoc]
  refine (perm_four _ _ _ _).trans ?_
  rw [List.take_append_drop, List.take_append_drop]
 ·rw [e]
  refine Ls.app ?_ h.so fun x hx y hy => h.le y (by simpa using hy) x ?_
  ·exact (sb.sub (List.take_sublist _ _)).app (sa.sub (List.take_sublist _ _)) fun x hx y hy => hg x hx y (List.mem_of_mem_take hy)
  ·rcases List.mem_append.mp hx with z | z
   ·exact List.mem_append_right _ z
   ·exact List.mem_append_left _ z
end
end L2
namespace L2
open PySem PySem.Spec PyProof.Rows
def mergeHi' : Array Keyed → Array Keyed → StateT SortSt Sem (Array Keyed) := sortPriv% PySem.Builtin.mergeHi
local macro_rules | `(tactic| walk_at "mergeHi") => do
 let n := Lean.mkIdent ((Lean.Name.num `_private.PySem.Builtin.List.W1All 0) ++ `PySem.Builtin.mergeHi)
 `(tactic| (delta mergeHi'; delta $n:ident; dsimp only))
section
variable {prog : Program} {w : World} {A : Around} {E : Value → Shared → Prop} {s : Shared} {a₀ : Array Keyed} {ρ : Keyed → Int} {k0 : SortKind} {a b : Array Keyed}
theorem MH.pA' {out : Array Keyed} {na nb : Nat} (h : MH ρ a b out na nb) (h1 : 1 ≤ na) (sa : Ls ρ a.toList) (sb : Ls ρ b.toList) {x : Keyed} (hx : a[na - 1]? = some x) (hc : ∀ y, 1 ≤ nb → b[nb - 1]? = some y → ρ y ≤ ρ x) : MH ρ a b (out.push x) (na - 1) nb := by
 obtain ⟨m, rfl⟩ : ∃ m, na = m + 1 := ⟨na - 1, by lia⟩
 exact MH.pA h sa sb hx fun j y e hy => hc y (by lia) (by rw [e]; exact hy)
theorem MH.pB' {out : Array Keyed} {na nb : Nat} (h : MH ρ a b out na nb) (h1 : 1 ≤ nb) (sa : Ls ρ a.toList) (sb : Ls ρ b.toList) {x : Keyed} (hx : b[nb - 1]? = some x) (hc : ∀ y, 1 ≤ na → a[na - 1]? = some y → ρ y ≤ ρ x) : MH ρ a b (out.push x) na (nb - 1) := by
 obtain ⟨m, rfl⟩ : ∃ m, nb = m + 1 := ⟨nb - 1, by lia⟩
 exact MH.pB h sa sb hx fun j y e hy => hc y (by lia) (by rw [e]; exact hy)
theorem Ls.upto' {xs : Array Keyed} (h : Ls ρ xs.toList) {n : Nat} (h1 : 1 ≤ n) {x : Keyed} (hx : xs[n - 1]? = some x) {y : Keyed} (hy : y ∈ xs.toList.take n) : ρ y ≤ ρ x := by
 obtain ⟨m, rfl⟩ : ∃ m, n = m + 1 := ⟨n - 1, by lia⟩
 exact h.upto hx hy
theorem wpS_mergeHi (hL : LtBy prog w A s k0 ρ a₀) {st : SortSt} (hk : kindOf st = k0) {Q : Array Keyed → SortSt → Prop} (sa : Ls ρ a.toList) (sb : Ls ρ b.toList) (ma : ∀ x ∈ a.toList, x ∈ a₀.toList) (mb : ∀ x ∈ b.toList, x ∈ a₀.toList) (na : 1 ≤ a.size) (nb : 1 ≤ b.size)
 (hfirst : ∀ x ∈ b.toList.take 1, ∀ y ∈ a.toList, ρ x ≤ ρ y) (hlast : ∀ x, a[a.size - 1]? = some x → ∀ y ∈ b.toList, ρ y ≤ ρ x) (h : ∀ r st', GS st st' → RS ρ a b r → Q r st') : wpS (model prog w) A E s (mergeHi' a b) Q st := by
 walk_at "mergeHi"
 walk_at "z31"
 obtain ⟨x0, hx0, mx0⟩ := mem_at ma (i := a.size - 1) (by lia)
 refine wpS_bind (wpS_elem hx0 ?_)
 have mI : MH ρ a b #[] a.size b.size := ⟨by lia, by lia, by simp, by simp [Ls], by simp⟩
 have m1 : MH ρ a b #[x0] (a.size - 1) b.size := mI.pA' na sa sb hx0 (fun y _ hy => hlast x0 hx0 y (at_mem hy))
 refine wpS_ite (fun g => ?_) (fun g1 => ?_)
 ·exact wpS_pure (h _ _ (GS.refl _) (m1.done sa sb (.inl (by simpa using g))))
 have g1' : ¬ a.size - 1 = 0 := by simpa using g1
 refine wpS_ite (fun g => ?_) (fun g2 => ?_)
 ·have g' : b.size = 1 := by simpa using g
  exact wpS_pure (h _ _ (GS.refl _) (m1.firstB sa sb (by rw [g']; exact hfirst)))
 have g2' : ¬ b.size = 1 := by simpa using g2
 refine wpS_bind (wpS_get ?_)
 refine wpS_bind (wpS_mono (wpS_forRange (I := fun x c st' => GS st st' ∧ ∃ na nb out g, c = (none, na, nb, out, g) ∧ MH ρ a b out na nb ∧ 1 ≤ na ∧ 2 ≤ nb ∧ x + 1 + (na + nb) ≤ a.size + b.size)
  (Q := fun c st' => GS st st' ∧ ∃ r rest, c = (some r, rest) ∧ RS ρ a b r) ?step ?fin ⟨GS.refl _, _, _, _, _, rfl, m1, by lia, by lia, by lia⟩) ?post)
 case fin =>
  rintro c st' ⟨gs, na, nb, out, g, rfl, m, q1, q2, q3⟩
  lia
 case post =>
  rintro c st' ⟨gs, r, rest, rfl, hr⟩
  exact wpS_pure (h _ _ gs hr)
 case step =>
  rintro x c st' _ hx ⟨gs, na, nb, out, g, rfl, m, lA, lB, hp⟩
  dsimp only
  refine wpS_bind (wpS_mono (wpS_forRange (I := fun y c st'' => st'' = st' ∧ ∃ na' nb' out' ac bc, c = (none, na', nb', out', ac, bc) ∧ MH ρ a b out' na' nb' ∧ 1 ≤ na' ∧ 2 ≤ nb' ∧ y + (na' + nb') ≤ na + nb)
   (Q := fun c st'' => st'' = st' ∧ ((∃ r rest, c = (some r, rest) ∧ RS ρ a b r) ∨ ∃ na' nb' out' ac bc, c = (none, na', nb', out', ac, bc) ∧ MH ρ a b out' na' nb' ∧ 1 ≤ na' ∧ 2 ≤ nb' ∧ na' + nb' + 1 ≤ na + nb)) ?step1 ?fin1 ⟨rfl, _, _, _, _, _, rfl, m, lA, lB, by lia⟩) ?post1)
  case fin1 =>
   rintro c st'' ⟨rfl, na', nb', out', ac, bc, rfl, m', q1, q2, q3⟩
   lia
  case step1 =>
   rintro y c st'' _ hy ⟨rfl, na', nb', out', ac, bc, rfl, m', lA', lB', hp'⟩
   dsimp only
   have hk' : kindOf st'' = k0 := gs.kd.trans hk
   have qa := m'.la
   have qb := m'.lb
   obtain ⟨yb, hyb, myb⟩ := mem_at mb (i := nb' - 1) (by lia)
   obtain ⟨xa, hxa, mxa⟩ := mem_at ma (i := na' - 1) (by lia)
   refine wpS_bind (wpS_elem hyb ?_)
   refine wpS_bind (wpS_elem hxa ?_)
   refine wpS_bind (hL hk' myb mxa ?_)
   by_cases hlt : ρ yb < ρ xa
   ·simp only [hlt, decide_true, if_true]
    refine wpS_bind (wpS_elem hxa ?_)
    have mA := m'.pA' lA' sa sb hxa (fun x _ hx => by rw [hyb] at hx; cases hx; lia)
    refine wpS_ite (fun c0 => ?_) (fun c0 => ?_)
    ·exact wpS_pure ⟨rfl, .inl ⟨_, _, rfl, mA.done sa sb (.inl (by simpa using c0))⟩⟩
    have c0' : ¬ na' - 1 = 0 := by simpa using c0
    walk_at "z2"
    ·exact wpS_pure ⟨rfl, .inr ⟨_, _, _, _, _, rfl, mA, by lia, lB', by lia⟩⟩
    ·exact wpS_pure ⟨rfl, _, _, _, _, _, rfl, mA, by lia, lB', by lia⟩
   ·simp only [hlt, decide_false, Bool.false_eq_true, if_false]
    refine wpS_bind (wpS_elem hyb ?_)
    have mB := m'.pB' (by lia) sa sb hyb (fun x _ hx => by rw [hxa] at hx; cases hx; lia)
    refine wpS_ite (fun c0 => ?_) (fun c0 => ?_)
    ·have c0' : nb' - 1 = 1 := by simpa using c0
     exact wpS_pure ⟨rfl, .inl ⟨_, _, rfl, mB.firstB sa sb (by rw [c0']; exact hfirst)⟩⟩
    have c0' : ¬ nb' - 1 = 1 := by simpa using c0
    walk_at "z2"
    ·exact wpS_pure ⟨rfl, .inr ⟨_, _, _, _, _, rfl, mB, lA', by lia, by lia⟩⟩
    ·exact wpS_pure ⟨rfl, _, _, _, _, _, rfl, mB, lA', by lia, by lia⟩
  case post1 =>
   rintro c st'' ⟨rfl, ⟨r, rest, rfl, hr⟩ | ⟨na', nb', out', ac, bc, rfl, m', lA', lB', hp'⟩⟩
   ·dsimp only
    exact wpS_pure ⟨gs, r, _, rfl, hr⟩
   dsimp only
   walk_at "z31"
   refine wpS_bind (wpS_mono (wpS_forRange (I := fun z c st3 => GS st st3 ∧ ∃ na nb out g ac bc, c = (none, na, nb, out, g, ac, bc) ∧ MH ρ a b out na nb ∧ 1 ≤ na ∧ 2 ≤ nb ∧ z + (na + nb) ≤ na' + nb')
    (Q := fun c st3 => GS st st3 ∧ ((∃ r rest, c = (some r, rest) ∧ RS ρ a b r) ∨ ∃ na nb out g ac bc, c = (none, na, nb, out, g, ac, bc) ∧ MH ρ a b out na nb ∧ 1 ≤ na ∧ 2 ≤ nb ∧ na + nb ≤ na' + nb')) ?step2 ?fin2 ⟨gs, _, _, _, _, _, _, rfl, m', lA', lB', by lia⟩) ?post2)
   case fin2 =>
    have qa := m'.la
    have qb := m'.lb
    rintro c st3 ⟨gs, na, nb, out, g, ac, bc, rfl, m, q1, q2, q3⟩
    lia
   case post2 =>
    rintro c st3 ⟨gs, ⟨r, rest, rfl, hr⟩ | ⟨na, nb, out, g, ac, bc, rfl, m, lA, lB, hp⟩⟩
    ·dsimp only
     exact wpS_pure ⟨gs, r, _, rfl, hr⟩
    ·dsimp only
     refine wpS_bind (wpS_setMin fun st4 gs4 => ?_)
     exact wpS_pure ⟨gs.trans gs4, _, _, _, _, rfl, m, lA, lB, by lia⟩
   case step2 =>
    clear m lA lB hp m' lA' lB'
    rintro z c st' _ hz ⟨gs, na, nb, out, g, ac, bc, rfl, m, lA, lB, hp⟩
    dsimp only
    walk_at "z2"
    ·refine wpS_bind (wpS_setMin fun st3 gs3 => ?_)
     have gs2 := gs.trans gs3
     have hk2 : kindOf st3 = k0 := gs2.kd.trans hk
     have qa := m.la
     have qb := m.lb
     obtain ⟨y, hy, my⟩ := mem_at mb (i := nb - 1) (by lia)
     refine wpS_bind (wpS_elem hy ?_)
     refine wpS_bind (wpS_gallop (base := 0) hL hk2 my (fun i hi => by rw [Nat.zero_add]; exact mem_at ma (by lia)) (sa.inn (by lia)) (by lia) fun k i1 i2 i3 => ?_)
     simp only [Nat.zero_add] at i2 i3
     dsimp only
     have mA := m.tA (k := k) i1 sa (fun z hz y' hy' => by
      walk_at "z24"
      have := bey_ff.mp (i3 (k + j) (by lia) (by lia))
      rw [R_at e] at this
      have := sb.upto' (by lia) hy hy'
      lia)
     refine wpS_ite (fun kp => ?_) (fun kp => ?_)
     ·refine wpS_ite (fun c3 => ?_) (fun c3 => ?_)
      ·exact wpS_pure ⟨gs2, .inl ⟨_, _, rfl, mA.done sa sb (.inl (by simpa using c3))⟩⟩
      have c3' : ¬ k = 0 := by simpa using c3
      have hna : 1 ≤ k := by lia
      have hgt : ∀ x, a[k - 1]? = some x → ρ x ≤ ρ y := fun x hx => by
       have := bey_f.mp (i2 (k - 1) (by lia))
       rw [R_at hx] at this
       exact this
      obtain ⟨y1, hy1, my1⟩ := mem_at mb (i := nb - 1) (by lia)
      refine wpS_bind (wpS_elem hy1 ?_)
      rw [hy] at hy1
      cases hy1
      have mB := mA.pB' (by lia) sa sb hy (fun x _ hx => hgt x hx)
      refine wpS_ite (fun c0 => ?_) (fun c0 => ?_)
      ·have c0' : nb - 1 = 1 := by simpa using c0
       walk_at "z34"
      have c0' : ¬ nb - 1 = 1 := by simpa using c0
      obtain ⟨x1, hx1, mx1⟩ := mem_at ma (i := k - 1) (by lia)
      refine wpS_bind (wpS_elem hx1 ?_)
      walk_at "z4"
      simp only [Nat.zero_add] at j2 j3
      dsimp only
      have mB2 := mB.tB (k := k') (by lia) sb (fun z hz y' hy' => by
       walk_at "z24"
       have := bey_tf.mp (j3 (k' + j) (by lia) (by lia))
       rw [R_at e] at this
       have := sa.upto' hna hx1 hy'
       lia)
      refine wpS_ite (fun k0' => ?_) (fun k0' => ?_)
      ·refine wpS_ite (fun c2 => ?_) (fun c2 => ?_)
       ·have c2' : k' = 1 := by simpa using c2
        walk_at "z32"
       have c2' : ¬ k' = 1 := by simpa using c2
       refine wpS_ite (fun c5 => ?_) (fun c5 => ?_)
       ·walk_at "z36"
       have c5' : ¬ k' = 0 := by simpa using c5
       have lib2 : 2 ≤ k' := by lia
       have hlt2 : ∀ y', b[k' - 1]? = some y' → ρ y' ≤ ρ x1 := fun y' hy' => by
        have := bey_t.mp (j2 (k' - 1) (by lia))
        rw [R_at hy'] at this
        lia
       obtain ⟨x2, hx2, mx2⟩ := mem_at ma (i := k - 1) (by lia)
       walk_at "z7"
       rw [hx1] at hx2
       cases hx2
       have mC := mB2.pA' hna sa sb hx1 (fun y' h1' hy' => hlt2 y' hy')
       walk_at "z26"
       ·walk_at "z5"
       have c1' : ¬ k - 1 = 0 := by simpa using c1
       walk_at "z2"
       ·walk_at "z0"
       ·walk_at "z1"
      ·have k0'' : k' = nb - 1 := by lia
       have lib2 : 2 ≤ nb - 1 := by lia
       have hlt2 : ∀ y', b[nb - 1 - 1]? = some y' → ρ y' ≤ ρ x1 := fun y' hy' => by
        have := bey_t.mp (j2 (nb - 1 - 1) (by lia))
        rw [R_at hy'] at this
        lia
       obtain ⟨x2, hx2, mx2⟩ := mem_at ma (i := k - 1) (by lia)
       walk_at "z7"
       rw [hx1] at hx2
       cases hx2
       have mC := mB.pA' hna sa sb hx1 (fun y' h1' hy' => hlt2 y' hy')
       walk_at "z26"
       ·walk_at "z5"
       have c1' : ¬ k - 1 = 0 := by simpa using c1
       walk_at "z2"
       ·walk_at "z0"
       ·walk_at "z1"
     ·have kp' : k = na := by lia
      have hna : 1 ≤ na := lA
      have hgt : ∀ x, a[na - 1]? = some x → ρ x ≤ ρ y := fun x hx => by
       have := bey_f.mp (i2 (na - 1) (by lia))
       rw [R_at hx] at this
       exact this
      obtain ⟨y1, hy1, my1⟩ := mem_at mb (i := nb - 1) (by lia)
      refine wpS_bind (wpS_elem hy1 ?_)
      rw [hy] at hy1
      cases hy1
      have mB := m.pB' (by lia) sa sb hy (fun x _ hx => hgt x hx)
      refine wpS_ite (fun c0 => ?_) (fun c0 => ?_)
      ·have c0' : nb - 1 = 1 := by simpa using c0
       walk_at "z34"
      have c0' : ¬ nb - 1 = 1 := by simpa using c0
      obtain ⟨x1, hx1, mx1⟩ := mem_at ma (i := na - 1) (by lia)
      refine wpS_bind (wpS_elem hx1 ?_)
      walk_at "z4"
      simp only [Nat.zero_add] at j2 j3
      dsimp only
      have mB2 := mB.tB (k := k') (by lia) sb (fun z hz y' hy' => by
       walk_at "z24"
       have := bey_tf.mp (j3 (k' + j) (by lia) (by lia))
       rw [R_at e] at this
       have := sa.upto' hna hx1 hy'
       lia)
      refine wpS_ite (fun k0' => ?_) (fun k0' => ?_)
      ·refine wpS_ite (fun c2 => ?_) (fun c2 => ?_)
       ·have c2' : k' = 1 := by simpa using c2
        walk_at "z32"
       have c2' : ¬ k' = 1 := by simpa using c2
       refine wpS_ite (fun c5 => ?_) (fun c5 => ?_)
       ·walk_at "z36"
       have c5' : ¬ k' = 0 := by simpa using c5
       have lib2 : 2 ≤ k' := by lia
       have hlt2 : ∀ y', b[k' - 1]? = some y' → ρ y' ≤ ρ x1 := fun y' hy' => by
        have := bey_t.mp (j2 (k' - 1) (by lia))
        rw [R_at hy'] at this
        lia
       obtain ⟨x2, hx2, mx2⟩ := mem_at ma (i := na - 1) (by lia)
       walk_at "z7"
       rw [hx1] at hx2
       cases hx2
       have mC := mB2.pA' hna sa sb hx1 (fun y' h1' hy' => hlt2 y' hy')
       walk_at "z26"
       ·walk_at "z5"
       have c1' : ¬ na - 1 = 0 := by simpa using c1
       walk_at "z2"
       ·walk_at "z0"
       ·walk_at "z1"
      ·have k0'' : k' = nb - 1 := by lia
       have lib2 : 2 ≤ nb - 1 := by lia
       have hlt2 : ∀ y', b[nb - 1 - 1]? = some y' → ρ y' ≤ ρ x1 := fun y' hy' => by
        have := bey_t.mp (j2 (nb - 1 - 1) (by lia))
        rw [R_at hy'] at this
        lia
       obtain ⟨x2, hx2, mx2⟩ := mem_at ma (i := na - 1) (by lia)
       walk_at "z7"
       rw [hx1] at hx2
       cases hx2
       have mC := mB.pA' hna sa sb hx1 (fun y' h1' hy' => hlt2 y' hy')
       walk_at "z26"
       ·walk_at "z5"
       have c1' : ¬ na - 1 = 0 := by simpa using c1
       walk_at "z2"
       ·walk_at "z0"
       ·walk_at "z1"
    ·refine wpS_bind (wpS_setMin fun st3 gs3 => ?_)
     have gs2 := gs.trans gs3
     have hk2 : kindOf st3 = k0 := gs2.kd.trans hk
     have qa := m.la
     have qb := m.lb
     obtain ⟨y, hy, my⟩ := mem_at mb (i := nb - 1) (by lia)
     refine wpS_bind (wpS_elem hy ?_)
     refine wpS_bind (wpS_gallop (base := 0) hL hk2 my (fun i hi => by rw [Nat.zero_add]; exact mem_at ma (by lia)) (sa.inn (by lia)) (by lia) fun k i1 i2 i3 => ?_)
     simp only [Nat.zero_add] at i2 i3
     dsimp only
     have mA := m.tA (k := k) i1 sa (fun z hz y' hy' => by
      walk_at "z24"
      have := bey_ff.mp (i3 (k + j) (by lia) (by lia))
      rw [R_at e] at this
      have := sb.upto' (by lia) hy hy'
      lia)
     refine wpS_ite (fun kp => ?_) (fun kp => ?_)
     ·refine wpS_ite (fun c3 => ?_) (fun c3 => ?_)
      ·exact wpS_pure ⟨gs2, .inl ⟨_, _, rfl, mA.done sa sb (.inl (by simpa using c3))⟩⟩
      have c3' : ¬ k = 0 := by simpa using c3
      have hna : 1 ≤ k := by lia
      have hgt : ∀ x, a[k - 1]? = some x → ρ x ≤ ρ y := fun x hx => by
       have := bey_f.mp (i2 (k - 1) (by lia))
       rw [R_at hx] at this
       exact this
      obtain ⟨y1, hy1, my1⟩ := mem_at mb (i := nb - 1) (by lia)
      refine wpS_bind (wpS_elem hy1 ?_)
      rw [hy] at hy1
      cases hy1
      have mB := mA.pB' (by lia) sa sb hy (fun x _ hx => hgt x hx)
      refine wpS_ite (fun c0 => ?_) (fun c0 => ?_)
      ·have c0' : nb - 1 = 1 := by simpa using c0
       walk_at "z34"
      have c0' : ¬ nb - 1 = 1 := by simpa using c0
      obtain ⟨x1, hx1, mx1⟩ := mem_at ma (i := k - 1) (by lia)
      refine wpS_bind (wpS_elem hx1 ?_)
      walk_at "z4"
      simp only [Nat.zero_add] at j2 j3
      dsimp only
      have mB2 := mB.tB (k := k') (by lia) sb (fun z hz y' hy' => by
       walk_at "z24"
       have := bey_tf.mp (j3 (k' + j) (by lia) (by lia))
       rw [R_at e] at this
       have := sa.upto' hna hx1 hy'
       lia)
      refine wpS_ite (fun k0' => ?_) (fun k0' => ?_)
      ·refine wpS_ite (fun c2 => ?_) (fun c2 => ?_)
       ·have c2' : k' = 1 := by simpa using c2
        walk_at "z32"
       have c2' : ¬ k' = 1 := by simpa using c2
       refine wpS_ite (fun c5 => ?_) (fun c5 => ?_)
       ·walk_at "z36"
       have c5' : ¬ k' = 0 := by simpa using c5
       have lib2 : 2 ≤ k' := by lia
       have hlt2 : ∀ y', b[k' - 1]? = some y' → ρ y' ≤ ρ x1 := fun y' hy' => by
        have := bey_t.mp (j2 (k' - 1) (by lia))
        rw [R_at hy'] at this
        lia
       obtain ⟨x2, hx2, mx2⟩ := mem_at ma (i := k - 1) (by lia)
       walk_at "z7"
       rw [hx1] at hx2
       cases hx2
       have mC := mB2.pA' hna sa sb hx1 (fun y' h1' hy' => hlt2 y' hy')
       walk_at "z26"
       ·walk_at "z5"
       have c1' : ¬ k - 1 = 0 := by simpa using c1
       walk_at "z2"
       ·walk_at "z0"
       ·walk_at "z1"
      ·have k0'' : k' = nb - 1 := by lia
       have lib2 : 2 ≤ nb - 1 := by lia
       have hlt2 : ∀ y', b[nb - 1 - 1]? = some y' → ρ y' ≤ ρ x1 := fun y' hy' => by
        have := bey_t.mp (j2 (nb - 1 - 1) (by lia))
        rw [R_at hy'] at this
        lia
       obtain ⟨x2, hx2, mx2⟩ := mem_at ma (i := k - 1) (by lia)
       walk_at "z7"
       rw [hx1] at hx2
       cases hx2
       have mC := mB.pA' hna sa sb hx1 (fun y' h1' hy' => hlt2 y' hy')
       walk_at "z26"
       ·walk_at "z5"
       have c1' : ¬ k - 1 = 0 := by simpa using c1
       walk_at "z2"
       ·walk_at "z0"
       ·walk_at "z1"
     ·have kp' : k = na := by lia
      have hna : 1 ≤ na := lA
      have hgt : ∀ x, a[na - 1]? = some x → ρ x ≤ ρ y := fun x hx => by
       have := bey_f.mp (i2 (na - 1) (by lia))
       rw [R_at hx] at this
       exact this
      obtain ⟨y1, hy1, my1⟩ := mem_at mb (i := nb - 1) (by lia)
      refine wpS_bind (wpS_elem hy1 ?_)
      rw [hy] at hy1
      cases hy1
      have mB := m.pB' (by lia) sa sb hy (fun x _ hx => hgt x hx)
      refine wpS_ite (fun c0 => ?_) (fun c0 => ?_)
      ·have c0' : nb - 1 = 1 := by simpa using c0
       walk_at "z34"
      have c0' : ¬ nb - 1 = 1 := by simpa using c0
      obtain ⟨x1, hx1, mx1⟩ := mem_at ma (i := na - 1) (by lia)
      refine wpS_bind (wpS_elem hx1 ?_)
      walk_at "z4"
      simp only [Nat.zero_add] at j2 j3
      dsimp only
      have mB2 := mB.tB (k := k') (by lia) sb (fun z hz y' hy' => by
       walk_at "z24"
       have := bey_tf.mp (j3 (k' + j) (by lia) (by lia))
       rw [R_at e] at this
       have := sa.upto' hna hx1 hy'
       lia)
      refine wpS_ite (fun k0' => ?_) (fun k0' => ?_)
      ·refine wpS_ite (fun c2 => ?_) (fun c2 => ?_)
       ·have c2' : k' = 1 := by simpa using c2
        walk_at "z32"
       have c2' : ¬ k' = 1 := by simpa using c2
       refine wpS_ite (fun c5 => ?_) (fun c5 => ?_)
       ·walk_at "z36"
       have c5' : ¬ k' = 0 := by simpa using c5
       have lib2 : 2 ≤ k' := by lia
       have hlt2 : ∀ y', b[k' - 1]? = some y' → ρ y' ≤ ρ x1 := fun y' hy' => by
        have := bey_t.mp (j2 (k' - 1) (by lia))
        rw [R_at hy'] at this
        lia
       obtain ⟨x2, hx2, mx2⟩ := mem_at ma (i := na - 1) (by lia)
       walk_at "z7"
       rw [hx1] at hx2
       cases hx2
       have mC := mB2.pA' hna sa sb hx1 (fun y' h1' hy' => hlt2 y' hy')
       walk_at "z26"
       ·walk_at "z5"
       have c1' : ¬ na - 1 = 0 := by simpa using c1
       walk_at "z2"
       ·walk_at "z0"
       ·walk_at "z1"
      ·have k0'' : k' = nb - 1 := by lia
       have lib2 : 2 ≤ nb - 1 := by lia
       have hlt2 : ∀ y', b[nb - 1 - 1]? = some y' → ρ y' ≤ ρ x1 := fun y' hy' => by
        have := bey_t.mp (j2 (nb - 1 - 1) (by lia))
        rw [R_at hy'] at this
        lia
       obtain ⟨x2, hx2, mx2⟩ := mem_at ma (i := na - 1) (by lia)
       walk_at "z7"
       rw [hx1] at hx2
       cases hx2
       have mC := mB.pA' hna sa sb hx1 (fun y' h1' hy' => hlt2 y' hy')
       walk_at "z26"
       ·walk_at "z5"
       have c1' : ¬ na - 1 = 0 := by simpa using c1
       walk_at "z2"
       ·walk_at "z0"
       ·walk_at "z1"
end
end L2
namespace L2
open PySem PySem.Spec PyProof.Rows
section
variable {prog : Program} {w : World} {A : Around} {E : Value → Shared → Prop} {s : Shared} {a₀ : Array Keyed} {ρ : Keyed → Int} {k0 : SortKind}
structure SB (a₀ : Array Keyed) (k0 : SortKind) (st : SortSt) : Prop where
 pm : (arrOf st).Perm a₀
 kd : kindOf st = k0
 fl : failedOf st = none
theorem SB.size {st : SortSt} (h : SB a₀ k0 st) : (arrOf st).size = a₀.size := h.pm.size_eq
structure Ch (lo hi : Nat) (st st' : SortSt) : Prop where
 kd : kindOf st' = kindOf st
 pe : pendingOf st' = pendingOf st
 fl : failedOf st' = failedOf st
 pm : (arrOf st').Perm (arrOf st)
 ke : ∀ j, j < lo ∨ hi ≤ j → (arrOf st')[j]? = (arrOf st)[j]?
theorem Ch.refl (lo hi : Nat) (st : SortSt) : Ch lo hi st st := ⟨rfl, rfl, rfl, Array.Perm.refl _, fun _ _ => rfl⟩
theorem Ch.trans {lo hi : Nat} {a b c : SortSt} (h : Ch lo hi a b) (h' : Ch lo hi b c) : Ch lo hi a c := ⟨h'.kd.trans h.kd, h'.pe.trans h.pe, h'.fl.trans h.fl, h'.pm.trans h.pm, fun j hj => (h'.ke j hj).trans (h.ke j hj)⟩
theorem Ch.sb {lo hi : Nat} {st st' : SortSt} (h : Ch lo hi st st') (b : SB a₀ k0 st) : SB a₀ k0 st' := ⟨h.pm.trans b.pm, h.kd.trans b.kd, h.fl.trans b.fl⟩
theorem SB.at_ {st : SortSt} (h : SB a₀ k0 st) {i : Nat} (hi : i < a₀.size) : ∃ x, (arrOf st)[i]? = some x ∧ x ∈ a₀.toList := by
 have hi' : i < (arrOf st).size := by rw [h.size]; exact hi
 exact ⟨(arrOf st)[i], Array.getElem?_eq_getElem hi', (Array.perm_iff_toList_perm.mp h.pm).mem_iff.mp (by simp)⟩
theorem wpS_ltR (hL : LtBy prog w A s k0 ρ a₀) {st : SortSt} {i j : Nat} {Q : Option Bool → SortSt → Prop} (hB : SB a₀ k0 st) (hi : i < a₀.size) (hj : j < a₀.size) (h : Q (some (decide (R ρ (arrOf st) i < R ρ (arrOf st) j))) st) : wpS (model prog w) A E s (ltAt' i j) Q st := by
 obtain ⟨x, hx, mx⟩ := hB.at_ hi
 obtain ⟨y, hy, my⟩ := hB.at_ hj
 rw [R_at hx, R_at hy] at h
 rw [ltAt'_eq]
 refine wpS_bind (wpS_get ?_)
 exact wpS_bind (wpS_elem hx (wpS_bind (wpS_elem hy (hL hB.kd mx my h))))
theorem R_mirror {xs : Array Keyed} {i j : Nat} (hj : j ≤ xs.size) (k : Nat) : R ρ (mirror xs i j ((j - i) / 2)) k = if i ≤ k ∧ k < j then R ρ xs (i + j - 1 - k) else R ρ xs k := by
 unfold R
 rw [getElem?_mirror_all hj]
 split <;> rfl
theorem ch_mirror {st : SortSt} {lo hi i j : Nat} (h1 : lo ≤ i) (h2 : j ≤ hi) (hj : j ≤ (arrOf st).size) : Ch lo hi st (setArr st (mirror (arrOf st) i j ((j - i) / 2))) :=
 ⟨rfl, rfl, rfl, mirror_perm _ _ _ _, fun k hk => by
  show (mirror (arrOf st) i j ((j - i) / 2))[k]? = _
  rw [getElem?_mirror_all hj, if_neg (by lia)]⟩
def NonIn (ρ : Keyed → Int) (xs : Array Keyed) (lo hi : Nat) : Prop := ∀ i j, lo ≤ i → i ≤ j → j < hi → R ρ xs j ≤ R ρ xs i
theorem wpS_countR (hL : LtBy prog w A s k0 ρ a₀) {st : SortSt} {lo nrem : Nat} {Q : Option Nat → SortSt → Prop} (hn : lo + nrem ≤ a₀.size) (h1 : 1 ≤ nrem) (hB : SB a₀ k0 st)
 (h : ∀ m st', Ch lo (lo + nrem) st st' → 1 ≤ m → m ≤ nrem → SortedIn ρ (arrOf st') lo (lo + m) → Q (some m) st') : wpS (model prog w) A E s (countRun' lo nrem) Q st := by
 have hs1 : SortedIn ρ (arrOf st) lo (lo + 1) := fun i j h1 h2 h3 => by rw [show j = i by lia]; exact Int.le_refl _
 rw [countRun'_eq]
 dsimp only
 refine wpS_bind (wpS_mono (wpS_forRange (I := fun x c st' => st = st' ∧ c = (none, x) ∧ SortedIn ρ (arrOf st) lo (lo + x))
  (Q := fun c st' => st = st' ∧ ∃ mm, c = (none, mm) ∧ 1 ≤ mm ∧ mm ≤ nrem ∧ SortedIn ρ (arrOf st) lo (lo + mm) ∧ (mm = nrem ∨ R ρ (arrOf st) (lo + mm) < R ρ (arrOf st) (lo + mm - 1))) ?_ ?_ ⟨rfl, rfl, hs1⟩) ?_)
 ·rintro x c st' hax hxn ⟨rfl, rfl, hs'⟩
  dsimp only
  walk_at "z29"
  by_cases hless : R ρ (arrOf st) (lo + x) < R ρ (arrOf st) (lo + x - 1)
  ·simp only [hless, decide_true, if_true]
   walk_at "z41"
  ·walk_at "z14"
   refine wpS_pure ⟨rfl, rfl, fun i j h1 h2 h3 => ?_⟩
   by_cases hj : j < lo + x
   ·exact hs' i j h1 h2 hj
   ·have hj' : j = lo + x := by lia
    subst hj'
    by_cases hi : i = lo + x
    ·subst hi; exact Int.le_refl _
    ·walk_at "z19"
 ·rintro c st' ⟨rfl, rfl, hs'⟩
  rw [show max 1 nrem = nrem by lia] at hs' ⊢
  walk_at "z39"
 ·rintro c _ ⟨rfl, n, rfl, hn1, hn2, hs1, hend⟩
  dsimp only
  refine wpS_ite (fun g => ?_) (fun g => ?_)
  ·exact wpS_pure (h n _ (Ch.refl _ _ _) hn1 hn2 hs1)
  have g' : ¬ n = nrem := by simpa using g
  have hlt : R ρ (arrOf st) (lo + n) < R ρ (arrOf st) (lo + n - 1) := hend.resolve_left g'
  refine wpS_ite (fun g2 => ?_) (fun g2 => ?_)
  ·refine wpS_bind (wpS_ltR hL hB (by lia) (by lia) ?_)
   by_cases hrose : R ρ (arrOf st) lo < R ρ (arrOf st) (lo + n - 1)
   ·simp only [hrose, decide_true, if_true]
    exact wpS_pure (h n _ (Ch.refl _ _ _) hn1 hn2 hs1)
   ·simp only [hrose, decide_false, Bool.false_eq_true, if_false]
    have hall : ∀ k, lo ≤ k → k < lo + n → R ρ (arrOf st) k = R ρ (arrOf st) lo := fun k h1 h2 => by
     have := hs1 lo k (Nat.le_refl _) h1 h2
     have := hs1 k (lo + n - 1) h1 (by lia) (by lia)
     lia
    refine wpS_bind (wpS_reverse ?_)
    have hsz : lo + n ≤ (arrOf st).size := by rw [hB.size]; lia
    have hch0 := ch_mirror (st := st) (lo := lo) (hi := lo + nrem) (i := lo) (j := lo + n) (Nat.le_refl _) (by lia) hsz
    have hB0 := hch0.sb hB
    have hR : ∀ k, R ρ (mirror (arrOf st) lo (lo + n) ((lo + n - lo) / 2)) k = R ρ (arrOf st) k := fun k => by
     rw [R_mirror hsz]
     split
     ·rw [hall _ (by lia) (by lia), hall k (by lia) (by lia)]
     ·rfl
    have hN0 : NonIn ρ (arrOf (setArr st (mirror (arrOf st) lo (lo + n) ((lo + n - lo) / 2)))) lo (lo + (n + 1)) := fun i j h1 h2 h3 => by
     show R ρ (mirror (arrOf st) _ _ _) j ≤ R ρ (mirror (arrOf st) _ _ _) i
     rw [hR, hR]
     have e1 := hall (lo + n - 1) (by lia) (by lia)
     by_cases hi : i < lo + n
     ·rw [hall i h1 hi]
      by_cases hj : j < lo + n
      ·rw [hall j (by lia) hj]; exact Int.le_refl _
      ·rw [show j = lo + n by lia]; lia
     ·rw [show j = i by lia]; exact Int.le_refl _
    generalize setArr st (mirror (arrOf st) lo (lo + n) ((lo + n - lo) / 2)) = st0 at hch0 hB0 hN0 ⊢
    walk_at "z31"
    refine wpS_bind (wpS_mono (wpS_forRange (I := fun x c st' => ∃ q, c = (none, x, q) ∧ Ch lo (lo + nrem) st st' ∧ SB a₀ k0 st' ∧ NonIn ρ (arrOf st') lo (lo + x) ∧ q + 1 ≤ x ∧ ∀ i, lo + x - (q + 1) ≤ i → i < lo + x → R ρ (arrOf st') i = R ρ (arrOf st') (lo + x - 1))
     (Q := fun c st' => ∃ m q, c = (none, m, q) ∧ m ≤ nrem ∧ n + 1 ≤ m ∧ Ch lo (lo + nrem) st st' ∧ SB a₀ k0 st' ∧ NonIn ρ (arrOf st') lo (lo + m) ∧ q + 1 ≤ m ∧ ∀ i, lo + m - (q + 1) ≤ i → i < lo + m → R ρ (arrOf st') i = R ρ (arrOf st') (lo + m - 1)) ?_ ?_ ⟨0, rfl, hch0, hB0, hN0, by lia, fun i h1 h2 => by congr 1; lia⟩) ?_)
    ·rintro x c st' hax hxn ⟨q, rfl, hch, hB', hN', hq, heq⟩
     dsimp only
     refine wpS_bind (wpS_ltR hL hB' (by lia) (by lia) ?_)
     by_cases hless : R ρ (arrOf st') (lo + x) < R ρ (arrOf st') (lo + x - 1)
     ·simp only [hless, decide_true, if_true]
      refine wpS_ite (fun hq0 => ?_) (fun hq0 => ?_)
      ·refine wpS_bind (wpS_reverse ?_)
       have hsz : lo + x ≤ (arrOf st').size := by rw [hB'.size]; lia
       have hch' := ch_mirror (st := st') (lo := lo) (hi := lo + nrem) (i := lo + x - (q + 1)) (j := lo + x) (by lia) (by lia) hsz
       have hR : ∀ k, R ρ (mirror (arrOf st') (lo + x - (q + 1)) (lo + x) ((lo + x - (lo + x - (q + 1))) / 2)) k = R ρ (arrOf st') k := fun k => by
        rw [R_mirror hsz]
        split
        ·rw [heq _ (by lia) (by lia), heq k (by lia) (by lia)]
        ·rfl
       refine wpS_pure ⟨0, rfl, hch.trans hch', hch'.sb hB', fun i j h1 h2 h3 => ?_, by lia, fun i h1 h2 => by congr 1; lia⟩
       show R ρ (mirror (arrOf st') _ _ _) j ≤ R ρ (mirror (arrOf st') _ _ _) i
       rw [hR, hR]
       by_cases hj : j < lo + x
       ·exact hN' i j h1 h2 hj
       ·have : j = lo + x := by lia
        subst this
        by_cases hi : i = lo + x
        ·subst hi; exact Int.le_refl _
        ·walk_at "z27"
      ·refine wpS_pure ⟨0, rfl, hch, hB', fun i j h1 h2 h3 => ?_, by lia, fun i h1 h2 => by congr 1; lia⟩
       by_cases hj : j < lo + x
       ·exact hN' i j h1 h2 hj
       ·have : j = lo + x := by lia
        subst this
        by_cases hi : i = lo + x
        ·subst hi; exact Int.le_refl _
        ·walk_at "z27"
     ·walk_at "z14"
      refine wpS_bind (wpS_ltR hL hB' (by lia) (by lia) ?_)
      by_cases hgr : R ρ (arrOf st') (lo + x - 1) < R ρ (arrOf st') (lo + x)
      ·simp only [hgr, decide_true, if_true]
       exact wpS_pure ⟨x, q, rfl, by lia, by lia, hch, hB', hN', hq, heq⟩
      ·simp only [hgr, decide_false, Bool.false_eq_true, if_false]
       have hee : R ρ (arrOf st') (lo + x) = R ρ (arrOf st') (lo + x - 1) := by lia
       refine wpS_pure ⟨q + 1, rfl, hch, hB', fun i j h1 h2 h3 => ?_, by lia, fun i h1 h2 => ?_⟩
       ·by_cases hj : j < lo + x
        ·exact hN' i j h1 h2 hj
        ·have : j = lo + x := by lia
         subst this
         by_cases hi : i = lo + x
         ·subst hi; exact Int.le_refl _
         ·walk_at "z27"
       ·rw [show lo + (x + 1) - 1 = lo + x by lia, hee]
        by_cases hi : i = lo + x
        ·subst hi; exact hee
        ·exact heq i (by lia) (by lia)
    ·rintro c st' ⟨q, rfl, hch, hB', hN', hq, heq⟩
     rw [show max (n + 1) nrem = nrem by lia] at hN' hq heq ⊢
     exact ⟨nrem, q, rfl, Nat.le_refl _, by lia, hch, hB', hN', hq, heq⟩
    ·rintro c st2 ⟨m, q, rfl, hm1, hm2, hch, hB', hN', hq, heq⟩
     dsimp only
     refine wpS_ite (fun hq0 => ?_) (fun hq0 => ?_)
     ·refine wpS_bind (wpS_reverse ?_)
      have hsz : lo + m ≤ (arrOf st2).size := by rw [hB'.size]; lia
      have hch' := ch_mirror (st := st2) (lo := lo) (hi := lo + nrem) (i := lo + m - (q + 1)) (j := lo + m) (by lia) (by lia) hsz
      have hR : ∀ k, R ρ (mirror (arrOf st2) (lo + m - (q + 1)) (lo + m) ((lo + m - (lo + m - (q + 1))) / 2)) k = R ρ (arrOf st2) k := fun k => by
       rw [R_mirror hsz]
       split
       ·rw [heq _ (by lia) (by lia), heq k (by lia) (by lia)]
       ·rfl
      have hch3 := hch.trans hch'
      have hB3 := hch'.sb hB'
      have hN3 : NonIn ρ (arrOf (setArr st2 (mirror (arrOf st2) (lo + m - (q + 1)) (lo + m) ((lo + m - (lo + m - (q + 1))) / 2)))) lo (lo + m) := fun i j h1 h2 h3 => by
       show R ρ (mirror (arrOf st2) _ _ _) j ≤ R ρ (mirror (arrOf st2) _ _ _) i
       rw [hR, hR]
       exact hN' i j h1 h2 h3
      generalize setArr st2 (mirror (arrOf st2) (lo + m - (q + 1)) (lo + m) ((lo + m - (lo + m - (q + 1))) / 2)) = st3 at hch3 hB3 hN3 ⊢
      refine wpS_bind (wpS_reverse ?_)
      have hsz4 : lo + m ≤ (arrOf st3).size := by rw [hB3.size]; lia
      walk_at "z17"
      have hB4 := hch4.sb hB3
      have hs4 : SortedIn ρ (arrOf (setArr st3 (mirror (arrOf st3) lo (lo + m) ((lo + m - lo) / 2)))) lo (lo + m) := fun i j h1 h2 h3 => by
       walk_at "z12"
       rw [R_mirror hsz4, R_mirror hsz4, if_pos (by lia), if_pos (by lia)]
       exact hN3 _ _ (by lia) (by lia) (by lia)
      walk_at "z22"
      refine wpS_bind (wpS_mono (wpS_forRange (I := fun x c st' => Y4 = st' ∧ c = (none, x) ∧ SortedIn ρ (arrOf Y4) lo (lo + x))
       (Q := fun c st' => Y4 = st' ∧ ∃ mm, c = (none, mm) ∧ m ≤ mm ∧ mm ≤ nrem ∧ SortedIn ρ (arrOf Y4) lo (lo + mm) ∧ (mm = nrem ∨ R ρ (arrOf Y4) (lo + mm) < R ρ (arrOf Y4) (lo + mm - 1))) ?_ ?_ ⟨rfl, rfl, hs4⟩) ?_)
      ·rintro x c st' hax hxn ⟨rfl, rfl, hs'⟩
       dsimp only
       walk_at "z29"
       by_cases hless : R ρ (arrOf Y4) (lo + x) < R ρ (arrOf Y4) (lo + x - 1)
       ·simp only [hless, decide_true, if_true]
        walk_at "z41"
       ·walk_at "z14"
        refine wpS_pure ⟨rfl, rfl, fun i j h1 h2 h3 => ?_⟩
        by_cases hj : j < lo + x
        ·exact hs' i j h1 h2 hj
        ·have hj' : j = lo + x := by lia
         subst hj'
         by_cases hi : i = lo + x
         ·subst hi; exact Int.le_refl _
         ·walk_at "z19"
      ·rintro c st' ⟨rfl, rfl, hs'⟩
       rw [show max m nrem = nrem by lia] at hs' ⊢
       walk_at "z39"
      ·rintro c st4 ⟨rfl, mm, rfl, hn1', hn2', hn3', _⟩
       dsimp only
       exact wpS_pure (h mm _ (hch3.trans hch4) (by lia) hn2' hn3')
     ·have hch3 := hch
      have hB3 := hB'
      have hN3 := hN'
      generalize st2 = st3 at hch3 hB3 hN3 ⊢
      refine wpS_bind (wpS_reverse ?_)
      have hsz4 : lo + m ≤ (arrOf st3).size := by rw [hB3.size]; lia
      walk_at "z17"
      have hB4 := hch4.sb hB3
      have hs4 : SortedIn ρ (arrOf (setArr st3 (mirror (arrOf st3) lo (lo + m) ((lo + m - lo) / 2)))) lo (lo + m) := fun i j h1 h2 h3 => by
       walk_at "z12"
       rw [R_mirror hsz4, R_mirror hsz4, if_pos (by lia), if_pos (by lia)]
       exact hN3 _ _ (by lia) (by lia) (by lia)
      walk_at "z22"
      refine wpS_bind (wpS_mono (wpS_forRange (I := fun x c st' => Y4 = st' ∧ c = (none, x) ∧ SortedIn ρ (arrOf Y4) lo (lo + x))
       (Q := fun c st' => Y4 = st' ∧ ∃ mm, c = (none, mm) ∧ m ≤ mm ∧ mm ≤ nrem ∧ SortedIn ρ (arrOf Y4) lo (lo + mm) ∧ (mm = nrem ∨ R ρ (arrOf Y4) (lo + mm) < R ρ (arrOf Y4) (lo + mm - 1))) ?_ ?_ ⟨rfl, rfl, hs4⟩) ?_)
      ·rintro x c st' hax hxn ⟨rfl, rfl, hs'⟩
       dsimp only
       walk_at "z29"
       by_cases hless : R ρ (arrOf Y4) (lo + x) < R ρ (arrOf Y4) (lo + x - 1)
       ·simp only [hless, decide_true, if_true]
        walk_at "z41"
       ·walk_at "z14"
        refine wpS_pure ⟨rfl, rfl, fun i j h1 h2 h3 => ?_⟩
        by_cases hj : j < lo + x
        ·exact hs' i j h1 h2 hj
        ·have hj' : j = lo + x := by lia
         subst hj'
         by_cases hi : i = lo + x
         ·subst hi; exact Int.le_refl _
         ·walk_at "z19"
      ·rintro c st' ⟨rfl, rfl, hs'⟩
       rw [show max m nrem = nrem by lia] at hs' ⊢
       walk_at "z39"
      ·rintro c st4 ⟨rfl, mm, rfl, hn1', hn2', hn3', _⟩
       dsimp only
       exact wpS_pure (h mm _ (hch3.trans hch4) (by lia) hn2' hn3')
  ·have hn : n = 1 := by lia
   subst hn
   have hN0 : NonIn ρ (arrOf st) lo (lo + (1 + 1)) := fun i j h1 h2 h3 => by
    by_cases hi : i = lo
    ·by_cases hj : j = lo
     ·subst hi; subst hj; exact Int.le_refl _
     ·rw [hi, show j = lo + 1 by lia]
      rw [show lo + 1 - 1 = lo by lia] at hlt
      lia
    ·rw [show j = i by lia]; exact Int.le_refl _
   have hch0 := Ch.refl lo (lo + nrem) st
   have hB0 := hB
   walk_at "z31"
   refine wpS_bind (wpS_mono (wpS_forRange (I := fun x c st' => ∃ q, c = (none, x, q) ∧ Ch lo (lo + nrem) st st' ∧ SB a₀ k0 st' ∧ NonIn ρ (arrOf st') lo (lo + x) ∧ q + 1 ≤ x ∧ ∀ i, lo + x - (q + 1) ≤ i → i < lo + x → R ρ (arrOf st') i = R ρ (arrOf st') (lo + x - 1))
    (Q := fun c st' => ∃ m q, c = (none, m, q) ∧ m ≤ nrem ∧ 1 + 1 ≤ m ∧ Ch lo (lo + nrem) st st' ∧ SB a₀ k0 st' ∧ NonIn ρ (arrOf st') lo (lo + m) ∧ q + 1 ≤ m ∧ ∀ i, lo + m - (q + 1) ≤ i → i < lo + m → R ρ (arrOf st') i = R ρ (arrOf st') (lo + m - 1)) ?_ ?_ ⟨0, rfl, hch0, hB0, hN0, by lia, fun i h1 h2 => by congr 1; lia⟩) ?_)
   ·rintro x c st' hax hxn ⟨q, rfl, hch, hB', hN', hq, heq⟩
    dsimp only
    refine wpS_bind (wpS_ltR hL hB' (by lia) (by lia) ?_)
    by_cases hless : R ρ (arrOf st') (lo + x) < R ρ (arrOf st') (lo + x - 1)
    ·simp only [hless, decide_true, if_true]
     refine wpS_ite (fun hq0 => ?_) (fun hq0 => ?_)
     ·refine wpS_bind (wpS_reverse ?_)
      have hsz : lo + x ≤ (arrOf st').size := by rw [hB'.size]; lia
      have hch' := ch_mirror (st := st') (lo := lo) (hi := lo + nrem) (i := lo + x - (q + 1)) (j := lo + x) (by lia) (by lia) hsz
      have hR : ∀ k, R ρ (mirror (arrOf st') (lo + x - (q + 1)) (lo + x) ((lo + x - (lo + x - (q + 1))) / 2)) k = R ρ (arrOf st') k := fun k => by
       rw [R_mirror hsz]
       split
       ·rw [heq _ (by lia) (by lia), heq k (by lia) (by lia)]
       ·rfl
      refine wpS_pure ⟨0, rfl, hch.trans hch', hch'.sb hB', fun i j h1 h2 h3 => ?_, by lia, fun i h1 h2 => by congr 1; lia⟩
      show R ρ (mirror (arrOf st') _ _ _) j ≤ R ρ (mirror (arrOf st') _ _ _) i
      rw [hR, hR]
      by_cases hj : j < lo + x
      ·exact hN' i j h1 h2 hj
      ·have : j = lo + x := by lia
       subst this
       by_cases hi : i = lo + x
       ·subst hi; exact Int.le_refl _
       ·walk_at "z27"
     ·refine wpS_pure ⟨0, rfl, hch, hB', fun i j h1 h2 h3 => ?_, by lia, fun i h1 h2 => by congr 1; lia⟩
      by_cases hj : j < lo + x
      ·exact hN' i j h1 h2 hj
      ·have : j = lo + x := by lia
       subst this
       by_cases hi : i = lo + x
       ·subst hi; exact Int.le_refl _
       ·walk_at "z27"
    ·walk_at "z14"
     refine wpS_bind (wpS_ltR hL hB' (by lia) (by lia) ?_)
     by_cases hgr : R ρ (arrOf st') (lo + x - 1) < R ρ (arrOf st') (lo + x)
     ·simp only [hgr, decide_true, if_true]
      exact wpS_pure ⟨x, q, rfl, by lia, by lia, hch, hB', hN', hq, heq⟩
     ·simp only [hgr, decide_false, Bool.false_eq_true, if_false]
      have hee : R ρ (arrOf st') (lo + x) = R ρ (arrOf st') (lo + x - 1) := by lia
      refine wpS_pure ⟨q + 1, rfl, hch, hB', fun i j h1 h2 h3 => ?_, by lia, fun i h1 h2 => ?_⟩
      ·by_cases hj : j < lo + x
       ·exact hN' i j h1 h2 hj
       ·have : j = lo + x := by lia
        subst this
        by_cases hi : i = lo + x
        ·subst hi; exact Int.le_refl _
        ·walk_at "z27"
      ·rw [show lo + (x + 1) - 1 = lo + x by lia, hee]
       by_cases hi : i = lo + x
       ·subst hi; exact hee
       ·exact heq i (by lia) (by lia)
   ·rintro c st' ⟨q, rfl, hch, hB', hN', hq, heq⟩
    rw [show max (1 + 1) nrem = nrem by lia] at hN' hq heq ⊢
    exact ⟨nrem, q, rfl, Nat.le_refl _, by lia, hch, hB', hN', hq, heq⟩
   ·rintro c st2 ⟨m, q, rfl, hm1, hm2, hch, hB', hN', hq, heq⟩
    dsimp only
    refine wpS_ite (fun hq0 => ?_) (fun hq0 => ?_)
    ·refine wpS_bind (wpS_reverse ?_)
     have hsz : lo + m ≤ (arrOf st2).size := by rw [hB'.size]; lia
     have hch' := ch_mirror (st := st2) (lo := lo) (hi := lo + nrem) (i := lo + m - (q + 1)) (j := lo + m) (by lia) (by lia) hsz
     have hR : ∀ k, R ρ (mirror (arrOf st2) (lo + m - (q + 1)) (lo + m) ((lo + m - (lo + m - (q + 1))) / 2)) k = R ρ (arrOf st2) k := fun k => by
      rw [R_mirror hsz]
      split
      ·rw [heq _ (by lia) (by lia), heq k (by lia) (by lia)]
      ·rfl
     have hch3 := hch.trans hch'
     have hB3 := hch'.sb hB'
     have hN3 : NonIn ρ (arrOf (setArr st2 (mirror (arrOf st2) (lo + m - (q + 1)) (lo + m) ((lo + m - (lo + m - (q + 1))) / 2)))) lo (lo + m) := fun i j h1 h2 h3 => by
      show R ρ (mirror (arrOf st2) _ _ _) j ≤ R ρ (mirror (arrOf st2) _ _ _) i
      rw [hR, hR]
      exact hN' i j h1 h2 h3
     generalize setArr st2 (mirror (arrOf st2) (lo + m - (q + 1)) (lo + m) ((lo + m - (lo + m - (q + 1))) / 2)) = st3 at hch3 hB3 hN3 ⊢
     refine wpS_bind (wpS_reverse ?_)
     have hsz4 : lo + m ≤ (arrOf st3).size := by rw [hB3.size]; lia
     walk_at "z17"
     have hB4 := hch4.sb hB3
     have hs4 : SortedIn ρ (arrOf (setArr st3 (mirror (arrOf st3) lo (lo + m) ((lo + m - lo) / 2)))) lo (lo + m) := fun i j h1 h2 h3 => by
      walk_at "z12"
      rw [R_mirror hsz4, R_mirror hsz4, if_pos (by lia), if_pos (by lia)]
      exact hN3 _ _ (by lia) (by lia) (by lia)
     walk_at "z22"
     refine wpS_bind (wpS_mono (wpS_forRange (I := fun x c st' => Y4 = st' ∧ c = (none, x) ∧ SortedIn ρ (arrOf Y4) lo (lo + x))
      (Q := fun c st' => Y4 = st' ∧ ∃ mm, c = (none, mm) ∧ m ≤ mm ∧ mm ≤ nrem ∧ SortedIn ρ (arrOf Y4) lo (lo + mm) ∧ (mm = nrem ∨ R ρ (arrOf Y4) (lo + mm) < R ρ (arrOf Y4) (lo + mm - 1))) ?_ ?_ ⟨rfl, rfl, hs4⟩) ?_)
     ·rintro x c st' hax hxn ⟨rfl, rfl, hs'⟩
      dsimp only
      walk_at "z29"
      by_cases hless : R ρ (arrOf Y4) (lo + x) < R ρ (arrOf Y4) (lo + x - 1)
      ·simp only [hless, decide_true, if_true]
       walk_at "z41"
      ·walk_at "z14"
       refine wpS_pure ⟨rfl, rfl, fun i j h1 h2 h3 => ?_⟩
       by_cases hj : j < lo + x
       ·exact hs' i j h1 h2 hj
       ·have hj' : j = lo + x := by lia
        subst hj'
        by_cases hi : i = lo + x
        ·subst hi; exact Int.le_refl _
        ·walk_at "z19"
     ·rintro c st' ⟨rfl, rfl, hs'⟩
      rw [show max m nrem = nrem by lia] at hs' ⊢
      walk_at "z39"
     ·rintro c st4 ⟨rfl, mm, rfl, hn1', hn2', hn3', _⟩
      dsimp only
      exact wpS_pure (h mm _ (hch3.trans hch4) (by lia) hn2' hn3')
    ·have hch3 := hch
     have hB3 := hB'
     have hN3 := hN'
     generalize st2 = st3 at hch3 hB3 hN3 ⊢
     refine wpS_bind (wpS_reverse ?_)
     have hsz4 : lo + m ≤ (arrOf st3).size := by rw [hB3.size]; lia
     walk_at "z17"
     have hB4 := hch4.sb hB3
     have hs4 : SortedIn ρ (arrOf (setArr st3 (mirror (arrOf st3) lo (lo + m) ((lo + m - lo) / 2)))) lo (lo + m) := fun i j h1 h2 h3 => by
      walk_at "z12"
      rw [R_mirror hsz4, R_mirror hsz4, if_pos (by lia), if_pos (by lia)]
      exact hN3 _ _ (by lia) (by lia) (by lia)
     walk_at "z22"
     refine wpS_bind (wpS_mono (wpS_forRange (I := fun x c st' => Y4 = st' ∧ c = (none, x) ∧ SortedIn ρ (arrOf Y4) lo (lo + x))
      (Q := fun c st' => Y4 = st' ∧ ∃ mm, c = (none, mm) ∧ m ≤ mm ∧ mm ≤ nrem ∧ SortedIn ρ (arrOf Y4) lo (lo + mm) ∧ (mm = nrem ∨ R ρ (arrOf Y4) (lo + mm) < R ρ (arrOf Y4) (lo + mm - 1))) ?_ ?_ ⟨rfl, rfl, hs4⟩) ?_)
     ·rintro x c st' hax hxn ⟨rfl, rfl, hs'⟩
      dsimp only
      walk_at "z29"
      by_cases hless : R ρ (arrOf Y4) (lo + x) < R ρ (arrOf Y4) (lo + x - 1)
      ·simp only [hless, decide_true, if_true]
       walk_at "z41"
      ·walk_at "z14"
       refine wpS_pure ⟨rfl, rfl, fun i j h1 h2 h3 => ?_⟩
       by_cases hj : j < lo + x
       ·exact hs' i j h1 h2 hj
       ·have hj' : j = lo + x := by lia
        subst hj'
        by_cases hi : i = lo + x
        ·subst hi; exact Int.le_refl _
        ·walk_at "z19"
     ·rintro c st' ⟨rfl, rfl, hs'⟩
      rw [show max m nrem = nrem by lia] at hs' ⊢
      walk_at "z39"
     ·rintro c st4 ⟨rfl, mm, rfl, hn1', hn2', hn3', _⟩
      dsimp only
      exact wpS_pure (h mm _ (hch3.trans hch4) (by lia) hn2' hn3')
end
end L2
namespace L2
open PySem PySem.Spec PyProof.Rows
section
variable {prog : Program} {w : World} {A : Around} {E : Value → Shared → Prop} {s : Shared} {a₀ : Array Keyed} {ρ : Keyed → Int} {k0 : SortKind}
theorem R_bubble {xs : Array Keyed} {src d : Nat} (hs : src < xs.size) (hd : d ≤ src) (k : Nat) : R ρ (bubble xs src d) k = if k = src - d then R ρ xs src else if src - d < k ∧ k ≤ src then R ρ xs (k - 1) else R ρ xs k := by
 unfold R
 rw [getElem?_bubble hs d hd]
 (repeat' split) <;> rfl
theorem wpS_binR (hL : LtBy prog w A s k0 ρ a₀) {st : SortSt} {lo n ok : Nat} {Q : Bool → SortSt → Prop} (hn : lo + n ≤ a₀.size) (hok : ok ≤ n) (hB : SB a₀ k0 st) (hs : SortedIn ρ (arrOf st) lo (lo + ok))
 (h : ∀ st', Ch lo (lo + n) st st' → SortedIn ρ (arrOf st') lo (lo + n) → Q true st') : wpS (model prog w) A E s (binarySort' lo n ok) Q st := by
 rw [binarySort'_eq]
 refine wpS_bind (wpS_mono (wpS_forRange (I := fun k c st' => c = (none, ()) ∧ Ch lo (lo + n) st st' ∧ SortedIn ρ (arrOf st') lo (lo + min k n))
  (Q := fun c st' => c = (none, ()) ∧ Ch lo (lo + n) st st' ∧ SortedIn ρ (arrOf st') lo (lo + n)) ?step ?fin ?init) ?post)
 case post =>
  rintro c st' ⟨rfl, hc, hs'⟩
  exact wpS_pure (h st' hc hs')
 case init =>
  refine ⟨rfl, Ch.refl _ _ _, fun i j h1 h2 h3 => ?_⟩
  by_cases q : ok = 0
  ·rw [show j = i by lia]; exact Int.le_refl _
  ·exact hs i j h1 h2 (by lia)
 case fin =>
  rintro c st' ⟨hc, hch, hs'⟩
  refine ⟨hc, hch, ?_⟩
  rwa [show min (max (max ok 1) n) n = n by lia] at hs'
 case step =>
  rintro k c st' hak hkn ⟨rfl, hch, hs'⟩
  rw [show min k n = k by lia] at hs'
  have hB' := hch.sb hB
  refine wpS_bind (wpS_mono (wpS_forRange (I := fun x c st'' => st' = st'' ∧ ∃ l r, c = (none, l, r) ∧ l ≤ r ∧ r ≤ k ∧ r - l ≤ k - x ∧ (∀ i, i < l → R ρ (arrOf st') (lo + i) ≤ R ρ (arrOf st') (lo + k)) ∧ (∀ i, r ≤ i → i < k → R ρ (arrOf st') (lo + k) < R ρ (arrOf st') (lo + i)))
   (Q := fun c st'' => st' = st'' ∧ ∃ l r, c = (none, l, r) ∧ l ≤ k ∧ (∀ i, i < l → R ρ (arrOf st') (lo + i) ≤ R ρ (arrOf st') (lo + k)) ∧ (∀ i, l ≤ i → i < k → R ρ (arrOf st') (lo + k) < R ρ (arrOf st') (lo + i))) ?istep ?ifin ⟨rfl, 0, k, rfl, by lia, by lia, by lia, fun i hi => by lia, fun i h1 h2 => by lia⟩) ?ipost)
  case ifin =>
   rintro c _ ⟨rfl, l, r, rfl, q1, q2, q3, q4, q5⟩
   exact ⟨rfl, l, r, rfl, by lia, q4, fun i h1 h2 => q5 i (by lia) h2⟩
  case istep =>
   rintro x c _ _ hx ⟨rfl, l, r, rfl, q1, q2, q3, q4, q5⟩
   dsimp only
   refine wpS_ite (fun g => ?_) (fun g => ?_)
   ·exact wpS_pure ⟨rfl, l, r, rfl, by lia, q4, fun i h1 h2 => q5 i (by lia) h2⟩
   ·refine wpS_bind (wpS_ltR hL hB' (by lia) (by lia) ?_)
    by_cases hless : R ρ (arrOf st') (lo + k) < R ρ (arrOf st') (lo + (l + r) / 2)
    ·simp only [hless, decide_true, if_true]
     refine wpS_pure ⟨rfl, l, (l + r) / 2, rfl, by lia, by lia, by lia, q4, fun i h1 h2 => ?_⟩
     have := hs' (lo + (l + r) / 2) (lo + i) (by lia) (by lia) (by lia)
     lia
    ·walk_at "z14"
     refine wpS_pure ⟨rfl, (l + r) / 2 + 1, r, rfl, by lia, by lia, by lia, fun i h1 => ?_, q5⟩
     have := hs' (lo + i) (lo + (l + r) / 2) (by lia) (by lia) (by lia)
     lia
  case ipost =>
   rintro c _ ⟨rfl, l, r, rfl, q1, q4, q5⟩
   dsimp only
   rw [moveDown'_eq]
   have hsz : lo + k < (arrOf st').size := by rw [hB'.size]; lia
   have hd : lo + k - (lo + l) ≤ lo + k := by lia
   refine wpS_bind (wpS_modify (wpS_pure ⟨rfl, hch.trans ⟨rfl, rfl, rfl, bubble_perm _ _ _, fun j hj => ?_⟩, fun i j h1 h2 h3 => ?_⟩))
   ·show (bubble (arrOf st') (lo + k) (lo + k - (lo + l)))[j]? = _
    rw [getElem?_bubble hsz _ hd, if_neg (by lia), if_neg (by lia)]
   ·show R ρ (bubble (arrOf st') (lo + k) (lo + k - (lo + l))) i ≤ R ρ (bubble (arrOf st') (lo + k) (lo + k - (lo + l))) j
    rw [show min (k + 1) n = k + 1 by lia] at h3
    rw [R_bubble hsz hd, R_bubble hsz hd]
    have f4 : ∀ p, lo ≤ p → p < lo + l → R ρ (arrOf st') p ≤ R ρ (arrOf st') (lo + k) := fun p a1 a2 => by
     have := q4 (p - lo) (by lia)
     rwa [show lo + (p - lo) = p by lia] at this
    have f5 : ∀ p, lo + l ≤ p → p < lo + k → R ρ (arrOf st') (lo + k) ≤ R ρ (arrOf st') p := fun p a1 a2 => by
     have := q5 (p - lo) (by lia) (by lia)
     rw [show lo + (p - lo) = p by lia] at this
     lia
    repeat' split
    all_goals first
     | (exfalso; lia)
     | exact Int.le_refl _
     | exact f4 _ (by lia) (by lia)
     | exact f5 _ (by lia) (by lia)
     | exact hs' _ _ (by lia) (by lia) (by lia)
theorem laid_l (s0 : Nat) : ∀ (l : List Keyed) (n : Nat) (arr : Array Keyed), s0 + n + l.length ≤ arr.size → ((l.zipIdx n).foldl (fun a p => a.setIfInBounds (s0 + p.2) p.1) arr).toList = arr.toList.take (s0 + n) ++ l ++ arr.toList.drop (s0 + n + l.length)
 | [], n, arr, h => by simp
 | x :: l, n, arr, h => by
   rw [List.zipIdx_cons, List.foldl_cons, laid_l s0 l (n + 1) _ (by simp at h ⊢; lia)]
   have hn : s0 + n < arr.size := by simp at h; lia
   rw [Array.toList_setIfInBounds, show s0 + (n + 1) = (s0 + n) + 1 by lia, List.take_add_one, List.getElem?_set_self (by simpa using hn), List.take_set_of_le (Nat.le_refl _), List.drop_set_of_lt (by lia)]
   simp only [Option.toList_some, List.length_cons, List.append_assoc, List.singleton_append, List.cons_append, List.nil_append]
   rw [show s0 + n + 1 + l.length = s0 + n + (l.length + 1) by lia]
theorem SortedIn.ls {xs : Array Keyed} {lo hi : Nat} (h : SortedIn ρ xs lo hi) (hh : hi ≤ xs.size) : Ls ρ (xs.extract lo hi).toList := by
 unfold Ls
 rw [ext_l, List.pairwise_iff_getElem]
 intro i j hi' hj' hij
 simp only [List.length_take, List.length_drop, Array.length_toList] at hi' hj'
 have e : ∀ (p : Nat) (hp : p < ((xs.toList.drop lo).take (hi - lo)).length), ρ ((xs.toList.drop lo).take (hi - lo))[p] = R ρ xs (lo + p) := fun p hp => by
  simp only [List.length_take, List.length_drop, Array.length_toList] at hp
  rw [R_at (x := xs[lo + p]'(by lia)) (Array.getElem?_eq_getElem (by lia)), List.getElem_take, List.getElem_drop]
  simp
 rw [e i (by simp; lia), e j (by simp; lia)]
 exact h _ _ (by lia) (by lia) (by lia)
theorem ext_mem {xs : Array Keyed} {lo hi : Nat} {x : Keyed} (h : x ∈ (xs.extract lo hi).toList) : ∃ p, lo ≤ p ∧ p < hi ∧ xs[p]? = some x := by
 rw [ext_l] at h
 obtain ⟨j, hj, e⟩ := mem_win h
 exact ⟨lo + j, by lia, by lia, e⟩
theorem ext_at {xs : Array Keyed} {lo hi i : Nat} (h : lo + i < hi) (hh : hi ≤ xs.size) : (xs.extract lo hi)[i]? = xs[lo + i]? := by
 rw [Array.getElem?_extract, if_pos (by lia)]
theorem ext_size {xs : Array Keyed} {lo hi : Nat} (hh : hi ≤ xs.size) : (xs.extract lo hi).size = hi - lo := by
 rw [Array.size_extract, Nat.min_eq_left hh]
theorem merged_ok {arr r : Array Keyed} {sa sb k k' nb : Nat} (h1 : sa + k < sb) (h2 : k' ≤ nb) (h3 : sb + nb ≤ arr.size) (s1 : SortedIn ρ arr sa sb) (s2 : SortedIn ρ arr sb (sb + nb)) (hr : RS ρ (arr.extract (sa + k) sb) (arr.extract sb (sb + k')) r)
 (hk2 : ∀ i, i < k → R ρ arr (sa + i) ≤ R ρ arr sb) (hk3 : ∀ i, k' ≤ i → i < nb → R ρ arr (sb - 1) ≤ R ρ arr (sb + i)) (hnb : 1 ≤ nb) :
 ((r.toList.zipIdx).foldl (fun a p => a.setIfInBounds (sa + k + p.2) p.1) arr).Perm arr ∧ (∀ j, j < sa + k ∨ sb + k' ≤ j → ((r.toList.zipIdx).foldl (fun a p => a.setIfInBounds (sa + k + p.2) p.1) arr)[j]? = arr[j]?) ∧ SortedIn ρ ((r.toList.zipIdx).foldl (fun a p => a.setIfInBounds (sa + k + p.2) p.1) arr) sa (sb + nb) := by
 have hrl : r.toList.length = sb + k' - (sa + k) := by
  rw [hr.1.length_eq, List.length_append, Array.length_toList, Array.length_toList, ext_size (by lia), ext_size (by lia)]
  lia
 have hl := laid_l (sa + k) r.toList 0 arr (by lia)
 rw [Nat.add_zero, hrl, show sa + k + (sb + k' - (sa + k)) = sb + k' by lia] at hl
 generalize (r.toList.zipIdx).foldl (fun a p => a.setIfInBounds (sa + k + p.2) p.1) arr = new at hl ⊢
 have hat : ∀ j, new[j]? = if sa + k ≤ j ∧ j < sb + k' then r[j - (sa + k)]? else arr[j]? := fun j => by
  rw [← Array.getElem?_toList, hl]
  by_cases q1 : j < sa + k
  ·rw [if_neg (by lia), List.append_assoc, List.getElem?_append_left (by simp; lia), List.getElem?_take_of_lt q1, Array.getElem?_toList]
  ·by_cases q2 : j < sb + k'
   ·rw [if_pos (by lia), List.append_assoc, List.getElem?_append_right (by simp; lia), List.getElem?_append_left (by simp at hrl ⊢; lia), Array.getElem?_toList]
    congr 1
    simp; lia
   ·rw [if_neg (by lia), List.getElem?_append_right (by simp at hrl ⊢; lia), List.getElem?_drop, Array.getElem?_toList]
    congr 1
    simp at hrl ⊢; lia
 have hR : ∀ j, R ρ new j = if sa + k ≤ j ∧ j < sb + k' then R ρ r (j - (sa + k)) else R ρ arr j := fun j => by
  unfold R
  rw [hat]
  split <;> rfl
 have hin : ∀ j, j < sb + k' - (sa + k) → ∃ p, sa + k ≤ p ∧ p < sb + k' ∧ R ρ r j = R ρ arr p := fun j hj => by
  have hj' : j < r.size := by simpa using (by lia : j < r.toList.length)
  have hm : r[j] ∈ r.toList := by simp
  rcases List.mem_append.mp (hr.1.mem_iff.mp hm) with z | z
  ·obtain ⟨p, p1, p2, e⟩ := ext_mem z
   exact ⟨p, p1, by lia, by rw [R_at e, R_at (Array.getElem?_eq_getElem hj')]⟩
  ·obtain ⟨p, p1, p2, e⟩ := ext_mem z
   exact ⟨p, by lia, p2, by rw [R_at e, R_at (Array.getElem?_eq_getElem hj')]⟩
 refine ⟨?_, fun j hj => by rw [hat, if_neg (by lia)], fun i j i1 i2 i3 => ?_⟩
 ·rw [Array.perm_iff_toList_perm, hl]
  have e : arr.toList = arr.toList.take (sa + k) ++ ((arr.extract (sa + k) sb).toList ++ (arr.extract sb (sb + k')).toList) ++ arr.toList.drop (sb + k') := by
   rw [ext_l, ext_l]
   have a1 := win_drop arr.toList (i := sa + k) (j := sb) (by lia)
   have a2 := win_drop arr.toList (i := sb) (j := sb + k') (by lia)
   rw [a2] at a1
   conv => lhs; rw [← List.take_append_drop (sa + k) arr.toList, a1]
   simp only [List.append_assoc]
  conv => rhs; rw [e]
  exact (List.Perm.append_left _ hr.1).append_right _
 ·rw [hR, hR]
  have hb0 : ∀ q, sa ≤ q → q < sa + k → R ρ arr q ≤ R ρ arr sb := fun q a1 a2 => by
   have := hk2 (q - sa) (by lia)
   rwa [show sa + (q - sa) = q by lia] at this
  have hb3 : ∀ q, sb + k' ≤ q → q < sb + nb → R ρ arr (sb - 1) ≤ R ρ arr q := fun q a1 a2 => by
   have := hk3 (q - sb) (by lia) (by lia)
   rwa [show sb + (q - sb) = q by lia] at this
  by_cases zi : sa + k ≤ i ∧ i < sb + k'
  ·rw [if_pos zi]
   by_cases zj : sa + k ≤ j ∧ j < sb + k'
   ·rw [if_pos zj]
    exact hr.2.inn (lo := 0) (Nat.le_refl _) _ _ (Nat.zero_le _) (by lia) (by simpa using (by lia : j - (sa + k) < r.toList.length))
   ·rw [if_neg zj]
    obtain ⟨p, p1, p2, e⟩ := hin (i - (sa + k)) (by lia)
    rw [e]
    by_cases q : p < sb
    ·have a1 := s1 p (sb - 1) (by lia) (by lia) (by lia)
     have a2 := hb3 j (by lia) i3
     lia
    ·exact s2 p j (by lia) (by lia) i3
  ·rw [if_neg zi]
   by_cases zj : sa + k ≤ j ∧ j < sb + k'
   ·rw [if_pos zj]
    obtain ⟨p, p1, p2, e⟩ := hin (j - (sa + k)) (by lia)
    rw [e]
    by_cases q : p < sb
    ·exact s1 i p i1 (by lia) q
    ·have a1 := hb0 i i1 (by lia)
     have a2 := s2 sb p (Nat.le_refl _) (by lia) (by lia)
     lia
   ·rw [if_neg zj]
    by_cases q : j < sb
    ·exact s1 i j i1 i2 q
    ·by_cases q2 : i < sb
     ·have a1 := hb0 i i1 (by lia)
      have a2 := s2 sb j (Nat.le_refl _) (by lia) i3
      lia
     ·exact s2 i j (by lia) i2 i3
theorem wpS_set {σ : Type} {M : Model} {st st2 : σ} {Q : PUnit → σ → Prop} (h : Q ⟨⟩ st2) : wpS M A E s (set st2 : StateT σ Sem PUnit) Q st := by
 unfold wpS; rw [StateT.run_set]; exact wpAny_pure ⟨rfl, h⟩
end
end L2
namespace L2
open PySem PySem.Spec PyProof.Rows
local macro_rules | `(tactic| walk_at "mergeAt") => do
 let n := Lean.mkIdent ((Lean.Name.num `_private.PySem.Builtin.List.W1All 0) ++ `PySem.Builtin.mergeAt)
 `(tactic| (delta mergeAt'; delta $n:ident; dsimp only))
section
variable {prog : Program} {w : World} {A : Around} {E : Value → Shared → Prop} {s : Shared} {a₀ : Array Keyed} {ρ : Keyed → Int} {k0 : SortKind}
theorem wpS_mergeAt (hL : LtBy prog w A s k0 ρ a₀) {st : SortSt} (hB : SB a₀ k0 st) {i sa na pw nb pw2 : Nat} {Q : Bool → SortSt → Prop} (hi : (pendingOf st)[i]? = some (sa, na, pw)) (hj : (pendingOf st)[i + 1]? = some (sa + na, nb, pw2)) (h1 : 1 ≤ na) (h2 : 1 ≤ nb) (he : sa + na + nb ≤ a₀.size)
 (s1 : SortedIn ρ (arrOf st) sa (sa + na)) (s2 : SortedIn ρ (arrOf st) (sa + na) (sa + na + nb))
 (h : ∀ st', kindOf st' = kindOf st → failedOf st' = none → pendingOf st' = ((pendingOf st).setIfInBounds i (sa, na + nb, pw)).eraseIdxIfInBounds (i + 1) → (arrOf st').Perm (arrOf st) → (∀ j, j < sa ∨ sa + na + nb ≤ j → (arrOf st')[j]? = (arrOf st)[j]?) → SortedIn ρ (arrOf st') sa (sa + na + nb) → Q true st') :
 wpS (model prog w) A E s (mergeAt' i) Q st := by
 walk_at "mergeAt"
 refine wpS_bind (wpS_get ?_)
 rw [hi, hj]
 dsimp only
 refine wpS_bind (wpS_set ?_)
 obtain ⟨y0, hy0, my0⟩ := hB.at_ (i := sa + na) (by lia)
 refine wpS_bind (wpS_elem hy0 ?_)
 refine wpS_bind (wpS_gallop (hint := 0) (arr := arrOf st) hL (by exact hB.kd) my0 (fun j hj => hB.at_ (by lia)) s1 (by lia) fun k k1 k2 k3 => ?_)
 dsimp only
 refine wpS_ite (fun g => ?_) (fun g => ?_)
 ·have g' : k = na := by have : na - k = 0 := by simpa using g
                         lia
  subst g'
  refine wpS_pure (h _ rfl hB.fl rfl (Array.Perm.refl _) (fun _ _ => rfl) fun i j i1 i2 i3 => ?_)
  show R ρ (arrOf st) i ≤ R ρ (arrOf st) j
  by_cases q : j < sa + k
  ·exact s1 i j i1 i2 q
  ·by_cases q2 : i < sa + k
   ·have := bey_f.mp (k2 (i - sa) (by lia))
    rw [show sa + (i - sa) = i by lia, ← R_at (ρ := ρ) hy0] at this
    have := s2 (sa + k) j (Nat.le_refl _) (by lia) i3
    lia
   ·exact s2 i j (by lia) i2 i3
 have g' : k < na := by have : ¬ na - k = 0 := by simpa using g
                        lia
 obtain ⟨x1, hx1, mx1⟩ := hB.at_ (i := sa + k + (na - k) - 1) (by lia)
 refine wpS_bind (wpS_elem hx1 ?_)
 refine wpS_bind (wpS_gallop (hint := nb - 1) (arr := arrOf st) hL (by exact hB.kd) mx1 (fun j hj => hB.at_ (by lia)) s2 (by lia) fun k' j1 j2 j3 => ?_)
 dsimp only
 refine wpS_ite (fun g3 => ?_) (fun g3 => ?_)
 ·have g3' : k' = 0 := by simpa using g3
  refine wpS_pure (h _ rfl hB.fl rfl (Array.Perm.refl _) (fun _ _ => rfl) fun i j i1 i2 i3 => ?_)
  show R ρ (arrOf st) i ≤ R ρ (arrOf st) j
  by_cases q : j < sa + na
  ·exact s1 i j i1 i2 q
  ·by_cases q2 : i < sa + na
   ·have := bey_tf.mp (j3 (j - (sa + na)) (by lia) (by lia))
    rw [show sa + na + (j - (sa + na)) = j by lia, ← R_at (ρ := ρ) hx1, show sa + k + (na - k) - 1 = sa + na - 1 by lia] at this
    have := s1 i (sa + na - 1) i1 (by lia) (by lia)
    lia
   ·exact s2 i j (by lia) i2 i3
 have g3' : ¬ k' = 0 := by simpa using g3
 have hsz := hB.size
 have la : Ls ρ ((arrOf st).extract (sa + k) (sa + na)).toList := SortedIn.ls (fun i j a1 a2 a3 => s1 i j (by lia) a2 a3) (by lia)
 have lb : Ls ρ ((arrOf st).extract (sa + na) (sa + na + k')).toList := SortedIn.ls (fun i j a1 a2 a3 => s2 i j a1 a2 (by lia)) (by lia)
 have mem : ∀ lo hi x, x ∈ ((arrOf st).extract lo hi).toList → x ∈ a₀.toList := fun lo hi x hx => by
  obtain ⟨p, _, _, e⟩ := ext_mem hx
  exact (Array.perm_iff_toList_perm.mp hB.pm).mem_iff.mp (at_mem e)
 have za : ((arrOf st).extract (sa + k) (sa + na)).size = na - k := by rw [ext_size (by lia)]; lia
 have zb : ((arrOf st).extract (sa + na) (sa + na + k')).size = k' := by rw [ext_size (by lia)]; lia
 have fa : ∀ p x, sa + k ≤ p → p < sa + na → (arrOf st)[p]? = some x → ρ y0 ≤ ρ x := fun p x p1 p2 e => by
  have := bey_ff.mp (k3 (p - sa) (by lia) (by lia))
  rw [show sa + (p - sa) = p by lia, R_at e] at this
  lia
 have fb : ∀ p x, sa + na ≤ p → p < sa + na + k' → (arrOf st)[p]? = some x → ρ x ≤ ρ x1 := fun p x p1 p2 e => by
  have := bey_t.mp (j2 (p - (sa + na)) (by lia))
  rw [show sa + na + (p - (sa + na)) = p by lia, R_at e] at this
  lia
 have b0 : ∀ y, ((arrOf st).extract (sa + na) (sa + na + k'))[0]? = some y → y = y0 := fun y hy => by
  rw [ext_at (by lia) (by lia), Nat.add_zero, hy0] at hy
  exact (Option.some.inj hy).symm
 have al : ∀ x, ((arrOf st).extract (sa + k) (sa + na))[na - k - 1]? = some x → x = x1 := fun x hx => by
  rw [ext_at (by lia) (by lia), show sa + k + (na - k - 1) = sa + k + (na - k) - 1 by lia, hx1] at hx
  exact (Option.some.inj hx).symm
 walk_at "z2"
 ·refine wpS_bind (wpS_mergeLo (a := (arrOf st).extract (sa + k) (sa + na)) (b := (arrOf st).extract (sa + na) (sa + na + k')) hL (by exact hB.kd) la lb (mem _ _) (mem _ _) (by lia) (by lia) (fun x y hx hy => ?_) (fun x hx y hy => ?_) ?_)
  ·rw [b0 y hy]
   rw [ext_at (by lia) (by lia), Nat.add_zero] at hx
   exact fa _ x (Nat.le_refl _) (by lia) hx
  ·obtain ⟨p, p1, p2, e⟩ := ext_mem hy
   have hx' := hx
   rw [za] at hx'
   have : x = x1 := by
    have hlt : na - k - 1 < ((arrOf st).extract (sa + k) (sa + na)).size := by lia
    have hz : x ∈ (((arrOf st).extract (sa + k) (sa + na)).toList.drop (na - k - 1)).take 1 := by
     rw [List.take_of_length_le (by simp [za] ; lia)]; exact hx'
    rw [one_take (Array.getElem?_eq_getElem hlt) hz]
    exact al _ (Array.getElem?_eq_getElem hlt)
   rw [this]
   exact fb p y p1 p2 e
  ·intro r st2 gs hr
   refine wpS_bind (wpS_modify ?_)
   refine wpS_bind (wpS_get ?_)
   have hf : failedOf st2 = none := gs.fl.trans hB.fl
   have har : arrOf st2 = arrOf st := gs.ar
   obtain ⟨o1, o2, o3⟩ := merged_ok (ρ := ρ) (arr := arrOf st) (r := r) (sa := sa) (sb := sa + na) (k := k) (k' := k') (nb := nb) (by lia) j1 (by rw [hB.size]; lia) s1 s2 hr (fun i hi => by have := bey_f.mp (k2 i hi); rwa [← R_at (ρ := ρ) hy0] at this) (fun i i1 i2 => by
    have := bey_tf.mp (j3 i i1 i2)
    rwa [← R_at (ρ := ρ) hx1, show sa + k + (na - k) - 1 = sa + na - 1 by lia] at this) h2
   refine wpS_pure ?_
   show Q (failedOf st2).isNone _
   rw [hf]
   refine h _ gs.kd hf gs.pe ?_ ?_ ?_
   ·show ((r.toList.zipIdx).foldl (fun a p => a.setIfInBounds (sa + k + p.2) p.1) (arrOf st2)).Perm _
    rw [har]; exact o1
   ·intro j hj
    show ((r.toList.zipIdx).foldl (fun a p => a.setIfInBounds (sa + k + p.2) p.1) (arrOf st2))[j]? = _
    rw [har]; exact o2 j (by lia)
   ·show SortedIn ρ ((r.toList.zipIdx).foldl (fun a p => a.setIfInBounds (sa + k + p.2) p.1) (arrOf st2)) sa (sa + na + nb)
    rw [har]; exact o3
 ·refine wpS_bind (wpS_mergeHi (a := (arrOf st).extract (sa + k) (sa + na)) (b := (arrOf st).extract (sa + na) (sa + na + k')) hL (by exact hB.kd) la lb (mem _ _) (mem _ _) (by lia) (by lia) (fun x hx y hy => ?_) (fun x hx y hy => ?_) ?_)
  ·obtain ⟨p, p1, p2, e⟩ := ext_mem hy
   have hlt : 0 < ((arrOf st).extract (sa + na) (sa + na + k')).size := by lia
   have hz : x ∈ (((arrOf st).extract (sa + na) (sa + na + k')).toList.drop 0).take 1 := hx
   rw [one_take (Array.getElem?_eq_getElem hlt) hz, b0 _ (Array.getElem?_eq_getElem hlt)]
   exact fa p y p1 p2 e
  ·rw [za] at hx
   rw [al x hx]
   obtain ⟨p, p1, p2, e⟩ := ext_mem hy
   exact fb p y p1 p2 e
  ·intro r st2 gs hr
   refine wpS_bind (wpS_modify ?_)
   refine wpS_bind (wpS_get ?_)
   have hf : failedOf st2 = none := gs.fl.trans hB.fl
   have har : arrOf st2 = arrOf st := gs.ar
   obtain ⟨o1, o2, o3⟩ := merged_ok (ρ := ρ) (arr := arrOf st) (r := r) (sa := sa) (sb := sa + na) (k := k) (k' := k') (nb := nb) (by lia) j1 (by rw [hB.size]; lia) s1 s2 hr (fun i hi => by have := bey_f.mp (k2 i hi); rwa [← R_at (ρ := ρ) hy0] at this) (fun i i1 i2 => by
    have := bey_tf.mp (j3 i i1 i2)
    rwa [← R_at (ρ := ρ) hx1, show sa + k + (na - k) - 1 = sa + na - 1 by lia] at this) h2
   refine wpS_pure ?_
   show Q (failedOf st2).isNone _
   rw [hf]
   refine h _ gs.kd hf gs.pe ?_ ?_ ?_
   ·show ((r.toList.zipIdx).foldl (fun a p => a.setIfInBounds (sa + k + p.2) p.1) (arrOf st2)).Perm _
    rw [har]; exact o1
   ·intro j hj
    show ((r.toList.zipIdx).foldl (fun a p => a.setIfInBounds (sa + k + p.2) p.1) (arrOf st2))[j]? = _
    rw [har]; exact o2 j (by lia)
   ·show SortedIn ρ ((r.toList.zipIdx).foldl (fun a p => a.setIfInBounds (sa + k + p.2) p.1) (arrOf st2)) sa (sa + na + nb)
    rw [har]; exact o3
end
end L2
namespace L2
open PySem PySem.Spec PyProof.Rows
section
variable {prog : Program} {w : World} {A : Around} {E : Value → Shared → Prop} {s : Shared} {a₀ : Array Keyed} {ρ : Keyed → Int} {k0 : SortKind}
def RunsOk (ρ : Keyed → Int) (xs : Array Keyed) : Nat → List (Nat × Nat × Nat) → Nat → Prop
 | s, [], e => s = e
 | s, u :: r, e => u.1 = s ∧ 1 ≤ u.2.1 ∧ SortedIn ρ xs s (s + u.2.1) ∧ RunsOk ρ xs (s + u.2.1) r e
theorem RunsOk.app {xs : Array Keyed} : ∀ {p q : List (Nat × Nat × Nat)} {s e : Nat}, RunsOk ρ xs s (p ++ q) e ↔ ∃ m, RunsOk ρ xs s p m ∧ RunsOk ρ xs m q e
 | [], q, s, e => ⟨fun h => ⟨s, rfl, h⟩, fun ⟨m, h1, h2⟩ => by cases h1; exact h2⟩
 | u :: p, q, s, e => by
   constructor
   ·rintro ⟨a, b, c, d⟩
    obtain ⟨m, h1, h2⟩ := RunsOk.app.mp d
    exact ⟨m, ⟨a, b, c, h1⟩, h2⟩
   ·rintro ⟨m, ⟨a, b, c, d⟩, h2⟩
    exact ⟨a, b, c, RunsOk.app.mpr ⟨m, d, h2⟩⟩
theorem RunsOk.le {xs : Array Keyed} : ∀ {p : List (Nat × Nat × Nat)} {s e : Nat}, RunsOk ρ xs s p e → s + p.length ≤ e
 | [], s, e, h => by cases h; simp
 | u :: p, s, e, ⟨a, b, c, d⟩ => by have := d.le; simp; lia
theorem RunsOk.congr {xs ys : Array Keyed} : ∀ {p : List (Nat × Nat × Nat)} {s e : Nat}, (∀ j, s ≤ j → j < e → ys[j]? = xs[j]?) → RunsOk ρ xs s p e → RunsOk ρ ys s p e
 | [], s, e, _, h => h
 | u :: p, s, e, hk, ⟨a, b, c, d⟩ => by
   have hl := d.le
   refine ⟨a, b, fun i j i1 i2 i3 => ?_, d.congr fun j h1 h2 => hk j (by lia) h2⟩
   have e1 : R ρ ys i = R ρ xs i := by unfold R; rw [hk i i1 (by lia)]
   have e2 : R ρ ys j = R ρ xs j := by unfold R; rw [hk j (by lia) (by lia)]
   rw [e1, e2]
   exact c i j i1 i2 i3
theorem two_at {α : Type} {p : List α} {i : Nat} (h : i + 1 < p.length) : ∃ l u v r, p = l ++ u :: v :: r ∧ l.length = i := by
 refine ⟨p.take i, p[i], p[i + 1], p.drop (i + 2), ?_, by simp; lia⟩
 rw [← List.drop_eq_getElem_cons h, ← List.drop_eq_getElem_cons (by lia), List.take_append_drop]
theorem wpS_mergeI (hL : LtBy prog w A s k0 ρ a₀) {st : SortSt} (hB : SB a₀ k0 st) {i e : Nat} {Q : Bool → SortSt → Prop} (hr : RunsOk ρ (arrOf st) 0 (pendingOf st).toList e) (he : e ≤ a₀.size) (hi : i + 1 < (pendingOf st).size)
 (h : ∀ st', SB a₀ k0 st' → RunsOk ρ (arrOf st') 0 (pendingOf st').toList e → (pendingOf st').size + 1 = (pendingOf st).size → (∀ j, e ≤ j → (arrOf st')[j]? = (arrOf st)[j]?) → Q true st') : wpS (model prog w) A E s (mergeAt' i) Q st := by
 obtain ⟨l, ⟨sa, na, pw⟩, ⟨sb, nb, pw2⟩, r, hp, hl⟩ := two_at (p := (pendingOf st).toList) (i := i) (by simpa using hi)
 have hr0 := hr
 rw [hp] at hr
 obtain ⟨m, r1, ⟨a1, a2, a3, b1, b2, b3, r2⟩⟩ := RunsOk.app.mp hr
 simp only at a1 a2 a3 b1 b2 b3 r2
 subst a1
 subst b1
 have hle := r2.le
 have e1 : (pendingOf st)[i]? = some (sa, na, pw) := by
  rw [← Array.getElem?_toList, hp, List.getElem?_append_right (by lia), hl, Nat.sub_self]; rfl
 have e2 : (pendingOf st)[i + 1]? = some (sa + na, nb, pw2) := by
  rw [← Array.getElem?_toList, hp, List.getElem?_append_right (by lia), hl, show i + 1 - i = 1 by lia]; rfl
 refine wpS_mergeAt hL hB e1 e2 a2 b2 (by lia) a3 b3 fun st' c1 c2 c3 c4 c5 c6 => ?_
 have hpl : (pendingOf st').toList = l ++ (sa, na + nb, pw) :: r := by
  rw [c3, Array.toList_eraseIdxIfInBounds, Array.toList_setIfInBounds, hp, List.set_append_right _ _ (by lia), hl, Nat.sub_self, List.set_cons_zero, List.eraseIdx_append_of_length_le (by lia), hl, show i + 1 - i = 1 by lia]
  rfl
 have hsz : (pendingOf st').size + 1 = (pendingOf st).size := by
  have x1 := congrArg List.length hpl
  have x2 := congrArg List.length hp
  rw [Array.length_toList, List.length_append, List.length_cons] at x1 x2
  rw [List.length_cons] at x2
  lia
 refine h st' ⟨c4.trans hB.pm, c1.trans hB.kd, c2⟩ ?_ hsz fun j hj => c5 j (by lia)
 rw [hpl]
 refine RunsOk.app.mpr ⟨sa, r1.congr fun j _ h2 => c5 j (.inl h2), rfl, show 1 ≤ na + nb by lia, ?_, ?_⟩
 ·rw [← Nat.add_assoc]; exact c6
 ·rw [← Nat.add_assoc]; exact r2.congr fun j h1 _ => c5 j (.inr h1)
theorem ite_lt {c : Prop} [Decidable c] {p q n : Nat} (h1 : p + 1 < n) (h2 : q + 1 < n) : (if c then p else q) + 1 < n := by split <;> assumption
theorem RunsOk.snoc {xs : Array Keyed} {p : List (Nat × Nat × Nat)} {s m n x : Nat} (h : RunsOk ρ xs s p m) (hn : 1 ≤ n) (hs : SortedIn ρ xs m (m + n)) : RunsOk ρ xs s (p ++ [(m, n, x)]) (m + n) :=
 RunsOk.app.mpr ⟨m, h, rfl, hn, hs, rfl⟩
theorem RunsOk.mark {xs : Array Keyed} {p : Array (Nat × Nat × Nat)} {s e pw k : Nat} (h : RunsOk ρ xs s p.toList e) : RunsOk ρ xs s (p.modify k fun u => (u.1, u.2.1, pw)).toList e := by
 have go : ∀ (p : List (Nat × Nat × Nat)) (k s : Nat), RunsOk ρ xs s p e → RunsOk ρ xs s (p.modify k fun u => (u.1, u.2.1, pw)) e := by
  intro p
  induction p with
  | nil => intro k s h; simpa using h
  | cons u p ih =>
    intro k s h
    obtain ⟨a, b, c, d⟩ := h
    cases k with
    | zero => exact ⟨a, b, c, d⟩
    | succ k => exact ⟨a, b, c, ih k _ d⟩
 rw [Array.toList_modify]
 exact go _ _ _ h
theorem wpS_sortR (hL : LtBy prog w A s k0 ρ a₀) {st : SortSt} {Q : Unit → SortSt → Prop} (hB : SB a₀ k0 st) (hp : pendingOf st = #[]) (h2 : 2 ≤ a₀.size)
 (h : ∀ st', SB a₀ k0 st' → SortedIn ρ (arrOf st') 0 a₀.size → Q () st') : wpS (model prog w) A E s sortRuns' Q st := by
 rw [sortRuns'_eq]
 refine wpS_bind (wpS_get ?_)
 dsimp only
 simp only [hB.size]
 generalize minRun' a₀.size a₀.size 0 = mr
 refine wpS_bind (wpS_mono (wpS_forRange (I := fun x c st' => ∃ lo, c = (none, lo) ∧ SB a₀ k0 st' ∧ RunsOk ρ (arrOf st') 0 (pendingOf st').toList lo ∧ lo ≤ a₀.size ∧ x ≤ lo)
  (Q := fun c st' => c = (none, a₀.size) ∧ SB a₀ k0 st' ∧ RunsOk ρ (arrOf st') 0 (pendingOf st').toList a₀.size) ?step ?fin ⟨0, rfl, hB, by rw [hp]; rfl, by lia, by lia⟩) ?post)
 case fin =>
  rintro c st' ⟨lo, rfl, b, r, l1, l2⟩
  have : lo = a₀.size := by lia
  subst this
  exact ⟨rfl, b, r⟩
 case step =>
  rintro x c st' _ hx ⟨lo, rfl, b, r, l1, l2⟩
  dsimp only
  refine wpS_ite (fun g => ?_) (fun g => ?_)
  ·have : lo = a₀.size := by lia
   subst this
   exact wpS_pure ⟨rfl, b, r⟩
  refine wpS_bind (wpS_countR hL (by lia) (by lia) b fun m st2 ch m1 m2 sm => ?_)
  have b2 := ch.sb b
  have r2 : RunsOk ρ (arrOf st2) 0 (pendingOf st2).toList lo := by
   rw [ch.pe]; exact r.congr fun j _ hj => ch.ke j (.inl hj)
  dsimp only
  refine wpS_ite (fun gm => ?_) (fun gm => ?_)
  ·walk_at "z31"
   refine wpS_bind (wpS_binR hL (n := min (a₀.size - lo) mr) (by lia) (by lia) b2 sm fun st3 ch3 sm3 => ?_)
   simp only [Bool.not_true, Bool.false_eq_true, if_false]
   have b4 := ch3.sb b2
   have r4 : RunsOk ρ (arrOf st3) 0 (pendingOf st3).toList lo := by
    rw [ch3.pe]; exact r2.congr fun j _ hj => ch3.ke j (.inl hj)
   have n41 : 1 ≤ min (a₀.size - lo) mr := by lia
   have n42 : lo + min (a₀.size - lo) mr ≤ a₀.size := by lia
   have s4 := sm3
   generalize min (a₀.size - lo) mr = n4 at n41 n42 s4 ⊢
   generalize st3 = st4 at b4 r4 s4 ⊢
   refine wpS_bind (wpS_get ?_)
   cases hbk : (pendingOf st4).back? with
   | none =>
     dsimp only
     refine wpS_bind (wpS_modify (wpS_pure ⟨lo + n4, rfl, ⟨b4.pm, b4.kd, b4.fl⟩, ?_, by lia, by lia⟩))
     show RunsOk ρ (arrOf st4) 0 ((pendingOf st4).push (lo, n4, 0)).toList (lo + n4)
     rw [Array.toList_push]
     exact r4.snoc n41 s4
   | some u =>
     obtain ⟨u1, u2, u3⟩ := u
     dsimp only
     refine wpS_bind (wpS_mono (wpS_forRange (I := fun y c st' => c = (none, ()) ∧ SB a₀ k0 st' ∧ RunsOk ρ (arrOf st') 0 (pendingOf st').toList lo ∧ ∀ j, lo ≤ j → (arrOf st')[j]? = (arrOf st4)[j]?)
      (Q := fun c st' => c = (none, ()) ∧ SB a₀ k0 st' ∧ RunsOk ρ (arrOf st') 0 (pendingOf st').toList lo ∧ ∀ j, lo ≤ j → (arrOf st')[j]? = (arrOf st4)[j]?) ?_ (fun c st' hh => hh) ⟨rfl, b4, r4, fun _ _ => rfl⟩) ?_)
     ·rintro y c st5 _ hy ⟨rfl, b5, r5, k5⟩
      refine wpS_bind (wpS_get ?_)
      by_cases hz : (pendingOf st5).size > 1
      ·rw [if_pos hz]
       have hlt : (pendingOf st5).size - 2 < (pendingOf st5).size := by lia
       rw [Array.getElem?_eq_getElem hlt]
       generalize (pendingOf st5)[(pendingOf st5).size - 2] = v
       obtain ⟨v1, v2, v3⟩ := v
       dsimp only
       walk_at "z2"
       ·exact wpS_pure ⟨rfl, b5, r5, k5⟩
       ·refine wpS_bind (wpS_mergeI hL b5 r5 l1 (by lia) fun st6 b6 r6 _ k6 => ?_)
        simp only [Bool.not_true, Bool.false_eq_true, if_false]
        exact wpS_pure ⟨rfl, b6, r6, fun j hj => (k6 j hj).trans (k5 j hj)⟩
      ·rw [if_neg hz]
       exact wpS_pure ⟨rfl, b5, r5, k5⟩
     ·rintro c st5 ⟨rfl, b5, r5, k5⟩
      dsimp only
      refine wpS_bind (wpS_modify ?_)
      refine wpS_bind (wpS_modify (wpS_pure ⟨lo + n4, rfl, ⟨b5.pm, b5.kd, b5.fl⟩, ?_, by lia, by lia⟩))
      show RunsOk ρ (arrOf st5) 0 (((pendingOf st5).modify _ _).push (lo, n4, 0)).toList (lo + n4)
      rw [Array.toList_push]
      refine RunsOk.snoc r5.mark n41 fun i j i1 i2 i3 => ?_
      have e1 : R ρ (arrOf st5) i = R ρ (arrOf st4) i := by unfold R; rw [k5 i i1]
      have e2 : R ρ (arrOf st5) j = R ρ (arrOf st4) j := by unfold R; rw [k5 j (by lia)]
      rw [e1, e2]
      exact s4 i j i1 i2 i3
  ·have b4 := b2
   have r4 := r2
   have n41 : 1 ≤ m := m1
   have n42 : lo + m ≤ a₀.size := by lia
   have s4 := sm
   generalize m = n4 at n41 n42 s4 ⊢
   generalize st2 = st4 at b4 r4 s4 ⊢
   refine wpS_bind (wpS_get ?_)
   cases hbk : (pendingOf st4).back? with
   | none =>
     dsimp only
     refine wpS_bind (wpS_modify (wpS_pure ⟨lo + n4, rfl, ⟨b4.pm, b4.kd, b4.fl⟩, ?_, by lia, by lia⟩))
     show RunsOk ρ (arrOf st4) 0 ((pendingOf st4).push (lo, n4, 0)).toList (lo + n4)
     rw [Array.toList_push]
     exact r4.snoc n41 s4
   | some u =>
     obtain ⟨u1, u2, u3⟩ := u
     dsimp only
     refine wpS_bind (wpS_mono (wpS_forRange (I := fun y c st' => c = (none, ()) ∧ SB a₀ k0 st' ∧ RunsOk ρ (arrOf st') 0 (pendingOf st').toList lo ∧ ∀ j, lo ≤ j → (arrOf st')[j]? = (arrOf st4)[j]?)
      (Q := fun c st' => c = (none, ()) ∧ SB a₀ k0 st' ∧ RunsOk ρ (arrOf st') 0 (pendingOf st').toList lo ∧ ∀ j, lo ≤ j → (arrOf st')[j]? = (arrOf st4)[j]?) ?_ (fun c st' hh => hh) ⟨rfl, b4, r4, fun _ _ => rfl⟩) ?_)
     ·rintro y c st5 _ hy ⟨rfl, b5, r5, k5⟩
      refine wpS_bind (wpS_get ?_)
      by_cases hz : (pendingOf st5).size > 1
      ·rw [if_pos hz]
       have hlt : (pendingOf st5).size - 2 < (pendingOf st5).size := by lia
       rw [Array.getElem?_eq_getElem hlt]
       generalize (pendingOf st5)[(pendingOf st5).size - 2] = v
       obtain ⟨v1, v2, v3⟩ := v
       dsimp only
       walk_at "z2"
       ·exact wpS_pure ⟨rfl, b5, r5, k5⟩
       ·refine wpS_bind (wpS_mergeI hL b5 r5 l1 (by lia) fun st6 b6 r6 _ k6 => ?_)
        simp only [Bool.not_true, Bool.false_eq_true, if_false]
        exact wpS_pure ⟨rfl, b6, r6, fun j hj => (k6 j hj).trans (k5 j hj)⟩
      ·rw [if_neg hz]
       exact wpS_pure ⟨rfl, b5, r5, k5⟩
     ·rintro c st5 ⟨rfl, b5, r5, k5⟩
      dsimp only
      refine wpS_bind (wpS_modify ?_)
      refine wpS_bind (wpS_modify (wpS_pure ⟨lo + n4, rfl, ⟨b5.pm, b5.kd, b5.fl⟩, ?_, by lia, by lia⟩))
      show RunsOk ρ (arrOf st5) 0 (((pendingOf st5).modify _ _).push (lo, n4, 0)).toList (lo + n4)
      rw [Array.toList_push]
      refine RunsOk.snoc r5.mark n41 fun i j i1 i2 i3 => ?_
      have e1 : R ρ (arrOf st5) i = R ρ (arrOf st4) i := by unfold R; rw [k5 i i1]
      have e2 : R ρ (arrOf st5) j = R ρ (arrOf st4) j := by unfold R; rw [k5 j (by lia)]
      rw [e1, e2]
      exact s4 i j i1 i2 i3
 case post =>
  rintro c st' ⟨rfl, b, r⟩
  dsimp only
  have hle := r.le
  refine wpS_bind (wpS_mono (wpS_forRange (I := fun x c st' => c = (none, ()) ∧ SB a₀ k0 st' ∧ RunsOk ρ (arrOf st') 0 (pendingOf st').toList a₀.size ∧ (pendingOf st').size + x ≤ a₀.size)
   (Q := fun c st' => c = (none, ()) ∧ SB a₀ k0 st' ∧ RunsOk ρ (arrOf st') 0 (pendingOf st').toList a₀.size ∧ (pendingOf st').size ≤ 1) ?_ ?_ ⟨rfl, b, r, by rw [Array.length_toList] at hle; lia⟩) ?_)
  ·rintro x c st5 _ hx ⟨rfl, b5, r5, k5⟩
   refine wpS_bind (wpS_get ?_)
   refine wpS_ite (fun g => ?_) (fun g => ?_)
   ·exact wpS_pure ⟨rfl, b5, r5, g⟩
   ·refine wpS_bind (wpS_mergeI hL b5 r5 (Nat.le_refl _) (ite_lt (by lia) (by lia)) fun st6 b6 r6 z6 _ => ?_)
    simp only [Bool.not_true, Bool.false_eq_true, if_false]
    exact wpS_pure ⟨rfl, b6, r6, by lia⟩
  ·rintro c st5 ⟨rfl, b5, r5, k5⟩
   exact ⟨rfl, b5, r5, by lia⟩
  ·rintro c st5 ⟨rfl, b5, r5, k5⟩
   dsimp only
   refine wpS_pure (h st5 b5 ?_)
   cases hl : (pendingOf st5).toList with
   | nil =>
     rw [hl] at r5
     have : 0 = a₀.size := r5
     lia
   | cons u l =>
     rw [hl] at r5
     obtain ⟨u1, u2, u3, u4⟩ := r5
     have hl0 : l = [] := by
      have := congrArg List.length hl
      rw [Array.length_toList, List.length_cons] at this
      exact List.eq_nil_of_length_eq_zero (by lia)
     subst hl0
     have e : 0 + u.2.1 = a₀.size := u4
     rw [e] at u3
     exact u3
end
end L2
namespace L2
open PySem PySem.Spec PyProof.Rows
section
variable {prog : Program} {w : World} {A : Around} {E : Value → Shared → Prop} {s : Shared}
end
section
variable {X : Cx}
end
end L2
namespace L2
open PySem PySem.Spec PyProof.Rows
def pairAt (h : Heap) : Value → Int × Int
 | .ref x => match h.get? x with
   | some o => match o.data with
     | .seq a _ => match a.toList with
       | [.int i _, .int j _] => (i, j)
       | _ => (0, 0)
     | _ => (0, 0)
   | none => (0, 0)
 | _ => (0, 0)
def IsPair (h : Heap) (v : Value) : Prop := ∃ x o n i j ti tj, v = .ref x ∧ h.get? x = some o ∧ o.cls = .type "tuple" ∧ o.data = .seq #[.int i ti, .int j tj] n
theorem IsPair.at_ {h : Heap} {v : Value} (p : IsPair h v) : ∃ x o n ti tj, v = .ref x ∧ h.get? x = some o ∧ o.cls = .type "tuple" ∧ o.data = .seq #[.int (pairAt h v).1 ti, .int (pairAt h v).2 tj] n := by
 obtain ⟨x, o, n, i, j, ti, tj, rfl, e1, e2, e3⟩ := p
 have : pairAt h (.ref x) = (i, j) := by
  unfold pairAt
  simp only [e1, e3]
 rw [this]
 exact ⟨x, o, n, ti, tj, rfl, e1, e2, e3⟩
section
variable {prog : Program} {w : World} {A : Around} {E : Value → Shared → Prop} {s : Shared}
def rk (M : Int) (h : Heap) (v : Value) : Int := M * (pairAt h v).1 + (pairAt h v).2
theorem lex_rk {M a b c d : Int} (hb : 0 ≤ b ∧ b < M) (hd : 0 ≤ d ∧ d < M) : M * a + b < M * c + d ↔ (a < c ∨ (a = c ∧ b < d)) := by
 constructor
 ·intro h
  rcases Int.lt_trichotomy a c with q | q | q
  ·exact .inl q
  ·subst q; exact .inr ⟨rfl, by lia⟩
  ·have : M * (c + 1) ≤ M * a := Int.mul_le_mul_of_nonneg_left (by lia) (by lia)
   rw [Int.mul_add] at this
   lia
 ·rintro (q | ⟨rfl, q⟩)
  ·have : M * (a + 1) ≤ M * c := Int.mul_le_mul_of_nonneg_left (by lia) (by lia)
   rw [Int.mul_add] at this
   lia
  ·lia
theorem ltBy_pair {vs : List Value} {M : Int} (hI : ∀ v ∈ vs, IsPair s.heap v) (hM : ∀ v ∈ vs, 0 ≤ (pairAt s.heap v).2 ∧ (pairAt s.heap v).2 < M) : LtBy prog w A s (tuples' true) (fun p => rk M s.heap p.1) (pairsOf vs) := by
 intro E st x y Q hk hx hy h
 rw [pairsOf_toList] at hx hy
 have mx := (mem_zip_self hx).2
 have my := (mem_zip_self hy).2
 have bx := hM _ mx
 have by' := hM _ my
 obtain ⟨ax, ox, nx, tx1, tx2, ex, gx, cx, dx⟩ := (hI _ mx).at_
 obtain ⟨ay, oy, ny, ty1, ty2, ey, gy, cy, dy⟩ := (hI _ my).at_
 have h' : Q (some (decide (M * (pairAt s.heap x.1).1 + (pairAt s.heap x.1).2 < M * (pairAt s.heap y.1).1 + (pairAt s.heap y.1).2))) st := h
 have h'' : Q (some (decide ((pairAt s.heap x.1).1 < (pairAt s.heap y.1).1 ∨ ((pairAt s.heap x.1).1 = (pairAt s.heap y.1).1 ∧ (pairAt s.heap x.1).2 < (pairAt s.heap y.1).2)))) st := by
  rw [← decide_eq_decide.mpr (lex_rk bx by')]
  exact h'
 clear h' h
 have h' := h''
 clear h''
 generalize (pairAt s.heap x.1).1 = p at *
 generalize (pairAt s.heap x.1).2 = q at *
 generalize (pairAt s.heap y.1).1 = i at *
 generalize (pairAt s.heap y.1).2 = j at *
 rw [lt'_eq]
 refine wpS_bind (wpS_get ?_)
 rw [hk, ex, ey]
 refine wpS_bind (wpS_lift (wpAny_attempt (PySem.W.kat_lt gx dx gy dy ?_)))
 refine PySem.W.kat_cons (wpAny_eqBool_int ?_)
 refine PySem.W.kat_go (fun e => PySem.W.kat_yes (PySem.W.kat_cons (wpAny_eqBool_int (PySem.W.kat_go (fun e2 => PySem.W.kat_yes (PySem.W.kat_nil ?_)) fun e2 => PySem.W.kat_no ?_)))) fun e => PySem.W.kat_no ?_
 ·have e' : p = i := by simpa using e
  have e2' : q = j := by simpa using e2
  subst e' e2'
  rw [decide_eq_false (by lia)] at h'
  refine ⟨rfl, ?_⟩
  exact wpS_pure h'
 ·have e' : p = i := by simpa using e
  have e2' : q ≠ j := by simpa using e2
  subst e'
  refine PySem.W.kat_one _ _ (lt_int ?_)
  refine ⟨rfl, ?_⟩
  rw [show decide (p < p ∨ p = p ∧ q < j) = decide (q < j) by simp] at h'
  exact wpS_pure h'
 ·have e' : p ≠ i := by simpa using e
  refine oneLt_int ?_
  refine ⟨rfl, ?_⟩
  rw [show decide (p < i ∨ p = i ∧ q < j) = decide (p < i) by simp [e']] at h'
  exact wpS_pure h'
theorem runs_pairs {vs : List Value} {M : Int} (h2 : 2 ≤ vs.length) (hI : ∀ v ∈ vs, IsPair s.heap v) (hM : ∀ v ∈ vs, 0 ≤ (pairAt s.heap v).2 ∧ (pairAt s.heap v).2 < M) : RunsTo prog w A vs s fun out => out.Perm vs ∧ out.Pairwise fun a b => rk M s.heap a ≤ rk M s.heap b := by
 intro E P hP
 obtain ⟨fs, tf, lf, hf⟩ : ∃ fs : List Value, PySem.W.KatTups s.heap vs fs ∧ fs.length = vs.length ∧ ∀ v ∈ fs, ∃ i t, v = .int i t := by
  clear h2 hM hP
  induction vs with
  | nil => exact ⟨[], trivial, rfl, by simp⟩
  | cons v vs ih =>
    obtain ⟨fs, a, b, c⟩ := ih fun u hu => hI u (List.mem_cons_of_mem _ hu)
    obtain ⟨x, o, n, i, j, ti, tj, rfl, e1, e2, e3⟩ := hI _ List.mem_cons_self
    refine ⟨.int i ti :: fs, ⟨⟨x, _, _, _, rfl, e1, e2, e3, rfl⟩, a⟩, by simp [b], fun u hu => ?_⟩
    rcases List.mem_cons.mp hu with z | z
    ·exact ⟨i, ti, z⟩
    ·exact c u z
 refine wpAny_bind (PySem.W.kat_kind (fs := fs) (T := .type "int") tf (by lia) (fun v hv => ?_) (by decide) ?_)
 ·obtain ⟨i, t, rfl⟩ := hf v hv
  exact PySem.W.Looks.of_pure rfl
 ·have hB : SB (pairsOf vs) (tuples' true) (SortSt.mk' (tuples' true) (pairsOf vs) #[] 7 none) := ⟨Array.Perm.refl _, rfl, rfl⟩
  have h := wpS_sortR (prog := prog) (w := w) (A := A) (E := E) (s := s) (ltBy_pair hI hM) hB rfl (by rw [pairsOf_size]; exact h2) (Q := fun _ st => P st s) fun st' b hs => by
   have hl : (arrOf st').toList.Perm (vs.zip vs) := by rw [← pairsOf_toList]; exact Array.perm_iff_toList_perm.mp b.pm
   have hmem : ∀ p, p ∈ (arrOf st').toList → p.1 = p.2 ∧ p.1 ∈ vs := fun p hp' => mem_zip_self (hl.mem_iff.mp hp')
   have hout : ((arrOf st').map (·.2)).toList = (arrOf st').toList.map (·.1) := by
    rw [Array.toList_map]; exact List.map_congr_left fun p hp' => (hmem p hp').1.symm
   refine hP st' ((arrOf st').map (·.2)).toList b.fl (by first | exact (Array.toArray_toList).symm | (apply Array.ext'; simp)) ?_ ⟨?_, ?_⟩
   ·have := b.size
    rw [pairsOf_size] at this
    simpa using this
   ·rw [hout]
    have := hl.map (·.1)
    rwa [List.map_fst_zip (Nat.le_refl _)] at this
   ·rw [hout, List.pairwise_map, List.pairwise_iff_getElem]
    intro i j hi hj hij
    have hi' : i < (arrOf st').size := by simpa using hi
    have hj' : j < (arrOf st').size := by simpa using hj
    have := hs i j (Nat.zero_le _) (Nat.le_of_lt hij) (by rw [← b.size]; exact hj')
    rw [R_at (Array.getElem?_eq_getElem hi'), R_at (Array.getElem?_eq_getElem hj')] at this
    simpa using this
  unfold wpS at h
  refine wpAny_bind (wpAny_mono h (fun r s' h' => ?_) fun _ _ e => e)
  obtain ⟨rfl, q⟩ := h'
  exact wpAny_pure q
end
end L2
namespace L2
open PySem PySem.Spec PyProof.Rows
def DRaw (h : Heap) (d : Addr) (es : Array DictEntry) (ep : Nat) : Prop := ∃ o, h.get? d = some o ∧ o.ExactDict ∧ o.data = .dict es ep
theorem DRaw.typeIs {s : Shared} {d : Addr} {es : Array DictEntry} {ep : Nat} (x : DRaw s.heap d es ep) : s.TypeIs (.ref d) "dict" := by
 obtain ⟨o, g, c, _⟩ := x
 exact ⟨o, g, c.1⟩
section
variable {prog : Program} {w : World} {A : Around} {E : Value → Shared → Prop} {s : Shared} {it d : Addr} {i ep : Nat} {es : Array DictEntry}
theorem raw_iter {Q : Value → Shared → Prop} (ns : (d == sysModules) = false) (x : DRaw s.heap d es ep)
 (q : Q (.ref s.heap.objs.size) { s with heap := s.heap.push { cls := .type "dict_keyiterator", data := .fields #[.ref d, .int 0 0, .int es.size 0, .int ep 0] } }) :
 wpAny (model prog w) A (pyIter (.ref d)) Q E s := by
 have tD := x.typeIs
 obtain ⟨o, g, c, e⟩ := x
 refine wpAny_pyIter_slot tD F.slot_dict_iter ?_
 refine wpAny_call_entry F.slot_dict_iter tD F.entry_dict_iter ?_ (F.args_dict_iter_1 _)
 unfold Builtin.«dict.__iter__»
 refine wpAny_bind ?_
 unfold Builtin.Dict.dictSlotNone
 refine wpAny_bind (wpAny_notOrdered_dict tD (wpAny_pure ?_))
 refine wpAny_bind ?_
 refine (wpAny_pure ?_ : wpAny _ _ (pure d) _ _ s)
 unfold Builtin.Dict.showsAll
 refine wpAny_bind ?_
 rw [if_neg (fun z => by rw [ns] at z; cases z)]
 refine wpAny_pure (wpAny_bind (wpAny_dictEntries g e (wpAny_bind (wpAny_dictEpoch g e ?_))))
 have lk := F.slot_dict_keyiterator_next.lookup
 refine wpAny_bind (wpAny_newObj_type (wpAny_pure ⟨_, rfl, "dict_keyiterator", _, ⟨_, Heap.get?_push_size _ rfl, rfl⟩, lk, ?_⟩))
 simpa [rawInt] using q
theorem raw_item {en : DictEntry} {Q : Option Value → Shared → Prop} (k : s.heap.IsKeyIter it d i es.size ep) (x : DRaw s.heap d es ep) (hx : es[i]? = some en)
 (q : ∀ h', h'.IsKeyIter it d (i + 1) es.size ep → Heap.SameBut it s.heap h' → Q (some en.key) { s with heap := h' }) :
 wpAny (model prog w) A (pyNext (.ref it)) Q E s := by
 have tI := k.typeIs
 obtain ⟨oI, gI, cI, dI⟩ := id k
 obtain ⟨oD, gD, cD, dD⟩ := x
 obtain ⟨lt, rfl⟩ := Array.getElem?_eq_some_iff.mp hx
 unfold pyNext
 refine wpAny_bind (wpAny_attempt (wpAny_callSpecial?_slot (name := Str.ofString "__next__") tI F.slot_dict_keyiterator_next ?_))
 refine wpAny_call_entry F.slot_dict_keyiterator_next tI F.entry_dict_keyiterator_next ?_ (F.args_dict_keyiterator_next_1 _)
 refine wpAny_bind (wpAny_pure (wpAny_bind (wpAny_bind ?_)))
 first | refine wpAny_bind (wpAny_typeNameOfWhole_keyiter tI (wpAny_pure ?_)) | refine wpAny_bind (wpAny_typeNameOf_keyiter tI (wpAny_pure ?_))
 refine wpAny_bind (wpAny_fieldsOf gI dI ?_)
 simp only [show Builtin.Dict_items.ownsTuple "dict_keyiterator" = false by decide, Bool.false_eq_true, if_false]
 refine (?_ : wpAny _ _ (ite ((Value.ref d == Value.none) = true) _ _) _ _ s)
 rw [if_neg (fun z : (Value.ref d == Value.none) = true => Bool.false_ne_true z)]
 refine wpAny_bind (wpAny_pure (wpAny_bind (wpAny_dictEntries gD dD ?_)))
 rw [if_neg (by simp)]
 refine wpAny_bind (wpAny_pure (wpAny_bind (wpAny_dictEpoch gD dD ?_)))
 rw [if_neg (by simp)]
 refine wpAny_pure ?_
 simp only [show ¬ ((i : Int) < 0) by lia, if_false, Int.toNat_natCast, Array.getElem?_eq_getElem lt]
 refine wpAny_bind ?_
 first | refine wpAny_bind (wpAny_typeNameOfWhole_keyiter tI (wpAny_pure ?_)) | refine wpAny_bind (wpAny_typeNameOf_keyiter tI (wpAny_pure ?_))
 refine wpAny_bind (wpAny_isOneOf_keyiter tI ?_)
 refine (?_ : wpAny _ _ (setField (.ref it) 1 (rawInt ((i : Int) + 1)) >>= _) _ _ s)
 refine wpAny_bind (wpAny_setField gI dI (by simp) ?_)
 have k2 : (s.heap.update it (Obj.mapFields (·.setIfInBounds 1 (rawInt ((i : Int) + 1))))).IsKeyIter it d (i + 1) es.size ep := by
  refine ⟨_, Heap.get?_update_self _ gI (Obj.isFreed_of_fields (Obj.data_mapFields dI _)), (Obj.cls_mapFields ..).trans cI, ?_⟩
  rw [Obj.data_mapFields dI]
  simp [rawInt]
 refine wpAny_bind (wpAny_holding (wpAny_bind (wpAny_isOneOf_keyiter k2.typeIs ?_)))
 exact wpAny_pure (wpAny_pure ⟨_, rfl, wpAny_pure (q _ k2 (Heap.SameBut.update ..))⟩)
theorem raw_end {Q : Option Value → Shared → Prop} (hh : A.handled = none) (k : s.heap.IsKeyIter it d i es.size ep) (x : DRaw s.heap d es ep) (hx : es.size ≤ i)
 (q : ∀ h', Heap.ExtBut it s.heap h' → Q none { s with heap := h' }) : wpAny (model prog w) A (pyNext (.ref it)) Q E s := by
 have tI := k.typeIs
 obtain ⟨oI, gI, cI, dI⟩ := id k
 obtain ⟨oD, gD, cD, dD⟩ := x
 unfold pyNext
 refine wpAny_bind (wpAny_attempt (wpAny_callSpecial?_slot (name := Str.ofString "__next__") tI F.slot_dict_keyiterator_next ?_))
 refine wpAny_call_entry F.slot_dict_keyiterator_next tI F.entry_dict_keyiterator_next ?_ (F.args_dict_keyiterator_next_1 _)
 refine wpAny_bind (wpAny_pure (wpAny_bind (wpAny_bind ?_)))
 first | refine wpAny_bind (wpAny_typeNameOfWhole_keyiter tI (wpAny_pure ?_)) | refine wpAny_bind (wpAny_typeNameOf_keyiter tI (wpAny_pure ?_))
 refine wpAny_bind (wpAny_fieldsOf gI dI ?_)
 simp only [show Builtin.Dict_items.ownsTuple "dict_keyiterator" = false by decide, Bool.false_eq_true, if_false]
 refine (?_ : wpAny _ _ (ite ((Value.ref d == Value.none) = true) _ _) _ _ s)
 rw [if_neg (fun z : (Value.ref d == Value.none) = true => Bool.false_ne_true z)]
 refine wpAny_bind (wpAny_pure (wpAny_bind (wpAny_dictEntries gD dD ?_)))
 rw [if_neg (by simp)]
 refine wpAny_bind (wpAny_pure (wpAny_bind (wpAny_dictEpoch gD dD ?_)))
 rw [if_neg (by simp)]
 refine wpAny_pure ?_
 simp only [show ¬ ((i : Int) < 0) by lia, if_false, Int.toNat_natCast, Array.getElem?_eq_none hx]
 refine wpAny_bind ?_
 first | refine wpAny_bind (wpAny_typeNameOfWhole_keyiter tI (wpAny_pure ?_)) | refine wpAny_bind (wpAny_typeNameOf_keyiter tI (wpAny_pure ?_))
 refine (?_ : wpAny _ _ (setField (.ref it) 0 .none >>= _) _ _ s)
 refine wpAny_bind (wpAny_setField gI dI (by simp) (wpAny_bind ?_))
 simp only [newExc, newTuple]
 refine wpAny_bind (wpAny_newObj_type ?_ (by size_fits))
 refine wpAny_bind (m := firstArgMember _ _) (wpAny_of_eq (a := Value.none) (by first | rfl | (simp only [firstArgMember]; rfl)) (wpAny_newObj_type ?_ (by size_fits)))
 simp only [raiseNew]
 refine wpAny_bind (wpAny_handled ?_)
 rw [show A.in1.handled = none by exact hh]
 refine wpAny_bind (wpAny_pure (wpAny_throw (wpAny_bind ?_)))
 refine wpAny_isInstance (b := true) (T := "StopIteration") ⟨_, Heap.get?_push_size _ rfl, rfl⟩ isSubtype_stop (wpAny_pure ?_)
 exact q _ (((Heap.SameBut.update ..).extBut.push _).push _)
theorem DRaw.at_ {h h' : Heap} (x : DRaw h d es ep) (e : ∀ o, h.get? d = some o → h'.get? d = some o) : DRaw h' d es ep := let ⟨o, g, r⟩ := x; ⟨o, e _ g, r⟩
theorem raw_walks (hh : A.handled = none) (I d : Addr) (hne : d ≠ I) (es : Array DictEntry) (ep : Nat) :
 Walks prog w A I [I, d] [I] es.size (fun i v => ∃ en, es[i]? = some en ∧ v = en.key) (fun i h => h.IsKeyIter I d i es.size ep ∧ DRaw h d es ep) where
 sub := fun b hb => by simp at hb; simp [hb]
 frame := fun i h h' st hk => ⟨st.1.at fun o e => hk I (by simp) o e, st.2.at_ fun o e => hk d (by simp) o e⟩
 item := fun i s Q E hi st hQ => by
  refine raw_item st.1 st.2 (Array.getElem?_eq_getElem hi) fun h' k' sb => ?_
  exact hQ _ h' s.toks ⟨_, Array.getElem?_eq_getElem hi, rfl⟩ ⟨k', st.2.at_ fun o e => sb.extBut d o hne e⟩ fun b o nb e => sb.extBut b o (fun z => nb (by simp [z])) e
 done := fun s Q E st hQ => raw_end hh st.1 st.2 (Nat.le_refl _) fun h' x => hQ h' s.toks fun b o nb e => x b o (fun z => nb (by simp [z])) e
 self := fun i s Q E st hQ => wpAny_pyIter_keyiter st.1 hQ
theorem raw_src (ns : (d == sysModules) = false) : PySem.W.KdlSrc prog w "dict" d d es.size (fun i v => ∃ en, es[i]? = some en ∧ v = en.key) (fun h => DRaw h d es ep) where
 type := fun _ x => x.typeIs
 there := fun _ ⟨_, g, _⟩ => ⟨Heap.lt_size g, Heap.lt_size g⟩
 keep := fun _ _ x hk => x.at_ fun o e => hk d (.inl rfl) o e
 notList := by decide
 notTuple := by decide
 hint := fun _ _ _ _ x q => PySem.W.kdl_hint_dict x.typeIs q
 iter := fun A s hh x => by
  obtain ⟨o, g, c, e⟩ := id x
  exact ⟨_, _, fun E Q q => raw_iter ns x q, raw_walks hh _ d (Nat.ne_of_lt (Heap.lt_size g)) es ep, ⟨⟨_, Heap.get?_push_size _ rfl, rfl, rfl⟩, x.at_ fun o' e' => Heap.get?_push_of_some _ e'⟩⟩
end
end L2
namespace L2
open PySem PySem.Spec PyProof.Rows
section
variable {prog : Program} {w : World} {A : Around} {E : Value → Shared → Prop} {s : Shared}
theorem list_sort_short {a : Addr} {vs : List Value} {n : Nat} {P : Fin → Shared → Prop} (ho : s.heap.get? a = some (seqObj "list" vs.toArray n)) (h2 : vs.length < 2)
 (h : P (.done (.ret .none)) { s with heap := sortedHeap s.heap a vs vs.toArray }) :
 wpAny (model prog w) A (Builtin.«list.sort» ⟨[.ref a], []⟩) P E s := by
 have hz : vs.length ≤ sizeLine := szl (by lia)
 rw [list_sort_plain]
 have ha : a < s.heap.objs.size := Heap.lt_size ho
 refine wpAny_bind (listItems_at ho rfl ?_)
 refine wpAny_bind (listUpdate_at ho rfl ?_ (by rw [List.size_toArray]; exact hz) (Nat.zero_le _))
 obtain ⟨e1, ho1⟩ : ∃ e1, (s.heap.update a (Obj.mapSeq fun _ => #[])).get? a = some (seqObj "list" #[] e1) := ⟨_, get?_update_seq ho (fun _ => #[])⟩
 refine wpAny_bind (seqEpoch_at ho1 rfl ?_)
 refine wpAny_bind (wpAny_newTuple ?_ (by show vs.length ≤ _; exact hz))
 refine wpAny_bind (wpAny_newList ?_ (Nat.zero_le _))
 refine wpAny_holding ?_
 have ho6 : (((s.heap.update a (Obj.mapSeq fun _ => #[])).push (seqObj "tuple" vs.toArray 0)).push (seqObj "list" #[] 0)).get? a = some (seqObj "list" #[] e1) := by
  rw [Heap.get?_push_ne _ _ _ (by rw [size_push', Heap.size_update]; exact Nat.ne_of_lt (Nat.lt_succ_of_lt ha)), Heap.get?_push_ne _ _ _ (by rw [Heap.size_update]; exact Nat.ne_of_lt ha)]
  exact ho1
 show wpAny (model prog w) A _ P E { s with heap := ((s.heap.update a (Obj.mapSeq fun _ => #[])).push (seqObj "tuple" vs.toArray 0)).push (seqObj "list" #[] 0) }
 dsimp only
 have hn2 : vs.toArray.size < 2 := by rw [List.size_toArray]; lia
 rw [if_pos hn2, if_pos hn2]
 refine wpAny_bind (wpAny_pure ?_)
 simp only [StateT.run_pure]
 refine wpAny_bind (wpAny_pure ?_)
 dsimp only
 have har : (vs.toArray.zip vs.toArray).map (·.2) = vs.toArray := by
  apply Array.ext'
  rw [Array.toList_map, Array.toList_zip]
  simp [List.map_snd_zip]
 refine wpAny_bind (seqEpoch_at ho6 rfl ?_)
 refine wpAny_bind (listUpdate_at ho6 rfl ?_ (Nat.zero_le _) (by show ((vs.toArray.zip vs.toArray).map (·.2)).size ≤ _; rw [har, List.size_toArray]; lia))
 simp only [bne_self_eq_false, Bool.false_eq_true, if_false]
 rw [har]
 exact wpAny_pure h
theorem sorted_dict {d : Addr} {es : Array DictEntry} {ep : Nat} {Q : Value → Shared → Prop} {R : List Value → Prop} (hh : A.handled = none) (ns : (d == sysModules) = false) (x : DRaw s.heap d es ep) (hz : es.size ≤ sizeLine)
 (hr : 2 ≤ es.size → ∀ (h' : Heap) (tk : Nat), (∀ b o, s.heap.get? b = some o → h'.get? b = some o) → RunsTo prog w A.in1.in1 (es.toList.map (·.key)) { s with heap := h', toks := tk } R)
 (h : ∀ (h' : Heap) (tk : Nat) (l : Addr) (out : List Value) (n : Nat), (∀ b o, s.heap.get? b = some o → h'.get? b = some o) → s.heap.get? l = none → h'.get? l = some (seqObj "list" out.toArray n) → out.length = es.size → (2 ≤ es.size → R out) → (es.size < 2 → out = es.toList.map (·.key)) → Q (.ref l) { s with heap := h', toks := tk }) :
 wpAny (model prog w) A (call (.builtin "sorted") [.ref d]) Q E s := by
 refine Calls.call_function_entry kind_sorted plain_sorted entry_sorted (args_sorted1 _) ?_
 unfold Builtin.«sorted»
 refine wpAny_bind (m := checkCount "sorted" 1 1 _) (wpAny_pure ?_)
 refine wpAny_bind (PySem.W.kdu_collect (raw_src (prog := prog) (w := w) (es := es) (ep := ep) ns) hh x hz fun h1 tk acc k1 it => ?_)
 have hacc : acc.toList = es.toList.map (·.key) := by
  refine List.ext_getElem? fun j => ?_
  rw [Array.getElem?_toList, List.getElem?_map, Array.getElem?_toList]
  cases hj : acc[j]? with
  | none =>
    have : acc.size ≤ j := by simpa using hj
    rw [Array.getElem?_eq_none (by rw [← it.1]; exact this)]
    rfl
  | some v =>
    obtain ⟨en, e1, e2⟩ := it.2 j v hj
    rw [e1, e2]
    rfl
 rw [hacc]
 have hlen : (es.toList.map (·.key)).length = es.size := by simp
 generalize es.toList.map (·.key) = vs at *
 have hz' : vs.length ≤ sizeLine := by lia
 refine wpAny_bind (wpAny_newList ?_ hz')
 have hoL : (h1.push (seqObj "list" vs.toArray 0)).get? h1.objs.size = some (seqObj "list" vs.toArray 0) := Heap.get?_push_size _ rfl
 have hnl : s.heap.get? h1.objs.size = none := by
  cases q : s.heap.get? h1.objs.size with
  | none => rfl
  | some o => exact absurd (Heap.lt_size (k1 _ _ q)) (Nat.lt_irrefl _)
 have keep : ∀ b o, s.heap.get? b = some o → (h1.push (seqObj "list" vs.toArray 0)).get? b = some o := fun b o q => Heap.get?_push_of_some _ (k1 b o q)
 have neq : ∀ b o, s.heap.get? b = some o → b ≠ h1.objs.size := fun b o q z => by rw [z, hnl] at q; cases q
 have hlt : h1.objs.size < (h1.push (seqObj "list" vs.toArray 0)).objs.size := Heap.lt_size hoL
 generalize h1.push (seqObj "list" vs.toArray 0) = h2 at *
 generalize h1.objs.size = l at *
 have sAt : ∀ out : Array Value, ∃ n, (sortedHeap h2 l vs out).get? l = some (seqObj "list" out n) := fun out => by
  obtain ⟨e1, ho1⟩ : ∃ e1, (h2.update l (Obj.mapSeq fun _ => #[])).get? l = some (seqObj "list" #[] e1) := ⟨_, get?_update_seq hoL (fun _ => #[])⟩
  have ho2 : (((h2.update l (Obj.mapSeq fun _ => #[])).push (seqObj "tuple" vs.toArray 0)).push (seqObj "list" #[] 0)).get? l = some (seqObj "list" #[] e1) := Heap.get?_push_of_some _ (Heap.get?_push_of_some _ ho1)
  exact ⟨_, get?_update_seq ho2 (fun _ => out)⟩
 have sOld : ∀ (out : Array Value) b o, b ≠ l → h2.get? b = some o → (sortedHeap h2 l vs out).get? b = some o := fun out b o nb q => by
  unfold sortedHeap
  rw [Heap.get?_update_ne _ _ _ _ nb]
  refine Heap.get?_push_of_some _ (Heap.get?_push_of_some _ ?_)
  rw [Heap.get?_update_ne _ _ _ _ nb]
  exact q
 by_cases h2' : 2 ≤ vs.length
 ·refine wpAny_bind (wpAny_holding (wpAny_call_entry slot_list_sort ⟨_, hoL, rfl⟩ entry_list_sort (list_sort_raw (R := R) hoL h2' hz' (fun h' k => ?_) fun out a1 a2 => ⟨_, rfl, ?_⟩) (args_list_sort _)))
  ·exact hr (by lia) h' tk fun b o q => k b o (neq b o q) (keep b o q)
  ·obtain ⟨n, e⟩ := sAt out.toArray
   exact wpAny_pure ⟨_, rfl, h _ tk l out n (fun b o q => sOld _ b o (neq b o q) (keep b o q)) hnl e (by lia) (fun _ => a2) (fun z => by lia)⟩
 ·refine wpAny_bind (wpAny_holding (wpAny_call_entry slot_list_sort ⟨_, hoL, rfl⟩ entry_list_sort (list_sort_short hoL (by lia) ⟨_, rfl, ?_⟩) (args_list_sort _)))
  obtain ⟨n, e⟩ := sAt vs.toArray
  exact wpAny_pure ⟨_, rfl, h _ tk l vs n (fun b o q => sOld _ b o (neq b o q) (keep b o q)) hnl e (by lia) (fun z => by lia) (fun _ => rfl)⟩
end
end L2
namespace L2
open PySem PySem.Spec PyProof.Rows
def adOf : Value → Addr
 | .ref a => a
 | _ => 0
def PrAt (H : Hp) (ts : List Addr) (ks : List (Int × Int)) : Prop := Paired (fun t (k : Int × Int) => H t = some (.tup [.int k.1, .int k.2])) ts ks
def kk (k : Int × Int) : List Key := [Sum.inl k.1, Sum.inl k.2]
theorem pr_of {H : Hp} : ∀ {kvs : List (List Key × V)} {xs : List (List Key × Addr × Value)} {ks : List (Int × Int)}, KT H kvs xs → kvs.map (·.1) = ks.map kk → PrAt H (xs.map (·.2.1)) ks
 | [], _, [], .nil, _ => .nil
 | [], _, _ :: _, _, h => by simp at h
 | _ :: _, _, [], _, h => by simp at h
 | p :: kvs, x :: xs, k :: ks, .cons r t, h => by
   simp only [List.map_cons, List.cons.injEq] at h
   refine .cons ?_ (pr_of t h.2)
   rw [r.2.1, h.1]
   rfl
theorem PrAt.mem {H : Hp} : ∀ {ts : List Addr} {ks : List (Int × Int)} {t : Addr}, PrAt H ts ks → t ∈ ts → ∃ k ∈ ks, H t = some (.tup [.int k.1, .int k.2])
 | _, _, _, .nil, h => by simp at h
 | _, _, _, .cons r p, h => by
   rcases List.mem_cons.mp h with z | z
   ·subst z; exact ⟨_, List.mem_cons_self, r⟩
   ·obtain ⟨k, hk, e⟩ := PrAt.mem p z
    exact ⟨k, List.mem_cons_of_mem _ hk, e⟩
section
variable {X : Cx} {pins : List (Addr × Obj)} {σ : St} {H : Hp} {s : Shared}
theorem pair_here {t : Addr} {k : Int × Int} (I : Inv X pins σ H s) (h : H t = some (.tup [.int k.1, .int k.2])) : IsPair s.heap (.ref t) ∧ pairAt s.heap (.ref t) = k := by
 obtain ⟨xi, rx, px, _⟩ := I.tuple (SqT.of h)
 cases rx with
 | cons a1 rx =>
   cases rx with
   | cons a2 rx =>
     cases rx
     obtain ⟨ti, rfl⟩ := a1
     obtain ⟨tj, rfl⟩ := a2
     obtain ⟨o, g, c, n, e⟩ := (show s.heap.IsTuple t _ from px)
     refine ⟨⟨t, o, n, _, _, ti, tj, rfl, g, c, e⟩, ?_⟩
     unfold pairAt
     simp only [g, e]
theorem PrAt.keys (I : Inv X pins σ H s) : ∀ {as : List Addr} {ks : List (Int × Int)}, PrAt H as ks → as.map (fun t => pairAt s.heap (.ref t)) = ks
 | _, _, .nil => rfl
 | _, _, .cons r p => by rw [List.map_cons, (pair_here I r).2, PrAt.keys I p]
theorem pairAt_keep {h h' : Heap} {v : Value} (p : IsPair h v) (k : ∀ b o, h.get? b = some o → h'.get? b = some o) : IsPair h' v ∧ pairAt h' v = pairAt h v := by
 obtain ⟨x, o, n, i, j, ti, tj, rfl, e1, e2, e3⟩ := p
 refine ⟨⟨x, o, n, i, j, ti, tj, rfl, k _ _ e1, e2, e3⟩, ?_⟩
 unfold pairAt
 simp only [e1, k _ _ e1, e3]
def rSortD : List V → Hp → VK → Prop := fun vs H Q => ∃ d kvs M ks, vs = [.ref d] ∧ H d = some (.dT kvs) ∧ kvs.map (·.1) = ks.map kk ∧ (∀ k ∈ ks, 0 ≤ k.2 ∧ k.2 < M) ∧
 ∀ l ts ms, H l = none → PrAt H ts ms → ms.Perm ks → (ms.Pairwise fun a b => M * a.1 + a.2 ≤ M * b.1 + b.2) → Q (.ref l) (upd H l (.lst (ts.map V.ref)))
theorem call_sortedDN (hc : X.calm = true) (hex : X.ex = []) : CallR X (.builtin "sorted") rSortD := by
 intro pins s σ H xs us Q I r h
 obtain ⟨d, kvs, M, ks, rfl, hd, hks, hM, q⟩ := h
 obtain ⟨u, rfl, ru⟩ := vals1 r
 cases ru
 obtain ⟨z, ns, xs, rel, o, es, ep, g1, g2, g3, g4, g5⟩ := (show ObjOk X.prog X.w H s.heap d (.dT kvs) from I.hok d _ hd)
 have hP : PrAt H (xs.map (·.2.1)) ks := pr_of rel hks
 have hkey : es.toList.map (·.key) = (xs.map (·.2.1)).map Value.ref := by
  rw [g4, List.map_map, List.map_map]
  rfl
 have hsz : es.size = xs.length := by rw [← Array.length_toList, g4, List.length_map]
 have hxl : kvs.length = xs.length := rel.length
 generalize xs.map (·.2.1) = as at *
 have hin : ∀ v ∈ es.toList.map (·.key), IsPair s.heap v ∧ pairAt s.heap v ∈ ks := fun v hv => by
  rw [hkey] at hv
  obtain ⟨t, ht, rfl⟩ := List.mem_map.mp hv
  obtain ⟨k, hk, e⟩ := hP.mem ht
  obtain ⟨a1, a2⟩ := pair_here I e
  exact ⟨a1, by rw [a2]; exact hk⟩
 refine sorted_dict (R := fun out => out.Perm (es.toList.map (·.key)) ∧ out.Pairwise fun a b => rk M s.heap a ≤ rk M s.heap b) (I.ok.hd hc) ns ⟨o, g1, g2, g3⟩ (by lia) (fun h2 h' tk keep => ?_) (fun h' tk l out n keep hl e hlen hR hS => ?_)
 ·have hkp : ∀ v ∈ es.toList.map (·.key), IsPair h' v ∧ pairAt h' v = pairAt s.heap v := fun v hv => pairAt_keep (hin v hv).1 keep
  have run : RunsTo X.prog X.w X.A.in1.in1 (es.toList.map (·.key)) { s with heap := h', toks := tk } (fun out => out.Perm (es.toList.map (·.key)) ∧ out.Pairwise fun a b => rk M h' a ≤ rk M h' b) := runs_pairs (prog := X.prog) (w := X.w) (A := X.A.in1.in1) (s := { s with heap := h', toks := tk }) (vs := es.toList.map (·.key)) (M := M) (by simpa using h2) (fun v hv => (hkp v hv).1) (fun v hv => by
   have := hM _ (hin v hv).2
   rw [← (hkp v hv).2] at this
   exact this)
  intro E P hP'
  refine run fun st out c1 c2 c3 c4 => hP' st out c1 c2 c3 ⟨c4.1, ?_⟩
  refine List.Pairwise.imp_of_mem (fun {a b} ha hb hab => ?_) c4.2
  have e1 := (hkp a (c4.1.mem_iff.mp ha)).2
  have e2 := (hkp b (c4.1.mem_iff.mp hb)).2
  unfold rk at hab ⊢
  rw [← e1, ← e2]
  exact hab
 ·have hperm : out.Perm (as.map Value.ref) := by
   rw [← hkey]
   by_cases h2 : 2 ≤ es.size
   ·exact (hR h2).1
   ·rw [hS (by lia)]
  have hsort : out.Pairwise fun a b => rk M s.heap a ≤ rk M s.heap b := by
   by_cases h2 : 2 ≤ es.size
   ·exact (hR h2).2
   ·match out, hlen with
    | [], _ => exact .nil
    | [_], _ => exact List.pairwise_singleton _ _
    | _ :: _ :: _, hl => simp at hl; lia
  have hts : (out.map adOf).Perm as := by
   have := hperm.map adOf
   rw [List.map_map] at this
   have e : as.map (adOf ∘ Value.ref) = as := by
    conv => rhs; rw [← List.map_id as]
    rfl
   rwa [e] at this
  have hout : out = (out.map adOf).map Value.ref := by
   rw [List.map_map]
   conv => lhs; rw [← List.map_id out]
   refine List.map_congr_left fun v hv => ?_
   obtain ⟨t, _, rfl⟩ := List.mem_map.mp (hperm.mem_iff.mp hv)
   rfl
  generalize out.map adOf = ts at hts hout
  subst hout
  have hH : ∀ t ∈ ts, H t = some (.tup [.int (pairAt s.heap (.ref t)).1, .int (pairAt s.heap (.ref t)).2]) := fun t ht => by
   obtain ⟨k, hk, e⟩ := hP.mem (hts.mem_iff.mp ht)
   rw [(pair_here I e).2]
   exact e
  have hP2 : PrAt H ts (ts.map fun t => pairAt s.heap (.ref t)) := by
   clear hperm hsort hts e hlen hR hS
   induction ts with
   | nil => exact .nil
   | cons t ts ih => exact .cons (hH t List.mem_cons_self) (ih fun u hu => hH u (List.mem_cons_of_mem _ hu))
  have hks2 := hP.keys I
  have hmp : (ts.map fun t => pairAt s.heap (.ref t)).Perm ks := by
   have := hts.map fun t => pairAt s.heap (.ref t)
   rwa [hks2] at this
  have hpw : (ts.map fun t => pairAt s.heap (.ref t)).Pairwise fun a b => M * a.1 + a.2 ≤ M * b.1 + b.2 := by
   rw [List.pairwise_map] at hsort ⊢
   exact hsort
  have hHl : H l = none := by
   cases q' : H l with
   | none => rfl
   | some u =>
     obtain ⟨ob, z'⟩ := (I.hok l u q').there
     rw [hl] at z'
     cases z'
  have hs0 : X.s₀.heap.get? l = none := by
   cases z' : X.s₀.heap.get? l with
   | none => rfl
   | some ob =>
     obtain ⟨o', z2⟩ := I.base.there l ob z' (by rw [hex]; simp)
     rw [hl] at z2
     cases z2
  have I1 := I.kept (t' := tk) (h' := h') keep
  have v : Vals (ts.map V.ref) (ts.map Value.ref) := by
   clear hperm hsort hts e hlen hR hS hP2 hH hmp hpw
   induction ts with
   | nil => exact .nil
   | cons t ts ih => exact .cons rfl ih
  have lz : (ts.map V.ref).length ≤ sizeLine := by
   rw [List.length_map] at hlen ⊢
   lia
  refine ⟨.ref l, upd H l (.lst (ts.map V.ref)), I1.trackN hHl (fun z' => ?_) hs0 (fun y c hy z' => ?_) (fun p hp z' => ?_) ⟨lz, ts.map Value.ref, n, v, ?_⟩, rfl, q l ts _ hHl hP2 hmp hpw⟩
  ·obtain ⟨m, hm, _⟩ := I.loc
   obtain ⟨ob, _, _, hb, _⟩ := hm
   rw [← z', hl] at hb
   cases hb
  ·obtain ⟨v', ob, hb, _⟩ := I.cell y c hy
   rw [z', hl] at hb
   cases hb
  ·have := (I.pin p hp).1
   rw [z', hl] at this
   cases this
  ·simpa [seqObj] using e
end
end L2
namespace HT
open PySem PySem.Spec PyProof.Rows
section
open PySem.SeqAt
open PySem.AutoSeq1 (wpAny_loadPart')
open PySem.MeetsSeq PySem.MeetsSeq2 PySem.MeetsSeq3
theorem rcGe_int (A : Around) (s : Shared) (a : Int) (t : Tok) (c : Int) (u : Tok) (prog : Program) (w : World) (E Q : Value → Shared → Prop) (h : Q (.bool (decide (c ≤ a))) s) : wpAny (model prog w) A (richCompare .GtE (.int a t) (.int c u)) Q E s :=
 (PyProof.Rows.ge_int h : wpAny (model prog w) A (compareOp .GtE (.int a t) (.int c u)) Q E s)
theorem tuple_ge_ints (l b : Addr) (xs ys : Array Value) (n n2 : Nat) (dd dd2 : Option Addr) (sl sl2 : Array (Option Value)) (ns ms : List Int) (hi : IntsAre xs.toList ns) (hj : IntsAre ys.toList ms) :
 Meets (Builtin.«tuple.__ge__» ⟨[.ref l, .ref b], []⟩)
  (fun _ R s => s.heap.get? l = some { cls := .type "tuple", dict := dd, data := .seq xs n, slots := sl } ∧ s.heap.get? b = some { cls := .type "tuple", dict := dd2, data := .seq ys n2, slots := sl2 } ∧ R (.ok (.ret (.bool (!lexLt ns ms)))) s) :=
 .of_wp fun prog w A R s h => by
  obtain ⟨hp, g, d, tk, os⟩ := s
  obtain ⟨hl, hb, h⟩ := h
  have f2 := AutoSeq1.sub_tuple_tuple
  have z1 : xs.size = ns.length := by rw [← hi.length]; simp
  have z2 : ys.size = ms.length := by rw [← hj.length]; simp
  wp_walk using wpAny_loadPart' hl, wpAny_loadPart' hb, wpAny_forIn_list _ (fun rest b s' => b.1 = none ∧ s' = ⟨hp, g, d, tk, os⟩ ∧ ∃ (vs us : List Value) (ns' ms' : List Int), rest = vs.zip us ∧ IntsAre vs ns' ∧ IntsAre us ms' ∧ ns'.length + ys.size = ms'.length + xs.size ∧ R (.ok (.ret (.bool (!lexLt ns' ms')))) ⟨hp, g, d, tk, os⟩) _
  case turn =>
   rintro ⟨y, x⟩ rest b s' ⟨hb', rfl, vs, us, ns', ms', hz, hvi, hwi, hlen, hR⟩
   cases hvi with
   | nil => rw [List.zip_nil_left] at hz; cases hz
   | cons a t hv2 =>
     cases hwi with
     | nil => rw [List.zip_nil_right] at hz; cases hz
     | cons c u hw2 =>
       rw [List.zip_cons_cons] at hz
       injection hz with hyx hrest
       injection hyx with hy hx
       subst hy hx
       rw [lexLt_cons] at hR
       simp only [List.length_cons] at hlen
       obtain ⟨e, he, hiff⟩ := eqAt_int A.in1 ⟨hp, g, d, tk, os⟩ a t c u
       refine wpAny_bind (he prog w _ _ ?_)
       cases e with
       | true =>
         rw [if_pos (hiff.mp rfl)] at hR
         wp_walk
         exact ⟨rfl, rfl, _, _, _, _, hrest, hv2, hw2, by lia, hR⟩
       | false =>
         rw [if_neg (fun q => absurd (hiff.mpr q) Bool.false_ne_true)] at hR
         rw [show (!decide (a < c)) = decide (c ≤ a) by rw [Bool.eq_iff_iff]; simp] at hR
         have hri := rcGe_int A.in1 ⟨hp, g, d, tk, os⟩ a t c u prog w
         wp_walk using hri
         exact ⟨_, rfl, by simpa using hR⟩
  case fin =>
   rintro ⟨b1, b2⟩ s' ⟨hb', rfl, vs, us, ns', ms', hz, hvi, hwi, hlen, hR⟩
   simp only at hb'
   subst hb'
   have hv : (!lexLt ns' ms') = decide (xs.size ≥ ys.size) := by
    cases hvi with
    | nil =>
      cases hwi with
      | nil =>
        simp only [List.length_nil] at hlen
        rw [lexLt_nil_nil, decide_eq_true (by lia)]
        rfl
      | cons c u hw =>
        simp only [List.length_nil, List.length_cons] at hlen
        rw [lexLt_nil_cons, decide_eq_false (by lia)]
        rfl
    | cons a t hv =>
      cases hwi with
      | nil =>
        simp only [List.length_nil, List.length_cons] at hlen
        rw [lexLt_cons_nil, decide_eq_true (by lia)]
        rfl
      | cons c u hw =>
        rw [List.zip_cons_cons] at hz
        cases hz
   rw [hv] at hR
   wp_walk
   exact ⟨_, rfl, by simpa [Builtin.Tuple.tupleCompareSizes] using hR⟩
  case h =>
   exact ⟨rfl, rfl, xs.toList, ys.toList, ns, ms, rfl, hi, hj, by lia, h⟩
end
section
variable {prog : Program} {w : World} {A : Around} {E : Value → Shared → Prop} {s : Shared}
theorem ge_tupInts {l b : Addr} {xs ys : Array Value} {ns ms : List Int} {Q : Value → Shared → Prop} (hl : IsTup s.heap l xs) (hb : IsTup s.heap b ys) (hi : IntsAre xs.toList ns) (hj : IntsAre ys.toList ms)
 (hu : A.units < cLine) (h : Q (.bool (!lexLt ns ms)) s) : wpAny (model prog w) A (compareOp .GtE (.ref l) (.ref b)) Q E s := by
 obtain ⟨⟨cls, dd, data, sl⟩, ho, hc, n, hd⟩ := id hl
 obtain ⟨⟨cls2, dd2, data2, sl2⟩, ho2, hc2, n2, hd2⟩ := id hb
 simp only at hc hd hc2 hd2
 subst hc hd hc2 hd2
 exact richCompare_meets_room (op := .GtE) ⟨_, ho, rfl⟩ ⟨_, ho2, rfl⟩ PySem.F.slot_tuple_ge PySem.F.entry_tuple_ge (PySem.F.args_tuple_ge_2 _ _) (tuple_ge_ints l b xs ys n n2 dd dd2 sl sl2 ns ms hi hj)
  ⟨ho, ho2, show Value.bool (!lexLt ns ms) ≠ Value.notImplemented ∧ Q (.bool (!lexLt ns ms)) s from ⟨(fun x => nomatch x), h⟩⟩ hu
end
end HT
namespace L2
open PySem PySem.Spec PyProof.Rows
def rGeT (K : PySem.W.Frag) : R2 := fun x y H Q => ∃ a b ns ms, x = .ref a ∧ y = .ref b ∧ SqT K H a (ns.map V.int) ∧ SqT K H b (ms.map V.int) ∧ Q (.bl (!HT.lexLt ns ms)) H
theorem op_geTK {X : Cx} (K : PySem.W.Frag) (hu : X.A.units + 64 < cLine) (hK : X.K = K := by rfl) : OpR X (compareOp .GtE) (rGeT K) := by
 subst hK
 intro pins s σ H x y v u Q I rx ry h
 obtain ⟨a, b, ns, ms, rfl, rfl, ha, hb, q⟩ := h
 cases rx
 cases ry
 obtain ⟨its, r1, p1, _⟩ := I.tuple ha
 obtain ⟨its2, r2, p2, _⟩ := I.tuple hb
 have i1 : IntsAre its.toArray.toList ns := intsAre_of r1
 have i2 : IntsAre its2.toArray.toList ms := intsAre_of r2
 exact HT.ge_tupInts p1 p2 i1 i2 (by lia) ⟨.bl (!HT.lexLt ns ms), H, I, rfl, q⟩
theorem sl_tupK {X : Cx} (K : PySem.W.Frag) (hK : X.K = K := by rfl) : SlR X (rSlT K) := by subst hK; exact sl_tup
end L2
namespace My
open PySem L2 M
local macro_rules | `(tactic| walk_at "s1") => `(tactic| first
 | with_reducible refine i_var rfl ?_
 | with_reducible refine i_I0 ?_
 | with_reducible refine iteF ?_
 | with_reducible refine iteNT ?_
 | with_reducible refine iteNF ?_
 | with_reducible refine iteT ?_
 | with_reducible refine i_truB ?_
 | with_reducible refine i_addI ?_
 | with_reducible refine i_U ?_
 | with_reducible refine i_isB ?_
 | with_reducible refine i_isNotB ?_
 | with_reducible refine i_eqI ?_
 | with_reducible refine i_neI ?_
 | with_reducible refine i_intB ?_
 | with_reducible refine i_abs ?_
 | with_reducible refine i_isiII ?_
 | with_reducible refine i_isiIB ?_
 | with_reducible refine i_isiIL ?_
 | with_reducible refine i_isiID ?_
 | with_reducible refine i_isiIT ?_
 | with_reducible refine i_isiBB ?_
 | with_reducible refine i_div (by lia) (by lia) ?_
 | with_reducible refine i_mod (by lia) ?_
 | with_reducible refine And.intro (szl (Nat.le_of_ble_eq_true rfl)) ?_
 | with_reducible refine ⟨_, rfl, ?_⟩)
local macro_rules | `(tactic| walk_at "un") => `(tactic| try dsimp only [tSeq, tAsg, gName, tOp, tUn, tTest, tB, tAnd, tOr, tNot, tAndV, tOrV, tNotV, tIf, tIfS, tRet, tRetN, tDrop, tNext, tCons, tNil, tCB, tCall, tMenu, tComp, tDComp, tDGet, tComp2, msk, List.zipWith, tDNewT, tDGet2, sDPut, iZip2, iEnum, tNoIf, tTru, tJoin, cxOf_K, tLst, tTup, tSl, tPart, tNoPart, tBM, tBM0, tChain, tC, tFor_eq, gTup, gCons, gNil, gSub, iList, iRng1, iRng2, iRng3, iTup, tWhile, tRev, tFld, sFld, tMeth, tMethS, tMake, tRaise, tCallS, tTry, tAug, tPar, tNever, ipI, List.append_nil])
local macro_rules | `(tactic| walk_at "s") => `(tactic| (walk_at "un"; repeat walk_at "s1"))
abbrev BdOk (a b : String) (st : Stmt) (ps : List Str) : Prop := ∀ (kV doc pm : Value) (an : Option Addr) (cdv ct : Value) (us : List Value) (hl : us.length = ps.length), bindArgs (PySem.W.fnOf a b (defArgs st) (defBody st) (defScope st) .none kV doc pm an cdv ct) ⟨us, []⟩ = pure (ps.zip us)
theorem len1 {us : List Value} (h : us.length = 1) : ∃ a0 : Value, us = [a0] := by
 rcases us with _ | ⟨a0, us⟩ <;> simp at h
 subst h
 exact ⟨a0, rfl⟩
theorem len2 {us : List Value} (h : us.length = 2) : ∃ a0 a1 : Value, us = [a0, a1] := by
 rcases us with _ | ⟨a0, us⟩ <;> simp at h
 rcases us with _ | ⟨a1, us⟩ <;> simp at h
 subst h
 exact ⟨a0, a1, rfl⟩
theorem len3 {us : List Value} (h : us.length = 3) : ∃ a0 a1 a2 : Value, us = [a0, a1, a2] := by
 rcases us with _ | ⟨a0, us⟩ <;> simp at h
 rcases us with _ | ⟨a1, us⟩ <;> simp at h
 rcases us with _ | ⟨a2, us⟩ <;> simp at h
 subst h
 exact ⟨a0, a1, a2, rfl⟩
local macro_rules | `(tactic| walk_at "c") => `(tactic| exact ⟨rfl, rfl, rfl, by decide +kernel, rfl, by decide +kernel, by decide +kernel⟩)
def top (i : Nat) : Stmt := PySem.Challenge.pw_lugtrain_k23_first_returns_and_weights.main.body.getD i (.Pass ⟨0, 0, 0, 0⟩)
abbrev s_refuse_no_top : Stmt := top 16
theorem sc_refuse_no_top : FnScope ["top"] ["top"] (defScope s_refuse_no_top) := by walk_at "c"
theorem bd_refuse_no_top : BdOk "refuse_no_top" "refuse_no_top" s_refuse_no_top ["top"] := fun _ _ _ _ _ _ us hl => by obtain ⟨a0, rfl⟩ := len1 hl; rfl
abbrev s_refuse_no_place : Stmt := top 17
theorem sc_refuse_no_place : FnScope ["top", "place"] ["top", "place"] (defScope s_refuse_no_place) := by walk_at "c"
theorem bd_refuse_no_place : BdOk "refuse_no_place" "refuse_no_place" s_refuse_no_place ["top", "place"] := fun _ _ _ _ _ _ us hl => by obtain ⟨a0, a1, rfl⟩ := len2 hl; rfl
abbrev s_Switch___init__ : Stmt := inClass (top 18) 0
theorem sc_Switch___init__ : FnScope ["self", "low", "high"] ["self", "low", "high"] (defScope s_Switch___init__) := by walk_at "c"
theorem bd_Switch___init__ : BdOk "__init__" "Switch.__init__" s_Switch___init__ ["self", "low", "high"] := fun _ _ _ _ _ _ us hl => by obtain ⟨a0, a1, a2, rfl⟩ := len3 hl; rfl
abbrev s_Switch_turn : Stmt := inClass (top 18) 1
theorem sc_Switch_turn : FnScope ["self", "place"] ["self", "place"] (defScope s_Switch_turn) := by walk_at "c"
theorem bd_Switch_turn : BdOk "turn" "Switch.turn" s_Switch_turn ["self", "place"] := fun _ _ _ _ _ _ us hl => by obtain ⟨a0, a1, rfl⟩ := len2 hl; rfl
abbrev s_Switch_on : Stmt := inClass (top 18) 2
theorem sc_Switch_on : FnScope ["self"] ["self"] (defScope s_Switch_on) := by walk_at "c"
theorem bd_Switch_on : BdOk "on" "Switch.on" s_Switch_on ["self"] := fun _ _ _ _ _ _ us hl => by obtain ⟨a0, rfl⟩ := len1 hl; rfl
abbrev s_switch_within : Stmt := top 19
theorem sc_switch_within : FnScope ["top", "low", "high"] ["top", "low", "high"] (defScope s_switch_within) := by walk_at "c"
theorem bd_switch_within : BdOk "switch_within" "switch_within" s_switch_within ["top", "low", "high"] := fun _ _ _ _ _ _ us hl => by obtain ⟨a0, a1, a2, rfl⟩ := len3 hl; rfl
abbrev s_Box___init__ : Stmt := inClass (top 20) 0
theorem sc_Box___init__ : FnScope ["self", "top", "switches"] ["self", "top", "switches"] (defScope s_Box___init__) := by walk_at "c"
theorem bd_Box___init__ : BdOk "__init__" "Box.__init__" s_Box___init__ ["self", "top", "switches"] := fun _ _ _ _ _ _ us hl => by obtain ⟨a0, a1, a2, rfl⟩ := len3 hl; rfl
abbrev s_Box_turn : Stmt := inClass (top 20) 1
theorem sc_Box_turn : FnScope ["self", "place", "switch"] ["self", "place"] (defScope s_Box_turn) := by walk_at "c"
theorem bd_Box_turn : BdOk "turn" "Box.turn" s_Box_turn ["self", "place"] := fun _ _ _ _ _ _ us hl => by obtain ⟨a0, a1, rfl⟩ := len2 hl; rfl
abbrev s_Box_answer : Stmt := inClass (top 20) 2
theorem sc_Box_answer : FnScope ["self"] ["self"] (defScope s_Box_answer) := by walk_at "c"
theorem bd_Box_answer : BdOk "answer" "Box.answer" s_Box_answer ["self"] := fun _ _ _ _ _ _ us hl => by obtain ⟨a0, rfl⟩ := len1 hl; rfl
abbrev s_Box_lit : Stmt := inClass (top 20) 3
theorem sc_Box_lit : FnScope ["self"] ["self"] (defScope s_Box_lit) := by walk_at "c"
theorem bd_Box_lit : BdOk "lit" "Box.lit" s_Box_lit ["self"] := fun _ _ _ _ _ _ us hl => by obtain ⟨a0, rfl⟩ := len1 hl; rfl
abbrev s_Box_anew : Stmt := inClass (top 20) 5
theorem sc_Box_anew : FnScope ["self"] ["self"] (defScope s_Box_anew) := by walk_at "c"
theorem bd_Box_anew : BdOk "anew" "Box.anew" s_Box_anew ["self"] := fun _ _ _ _ _ _ us hl => by obtain ⟨a0, rfl⟩ := len1 hl; rfl
abbrev s_first_return : Stmt := top 22
theorem sc_first_return : FnScope ["box", "high", "low"] ["box", "high", "low"] (defScope s_first_return) := by walk_at "c"
theorem bd_first_return : BdOk "first_return" "first_return" s_first_return ["box", "high", "low"] := fun _ _ _ _ _ _ us hl => by obtain ⟨a0, a1, a2, rfl⟩ := len3 hl; rfl
abbrev s_returns_of : Stmt := top 23
theorem sc_returns_of : FnScope ["top", "switches", "box"] ["top", "switches"] (defScope s_returns_of) := by walk_at "c"
theorem bd_returns_of : BdOk "returns_of" "returns_of" s_returns_of ["top", "switches"] := fun _ _ _ _ _ _ us hl => by obtain ⟨a0, a1, rfl⟩ := len2 hl; rfl
abbrev s_is_table : Stmt := top 24
theorem sc_is_table : FnScope ["table"] ["table"] (defScope s_is_table) := by walk_at "c"
theorem bd_is_table : BdOk "is_table" "is_table" s_is_table ["table"] := fun _ _ _ _ _ _ us hl => by obtain ⟨a0, rfl⟩ := len1 hl; rfl
abbrev s_weight_at : Stmt := top 25
theorem sc_weight_at : FnScope ["table", "low", "high", "here", "ahead"] ["table", "low", "high"] (defScope s_weight_at) := by walk_at "c"
theorem bd_weight_at : BdOk "weight_at" "weight_at" s_weight_at ["table", "low", "high"] := fun _ _ _ _ _ _ us hl => by obtain ⟨a0, a1, a2, rfl⟩ := len3 hl; rfl
abbrev s_weights_of : Stmt := top 26
theorem sc_weights_of : FnScope ["table", "top", "switches"] ["table"] (defScope s_weights_of) := by walk_at "c"
theorem bd_weights_of : BdOk "weights_of" "weights_of" s_weights_of ["table"] := fun _ _ _ _ _ _ us hl => by obtain ⟨a0, rfl⟩ := len1 hl; rfl
abbrev s_law_own : Stmt := top 28
theorem sc_law_own : FnScope ["thing", "copy", "name"] ["thing"] (defScope s_law_own) := by walk_at "c"
theorem bd_law_own : BdOk "_law_own" "_law_own" s_law_own ["thing"] := fun _ _ _ _ _ _ us hl => by obtain ⟨a0, rfl⟩ := len1 hl; rfl
abbrev s_law_so_returns_of : Stmt := top 29
theorem sc_law_so_returns_of : FnScope ["a", "b", "own", "found", "good"] ["a", "b"] (defScope s_law_so_returns_of) := by walk_at "c"
theorem bd_law_so_returns_of : BdOk "_law_so_returns_of" "_law_so_returns_of" s_law_so_returns_of ["a", "b"] := fun _ _ _ _ _ _ us hl => by obtain ⟨a0, a1, rfl⟩ := len2 hl; rfl
abbrev s_law_so_weights_of : Stmt := top 30
theorem sc_law_so_weights_of : FnScope ["a", "own", "found", "good"] ["a"] (defScope s_law_so_weights_of) := by walk_at "c"
theorem bd_law_so_weights_of : BdOk "_law_so_weights_of" "_law_so_weights_of" s_law_so_weights_of ["a"] := fun _ _ _ _ _ _ us hl => by obtain ⟨a0, rfl⟩ := len1 hl; rfl
abbrev s_law_cell_at : Stmt := top 31
theorem sc_law_cell_at : FnScope ["script", "k"] ["script", "k"] (defScope s_law_cell_at) := by walk_at "c"
theorem bd_law_cell_at : BdOk "_law_cell_at" "_law_cell_at" s_law_cell_at ["script", "k"] := fun _ _ _ _ _ _ us hl => by obtain ⟨a0, a1, rfl⟩ := len2 hl; rfl
abbrev s_law_draws : Stmt := top 32
theorem sc_law_draws : FnScope ["cell", "many", "base", "found", "rest", "stirred", "k"] ["cell", "many", "base"] (defScope s_law_draws) := by walk_at "c"
theorem bd_law_draws : BdOk "_law_draws" "_law_draws" s_law_draws ["cell", "many", "base"] := fun _ _ _ _ _ _ us hl => by obtain ⟨a0, a1, a2, rfl⟩ := len3 hl; rfl
abbrev s_law_whole : Stmt := top 33
theorem sc_law_whole : FnScope ["found"] ["found"] (defScope s_law_whole) := by walk_at "c"
theorem bd_law_whole : BdOk "_law_whole" "_law_whole" s_law_whole ["found"] := fun _ _ _ _ _ _ us hl => by obtain ⟨a0, rfl⟩ := len1 hl; rfl
abbrev s_law_places : Stmt := top 34
theorem sc_law_places : FnScope ["found", "many"] ["found", "many"] (defScope s_law_places) := by walk_at "c"
theorem bd_law_places : BdOk "_law_places" "_law_places" s_law_places ["found", "many"] := fun _ _ _ _ _ _ us hl => by obtain ⟨a0, a1, rfl⟩ := len2 hl; rfl
abbrev s_law_box : Stmt := top 35
theorem sc_law_box : FnScope ["script", "at", "heads", "top", "many", "found", "pick", "low", "high"] ["script", "at"] (defScope s_law_box) := by walk_at "c"
theorem bd_law_box : BdOk "_law_box" "_law_box" s_law_box ["script", "at"] := fun _ _ _ _ _ _ us hl => by obtain ⟨a0, a1, rfl⟩ := len2 hl; rfl
abbrev s_law_returns : Stmt := top 36
theorem sc_law_returns : FnScope ["top", "switches", "found", "high", "row", "low"] ["top", "switches"] (defScope s_law_returns) := by walk_at "c"
theorem bd_law_returns : BdOk "_law_returns" "_law_returns" s_law_returns ["top", "switches"] := fun _ _ _ _ _ _ us hl => by obtain ⟨a0, a1, rfl⟩ := len2 hl; rfl
abbrev s_law_merged : Stmt := top 37
theorem sc_law_merged : FnScope ["switches", "sums", "low", "high", "weight"] ["switches"] (defScope s_law_merged) := by walk_at "c"
theorem bd_law_merged : BdOk "_law_merged" "_law_merged" s_law_merged ["switches"] := fun _ _ _ _ _ _ us hl => by obtain ⟨a0, rfl⟩ := len1 hl; rfl
abbrev s_law_a_kin : Stmt := top 38
theorem sc_law_a_kin : FnScope ["e", "kin"] ["e"] (defScope s_law_a_kin) := by walk_at "c"
theorem bd_law_a_kin : BdOk "_law_a_kin" "_law_a_kin" s_law_a_kin ["e"] := fun _ _ _ _ _ _ us hl => by obtain ⟨a0, rfl⟩ := len1 hl; rfl
abbrev s_law_due_kin : Stmt := top 39
theorem sc_law_due_kin : FnScope ["name", "names"] ["name"] (defScope s_law_due_kin) := by walk_at "c"
theorem bd_law_due_kin : BdOk "_law_due_kin" "_law_due_kin" s_law_due_kin ["name"] := fun _ _ _ _ _ _ us hl => by obtain ⟨a0, rfl⟩ := len1 hl; rfl
abbrev s_law_a_table : Stmt := top 40
theorem sc_law_a_table : FnScope ["script", "picks", "top", "scale", "table", "high", "form", "at"] ["script"] (defScope s_law_a_table) := by walk_at "c"
theorem bd_law_a_table : BdOk "_law_a_table" "_law_a_table" s_law_a_table ["script"] := fun _ _ _ _ _ _ us hl => by obtain ⟨a0, rfl⟩ := len1 hl; rfl
abbrev s_law_good : Stmt := top 41
theorem sc_law_good : FnScope ["table", "k"] ["table"] (defScope s_law_good) := by walk_at "c"
theorem bd_law_good : BdOk "_law_good" "_law_good" s_law_good ["table"] := fun _ _ _ _ _ _ us hl => by obtain ⟨a0, rfl⟩ := len1 hl; rfl
abbrev s_law_a_told : Stmt := top 42
theorem sc_law_a_told : FnScope ["table", "found", "kin", "e"] ["table"] (defScope s_law_a_told) := by walk_at "c"
theorem bd_law_a_told : BdOk "_law_a_told" "_law_a_told" s_law_a_told ["table"] := fun _ _ _ _ _ _ us hl => by obtain ⟨a0, rfl⟩ := len1 hl; rfl
abbrev s_law_sorted_right : Stmt := top 43
theorem sc_law_sorted_right : FnScope ["found", "top", "k", "one"] ["found", "top"] (defScope s_law_sorted_right) := by walk_at "c"
theorem bd_law_sorted_right : BdOk "_law_sorted_right" "_law_sorted_right" s_law_sorted_right ["found", "top"] := fun _ _ _ _ _ _ us hl => by obtain ⟨a0, a1, rfl⟩ := len2 hl; rfl
abbrev s_law : Stmt := top 44
theorem sc_law : FnScope ["script", "top", "switches", "handed", "found", "told", "table", "kept", "kin"] ["script"] (defScope s_law) := by walk_at "c"
structure Txt (mg : Str → Option Value) : Prop where
 z_ValueError : mg "ValueError" = none
 z_all : mg "all" = none
 z_bool : mg "bool" = none
 z_dict : mg "dict" = none
 z_enumerate : mg "enumerate" = none
 z_int : mg "int" = none
 z_isinstance : mg "isinstance" = none
 z_len : mg "len" = none
 z_list : mg "list" = none
 z_min : mg "min" = none
 z_range : mg "range" = none
 z_sorted : mg "sorted" = none
 z_str : mg "str" = none
 z_sum : mg "sum" = none
 z_tuple : mg "tuple" = none
 g_MOST_TOP : ∃ t, mg "MOST_TOP" = some (.int 16 t)
structure Cls (K : PySem.W.Frag) (mg : Str → Option Value) where
 c_TrainError : Addr
 c_NoTrain : Addr
 c_NoStand : Addr
 c_NoPaper : Addr
 c_NoBox : Addr
 c_NoSwitch : Addr
 c_NoPlace : Addr
 c_NoTable : Addr
 c_NoText : Addr
 c_NoRow : Addr
 c_NoPiece : Addr
 c_NothingLeft : Addr
 c_TooMany : Addr
 m_TrainError : mg "TrainError" = some (.ref c_TrainError)
 m_NoTrain : mg "NoTrain" = some (.ref c_NoTrain)
 m_NoStand : mg "NoStand" = some (.ref c_NoStand)
 m_NoPaper : mg "NoPaper" = some (.ref c_NoPaper)
 m_NoBox : mg "NoBox" = some (.ref c_NoBox)
 m_NoSwitch : mg "NoSwitch" = some (.ref c_NoSwitch)
 m_NoPlace : mg "NoPlace" = some (.ref c_NoPlace)
 m_NoTable : mg "NoTable" = some (.ref c_NoTable)
 m_NoText : mg "NoText" = some (.ref c_NoText)
 m_NoRow : mg "NoRow" = some (.ref c_NoRow)
 m_NoPiece : mg "NoPiece" = some (.ref c_NoPiece)
 m_NothingLeft : mg "NothingLeft" = some (.ref c_NothingLeft)
 m_TooMany : mg "TooMany" = some (.ref c_TooMany)
 x_NoTable : PySem.W.excIn K c_NoTable [.type "ValueError", .type "Exception", .type "BaseException", .type "object"] "ValueError.__new__" = true
 e_NoTable : PySem.W.exmOne K (.ref c_NoTable) (.ref c_TrainError) = some true
 i_NoTable_ga : PySem.W.findIn K (.ref c_NoTable) "__getattribute__" = some (some (.builtin "BaseException.__getattribute__"))
 i_NoTable_gt : PySem.W.findIn K (.ref c_NoTable) "__getattr__" = some none
 i_NoTable_mb : PySem.W.mroIn K c_NoTable (.type "BaseException") = some true
 i_NoTable_hd : PySem.W.hasDictIn K c_NoTable = true
 i_NoTable_ca : PySem.W.findIn K (.ref c_NoTable) "__class__" = some (some (.builtin "object.__class__"))
 i_NoTable_sp : PySem.W.specialIn K (.builtin "object.__class__") "__get__" = some (some (.builtin "getset_descriptor.__get__"))
 i_NoTable_tk : PySem.W.takesIn K (.builtin "object.__class__") = some true
 i_NoTable_mr : PySem.W.mroIn K c_NoTable (.type "object") = some true
 k_NoTable_NoTrain : PySem.W.kitOne K (.ref c_NoTable) (.ref c_NoTrain) = some false
 k_NoTable_NoStand : PySem.W.kitOne K (.ref c_NoTable) (.ref c_NoStand) = some false
 k_NoTable_NoPaper : PySem.W.kitOne K (.ref c_NoTable) (.ref c_NoPaper) = some false
 k_NoTable_NoBox : PySem.W.kitOne K (.ref c_NoTable) (.ref c_NoBox) = some false
 k_NoTable_NoSwitch : PySem.W.kitOne K (.ref c_NoTable) (.ref c_NoSwitch) = some false
 k_NoTable_NoPlace : PySem.W.kitOne K (.ref c_NoTable) (.ref c_NoPlace) = some false
 k_NoTable_NoTable : PySem.W.kitOne K (.ref c_NoTable) (.ref c_NoTable) = some true
 k_NoTable_NoText : PySem.W.kitOne K (.ref c_NoTable) (.ref c_NoText) = some false
 k_NoTable_NoRow : PySem.W.kitOne K (.ref c_NoTable) (.ref c_NoRow) = some false
 k_NoTable_NoPiece : PySem.W.kitOne K (.ref c_NoTable) (.ref c_NoPiece) = some false
 k_NoTable_NothingLeft : PySem.W.kitOne K (.ref c_NoTable) (.ref c_NothingLeft) = some false
 k_NoTable_TooMany : PySem.W.kitOne K (.ref c_NoTable) (.ref c_TooMany) = some false
 k_NoTable_ValueError : PySem.W.kitOne K (.ref c_NoTable) (.type "ValueError") = some true
theorem Cls.exc_NoTable {K : PySem.W.Frag} {mg : Str → Option Value} (Z : Cls K mg) : ExcCls K mg "NoTable" Z.c_NoTable [.type "ValueError", .type "Exception", .type "BaseException", .type "object"] "ValueError.__new__" := ⟨Z.m_NoTable, Z.x_NoTable⟩
theorem Cls.isi_NoTable {K : PySem.W.Frag} {mg : Str → Option Value} (Z : Cls K mg) : IsiCls K Z.c_NoTable := ⟨Z.i_NoTable_ga, Z.i_NoTable_gt, Z.i_NoTable_mb, Z.i_NoTable_hd, Z.i_NoTable_ca, Z.i_NoTable_sp, Z.i_NoTable_tk, Z.i_NoTable_mr⟩
structure Own (K : PySem.W.Frag) (mg : Str → Option Value) where
 c_Switch : Addr
 c_Box : Addr
 m_Switch : mg "Switch" = some (.ref c_Switch)
 m_Box : mg "Box" = some (.ref c_Box)
 pg_Switch : PySem.W.plainGet K c_Switch Str.empty = true
 hd_Switch : PySem.W.hasDictIn K c_Switch = true
 po_Switch : PySem.W.plainOver K c_Switch = true
 sa_Switch : PySem.W.findIn K (.ref c_Switch) "__setattr__" = some (some (.builtin "object.__setattr__"))
 mk_Switch : PySem.W.makesIn K c_Switch = true
 kc_Switch : PySem.W.keepIn K (.ref c_Switch) = true
 na_Switch_low : PySem.W.findIn K (.ref c_Switch) "low" = some none
 na_Switch_high : PySem.W.findIn K (.ref c_Switch) "high" = some none
 na_Switch_is_on : PySem.W.findIn K (.ref c_Switch) "is_on" = some none
 pg_Box : PySem.W.plainGet K c_Box Str.empty = true
 hd_Box : PySem.W.hasDictIn K c_Box = true
 po_Box : PySem.W.plainOver K c_Box = true
 sa_Box : PySem.W.findIn K (.ref c_Box) "__setattr__" = some (some (.builtin "object.__setattr__"))
 mk_Box : PySem.W.makesIn K c_Box = true
 kc_Box : PySem.W.keepIn K (.ref c_Box) = true
 na_Box_top : PySem.W.findIn K (.ref c_Box) "top" = some none
 na_Box_switches : PySem.W.findIn K (.ref c_Box) "switches" = some none
 na_Box_weights : PySem.W.findIn K (.ref c_Box) "weights" = some none
 na_Box_at : PySem.W.findIn K (.ref c_Box) "at" = some none
theorem Own.cl_Switch {K : PySem.W.Frag} {mg : Str → Option Value} (Y : Own K mg) : L2.Cls K Y.c_Switch := ⟨Y.pg_Switch, Y.hd_Switch, Y.po_Switch, Y.sa_Switch⟩
theorem Own.cl_Box {K : PySem.W.Frag} {mg : Str → Option Value} (Y : Own K mg) : L2.Cls K Y.c_Box := ⟨Y.pg_Box, Y.hd_Box, Y.po_Box, Y.sa_Box⟩
section
variable {P : Program} {w : World} {K : PySem.W.Frag} {mg : Str → Option Value} {base : Heap}
structure NewI (H H' : Hp) (l : Addr) (xs : List Int) : Prop where
 fr : H l = none
 sm : Same H H'
 at_ : H' l = some (.lst (iL xs))
theorem NewI.app {H H' : Hp} {l : Addr} {xs : List Int} {x : Int} (N : NewI H H' l xs) : NewI H (upd H' l (.lst (iL xs ++ [V.int x]))) l (xs ++ [x]) :=
 ⟨N.fr, fun b o e => by rw [upd_ne (ne_of_none e N.fr)]; exact N.sm b o e, by rw [upd_same]; simp [iL]⟩
def spLaw (K : PySem.W.Frag) : Sp := fun vs H Q _ => ∃ (a : Addr) (ns : List Int), vs = [.ref a] ∧ SqL K H a (ns.map V.int) ∧ ns.length ≤ 63 ∧ ∀ H', Q (.bl true) H'
theorem calm_of {x : Str} {k : Nat} {spE sp : Sp} (C : CalleeE P w K mg base x k spE) (h : ∀ vs H Q E, sp vs H Q E → spE vs H Q (fun _ _ _ => False)) : Callee P w K mg base x k sp := by
 obtain ⟨f, fd, ps, F, r⟩ := C
 refine ⟨f, fd, ps, ⟨fun vs H Q E hs => F.len vs H Q _ (h vs H Q E hs), fun A outer s H args us vs Q E hr he hb hv hs => codeAny_mono (F.run A outer s H args us vs Q _ hr he hb hv (h vs H Q E hs)) fun r s' z => ?_⟩, r⟩
 cases r with
 | ok x => cases x <;> exact z
 | error e =>
   obtain ⟨_, _, _, _, _, _, _, _, _, _, _, _, q⟩ := z
   exact q.elim
theorem putF_le (f : Str) (v : V) : ∀ fs : List (Str × V), (putF f v fs).length ≤ fs.length + 1
 | [] => by simp [putF]
 | (g, x) :: r => by
   unfold putF
   split
   ·simp
   ·have := putF_le f v r
    simp
    lia
theorem putF_put (f : Str) (v u : V) : ∀ fs : List (Str × V), putF f v (putF f u fs) = putF f v fs
 | [] => by simp [putF]
 | (g, x) :: r => by
   by_cases h : g = f
   ·simp [putF, h]
   ·simp [putF, h, putF_put f v u r]
def sfl (lo hi : Int) (on : Bool) : List (Str × V) := putF "is_on" (.bl on) (putF "high" (.int hi) (putF "low" (.int lo) []))
theorem sfl_on (lo hi : Int) (on : Bool) : (sfl lo hi on).lookup ("is_on" : Str) = some (.bl on) := by unfold sfl; rw [lookup_putF, if_pos rfl]
theorem sfl_high (lo hi : Int) (on : Bool) : (sfl lo hi on).lookup ("high" : Str) = some (.int hi) := by unfold sfl; rw [lookup_putF, if_neg (by decide +kernel), lookup_putF, if_pos rfl]
theorem sfl_low (lo hi : Int) (on : Bool) : (sfl lo hi on).lookup ("low" : Str) = some (.int lo) := by unfold sfl; rw [lookup_putF, if_neg (by decide +kernel), lookup_putF, if_neg (by decide +kernel), lookup_putF, if_pos rfl]
theorem sfl_no (lo hi : Int) (on : Bool) {m : Str} (h1 : ¬ m = "is_on") (h2 : ¬ m = "high") (h3 : ¬ m = "low") : (sfl lo hi on).lookup m = none := by
 unfold sfl
 rw [lookup_putF, if_neg h1, lookup_putF, if_neg h2, lookup_putF, if_neg h3]
 rfl
theorem sfl_len (lo hi : Int) (on : Bool) : (sfl lo hi on).length < 1000 := by
 unfold sfl
 have a := putF_le "is_on" (.bl on) (putF "high" (.int hi) (putF "low" (.int lo) []))
 have b := putF_le "high" (.int hi) (putF "low" (.int lo) [])
 have c := putF_le "low" (.int lo) ([] : List (Str × V))
 simp at c
 lia
theorem sfl_put (lo hi : Int) (on b : Bool) : putF "is_on" (.bl b) (sfl lo hi on) = sfl lo hi b := putF_put _ _ _ _
def SwAt (C : Addr) (H : Hp) (q : Addr) (s : Int × Int × Bool) : Prop := ∃ dx, H q = some (.ins C dx (sfl s.1 s.2.1 s.2.2))
theorem upd_upd {H : Hp} {p : Addr} {a b : HO} : upd (upd H p a) p b = upd H p b := by
 funext q
 by_cases h : q = p
 ·subst h; rw [upd_same, upd_same]
 ·rw [upd_ne h, upd_ne h, upd_ne h]
def spSwInit (C : Addr) : Sp := fun vs H Q _ => ∃ (p dx : Addr) (lo hi : Int), vs = [.ref p, .int lo, .int hi] ∧ H p = some (.ins C dx []) ∧ 0 ≤ lo ∧ lo < hi ∧ Q .non (upd H p (.ins C dx (sfl lo hi false)))
theorem ok_Switch___init__ (T : Txt mg) (Y : Own K mg) (D : DefM K Y.c_Switch "__init__" "Switch.__init__" s_Switch___init__) : CalleeM CX0 P w K mg base Y.c_Switch "__init__" 1 (spSwInit Y.c_Switch) := by
 refine DefM.ok D sc_Switch___init__ bd_Switch___init__ (fun vs H Q E h => ?len) (fun f cdv A outer s H vs Q E hr h => ?body)
 case len => obtain ⟨p, dx, lo, hi, rfl, _⟩ := h; rfl
 case body =>
  obtain ⟨p, dx, lo, hi, rfl, hp, h0, h1, k⟩ := h
  have hu := hr.units
  refine ⟨_, (pss_cons (ps_if (PW.pt (pw_or (pt_cmpR op_lt (pv 1) pe_int (nomark _)) (pw_or1 (pt_cmpR op_le (pv 2) (pv 1) (nomark _)))))
 (pss_one ps_never)
 pss_nil)
 (pss_cons (ps_fldK K (pv 0) (pv 1) rfl)
 (pss_cons (ps_fldK K (pv 0) (pv 2) rfl)
 (pss_one (ps_fldK K (pv 0) pe_bl rfl))))), ?_⟩
  walk_at "un"
  try clear hu
  walk_at "s"
  walk_at "z33"
  walk_at "s"
  walk_at "z33"
  walk_at "s"
  refine ⟨p, _, dx, _, rfl, hp, Y.cl_Switch, Y.na_Switch_low, by simp, ?_⟩
  walk_at "s"
  refine ⟨p, _, dx, _, rfl, upd_same, Y.cl_Switch, Y.na_Switch_high, by have := putF_le "low" (.int lo) ([] : List (Str × V)); simp at this; lia, ?_⟩
  walk_at "s"
  refine ⟨p, _, dx, _, rfl, upd_same, Y.cl_Switch, Y.na_Switch_is_on, by have := putF_le "low" (.int lo) ([] : List (Str × V)); have h2 := putF_le "high" (.int hi) (putF "low" (.int lo) []); simp at this; lia, ?_⟩
  rw [upd_upd, upd_upd]
  exact k
def stp (c : Int) (s : Int × Int × Bool) : Int × Int × Bool := (s.1, s.2.1, if s.2.1 ≤ c then true else if c ≤ s.1 then false else s.2.2)
def But (q : Addr) (H H' : Hp) : Prop := ∀ b o, H b = some o → b ≠ q → H' b = some o
def spSwTurn (C : Addr) : Sp := fun vs H Q _ => ∃ (q : Addr) (c : Int) (s : Int × Int × Bool), vs = [.ref q, .int c] ∧ SwAt C H q s ∧ ∀ H', SwAt C H' q (stp c s) → But q H H' → Q .non H'
theorem ok_Switch_turn (T : Txt mg) (Y : Own K mg) (D : DefM K Y.c_Switch "turn" "Switch.turn" s_Switch_turn) : CalleeM CX0 P w K mg base Y.c_Switch "turn" 1 (spSwTurn Y.c_Switch) := by
 refine DefM.ok D sc_Switch_turn bd_Switch_turn (fun vs H Q E h => ?len) (fun f cdv A outer s H vs Q E hr h => ?body)
 case len => obtain ⟨q, c, s, rfl, _⟩ := h; rfl
 case body =>
  obtain ⟨q, c, ⟨lo, hi, on⟩, rfl, ⟨dx, hq⟩, k⟩ := h
  refine ⟨_, (pss_one (ps_if (pt_cmpR op_ge (pv 1) (pe_fldK K (pv 0) (by rfl)) (nomark _))
 (pss_one (ps_fldK K (pv 0) pe_bl rfl))
 (pss_one (ps_if (pt_cmpR op_le (pv 1) (pe_fldK K (pv 0) (by rfl)) (nomark _))
 (pss_one (ps_fldK K (pv 0) pe_bl rfl))
 pss_nil)))), ?_⟩
  walk_at "un"
  try clear hu
  simp only at hq
  walk_at "s"
  refine ⟨q, _, dx, _, _, rfl, hq, Y.cl_Switch, Y.na_Switch_high, sfl_high _ _ _, ?_⟩
  walk_at "s"
  refine i_if (fun g => ?_) (fun g => ?_)
  ·walk_at "s"
   refine ⟨q, _, dx, _, rfl, hq, Y.cl_Switch, Y.na_Switch_is_on, sfl_len _ _ _, ?_⟩
   rw [sfl_put]
   refine k _ ⟨dx, ?_⟩ (fun b o e n => by rw [upd_ne n]; exact e)
   rw [upd_same]
   simp only [stp]
   rw [if_pos g]
  ·walk_at "s"
   refine ⟨q, _, dx, _, _, rfl, hq, Y.cl_Switch, Y.na_Switch_low, sfl_low _ _ _, ?_⟩
   walk_at "s"
   refine i_if (fun g2 => ?_) (fun g2 => ?_)
   ·walk_at "s"
    refine ⟨q, _, dx, _, rfl, hq, Y.cl_Switch, Y.na_Switch_is_on, sfl_len _ _ _, ?_⟩
    rw [sfl_put]
    refine k _ ⟨dx, ?_⟩ (fun b o e n => by rw [upd_ne n]; exact e)
    rw [upd_same]
    simp only [stp]
    rw [if_neg g, if_pos g2]
   ·refine k _ ⟨dx, ?_⟩ (fun b o e n => e)
    rw [hq]
    simp only [stp]
    rw [if_neg g, if_neg g2]
def spSwOn (C : Addr) : Sp := fun vs H Q _ => ∃ (q : Addr) (s : Int × Int × Bool), vs = [.ref q] ∧ SwAt C H q s ∧ Q (.bl s.2.2) H
theorem ok_Switch_on (T : Txt mg) (Y : Own K mg) (D : DefM K Y.c_Switch "on" "Switch.on" s_Switch_on) : CalleeM CX0 P w K mg base Y.c_Switch "on" 1 (spSwOn Y.c_Switch) := by
 refine DefM.ok D sc_Switch_on bd_Switch_on (fun vs H Q E h => ?len) (fun f cdv A outer s H vs Q E hr h => ?body)
 case len => obtain ⟨q, s, rfl, _⟩ := h; rfl
 case body =>
  obtain ⟨q, ⟨lo, hi, on⟩, rfl, ⟨dx, hq⟩, k⟩ := h
  refine ⟨_, (pss_one (ps_ret (pe_fldK K (pv 0) (by rfl)))), ?_⟩
  walk_at "un"
  try clear hu
  simp only at hq
  walk_at "s"
  exact ⟨q, _, dx, _, _, rfl, hq, Y.cl_Switch, Y.na_Switch_is_on, sfl_on _ _ _, k⟩
def spWithin (C : Addr) : Sp := fun vs H Q _ => ∃ (top lo hi : Int), vs = [.int top, .int lo, .int hi] ∧ 0 ≤ lo ∧ lo < hi ∧ hi ≤ top ∧ ∀ q H', H q = none → Same H H' → SwAt C H' q (lo, hi, false) → Q (.ref q) H'
theorem ok_switch_within (T : Txt mg) (Y : Own K mg) (D : Def K mg "switch_within" s_switch_within) (C_Switch : CalleeC CX0 P w K mg base Y.c_Switch "Switch" 1 (spSwInit Y.c_Switch)) : Callee P w K mg base "switch_within" 3 (spWithin Y.c_Switch) := by
 refine D.ok sc_switch_within bd_switch_within (fun vs H Q E h => ?len) (fun f cdv A outer s H vs Q E hr h => ?body)
 case len => obtain ⟨top, lo, hi, rfl, _⟩ := h; rfl
 case body =>
  obtain ⟨top, lo, hi, rfl, h0, h1, h2, k⟩ := h
  refine ⟨_, (pss_cons (ps_if (pt_cmpR op_gt (pv 2) (pv 0) (nomark _))
 (pss_one ps_never)
 pss_nil)
 (pss_one (ps_ret (pe_makeN C_Switch (hr.mono (by decide)) (by rfl) (pa_cons (pv 1) (pa_cons (pv 2) pa_nil)))))), ?_⟩
  walk_at "un"
  try clear hu
  walk_at "s"
  walk_at "z33"
  walk_at "s"
  intro x dx nx ndx nex
  refine ⟨x, dx, lo, hi, rfl, upd_same, h0, h1, rfl, ?_⟩
  rw [upd_upd]
  have s1 : Same H (upd H dx (.own x)) := same_upd ndx
  have nx1 : upd H dx (.own x) x = none := by rw [upd_ne (Ne.symm nex)]; exact nx
  exact k x _ nx (s1.trans (same_upd nx1)) ⟨dx, upd_same⟩
abbrev Sw := Int × Int × Int
def SwT (H : Hp) (ts : List Addr) (sws : List Sw) : Prop := Paired (fun t (s : Sw) => H t = some (.tup [.int s.1, .int s.2.1, .int s.2.2])) ts sws
theorem SwT.more {H H' : Hp} {ts : List Addr} {sws : List Sw} (h : SwT H ts sws) (s : Same H H') : SwT H' ts sws := Paired.mapP h fun _ _ e => s _ _ e
def bfl (top : Int) (ls lw : Addr) (at_ : Int) : List (Str × V) := putF "at" (.int at_) (putF "weights" (.ref lw) (putF "switches" (.ref ls) (putF "top" (.int top) [])))
theorem bfl_weights (top : Int) (ls lw : Addr) (at_ : Int) : (bfl top ls lw at_).lookup ("weights" : Str) = some (.ref lw) := by unfold bfl; rw [lookup_putF, if_neg (by decide +kernel), lookup_putF, if_pos rfl]
theorem bfl_switches (top : Int) (ls lw : Addr) (at_ : Int) : (bfl top ls lw at_).lookup ("switches" : Str) = some (.ref ls) := by unfold bfl; rw [lookup_putF, if_neg (by decide +kernel), lookup_putF, if_neg (by decide +kernel), lookup_putF, if_pos rfl]
theorem bfl_top (top : Int) (ls lw : Addr) (at_ : Int) : (bfl top ls lw at_).lookup ("top" : Str) = some (.int top) := by unfold bfl; rw [lookup_putF, if_neg (by decide +kernel), lookup_putF, if_neg (by decide +kernel), lookup_putF, if_neg (by decide +kernel), lookup_putF, if_pos rfl]
theorem bfl_no (top : Int) (ls lw : Addr) (at_ : Int) {m : Str} (h1 : ¬ m = "at") (h2 : ¬ m = "weights") (h3 : ¬ m = "switches") (h4 : ¬ m = "top") : (bfl top ls lw at_).lookup m = none := by
 unfold bfl
 rw [lookup_putF, if_neg h1, lookup_putF, if_neg h2, lookup_putF, if_neg h3, lookup_putF, if_neg h4]
 rfl
theorem bfl_len (top : Int) (ls lw : Addr) (at_ : Int) : (bfl top ls lw at_).length < 1000 := by
 unfold bfl
 have a := putF_le "at" (.int at_) (putF "weights" (.ref lw) (putF "switches" (.ref ls) (putF "top" (.int top) [])))
 have b := putF_le "weights" (.ref lw) (putF "switches" (.ref ls) (putF "top" (.int top) []))
 have c := putF_le "switches" (.ref ls) (putF "top" (.int top) [])
 have d := putF_le "top" (.int top) ([] : List (Str × V))
 simp at d
 lia
theorem bfl_put (top : Int) (ls lw : Addr) (at_ a2 : Int) : putF "at" (.int a2) (bfl top ls lw at_) = bfl top ls lw a2 := putF_put _ _ _ _
structure BoxAt (CB CS : Addr) (H : Hp) (p : Addr) (top : Int) (ls lw : Addr) (qs : List Addr) (ws : List Int) (at_ : Int) (st : List (Int × Int × Bool)) : Prop where
 ob : ∃ dx, H p = some (.ins CB dx (bfl top ls lw at_))
 sl : H ls = some (.lst (qs.map V.ref))
 wl : H lw = some (.lst (iL ws))
 it : Paired (SwAt CS H) qs st
 nd : qs.Nodup
theorem BoxAt.more {CB CS : Addr} {H H' : Hp} {p : Addr} {top : Int} {ls lw : Addr} {qs : List Addr} {ws : List Int} {at_ : Int} {st : List (Int × Int × Bool)} (B : BoxAt CB CS H p top ls lw qs ws at_ st) (s : Same H H') : BoxAt CB CS H' p top ls lw qs ws at_ st :=
 ⟨B.ob.elim fun dx e => ⟨dx, s _ _ e⟩, s _ _ B.sl, s _ _ B.wl, Paired.mapP B.it fun _ _ ⟨dx, e⟩ => ⟨dx, s _ _ e⟩, B.nd⟩
def spRefTop : Sp := fun vs H Q _ => ∃ top : Int, vs = [.int top] ∧ 1 ≤ top ∧ top ≤ 16 ∧ Q .non H
theorem ok_refuse_no_top (T : Txt mg) (D : Def K mg "refuse_no_top" s_refuse_no_top) : Callee P w K mg base "refuse_no_top" 1 spRefTop := by
 refine D.ok sc_refuse_no_top bd_refuse_no_top (fun vs H Q E h => ?len) (fun f cdv A outer s H vs Q E hr h => ?body)
 case len => obtain ⟨top, rfl, _⟩ := h; rfl
 case body =>
  obtain ⟨top, rfl, h1, h2, k⟩ := h
  refine ⟨_, (pss_one (ps_if (pt_not (pt_chain op_le op_le pe_int (pv 0) (pe_globI T.g_MOST_TOP (by rfl))))
 (pss_one ps_never)
 pss_nil)), ?_⟩
  walk_at "un"
  try clear hu
  walk_at "s"
  refine i_if (fun _ => ?_) (fun g => absurd h1 g)
  walk_at "s"
  first | exact k | (refine i_ifn (fun g => absurd h2 g) (fun _ => ?_); walk_at "s"; exact k) | (refine i_if (fun _ => ?_) (fun g => absurd h2 g); walk_at "s"; exact k)
def spRefPlace : Sp := fun vs H Q _ => ∃ top c : Int, vs = [.int top, .int c] ∧ 0 ≤ c ∧ c ≤ top ∧ Q .non H
theorem ok_refuse_no_place (T : Txt mg) (D : Def K mg "refuse_no_place" s_refuse_no_place) : Callee P w K mg base "refuse_no_place" 1 spRefPlace := by
 refine D.ok sc_refuse_no_place bd_refuse_no_place (fun vs H Q E h => ?len) (fun f cdv A outer s H vs Q E hr h => ?body)
 case len => obtain ⟨top, c, rfl, _⟩ := h; rfl
 case body =>
  obtain ⟨top, c, rfl, h1, h2, k⟩ := h
  refine ⟨_, (pss_one (ps_if (pt_not (pt_chain op_le op_le pe_int (pv 1) (pv 0)))
 (pss_one ps_never)
 pss_nil)), ?_⟩
  walk_at "un"
  try clear hu
  walk_at "s"
  refine i_if (fun _ => ?_) (fun g => absurd h1 g)
  walk_at "s"
  first | exact k | (refine i_ifn (fun g => absurd h2 g) (fun _ => ?_); walk_at "s"; exact k) | (refine i_if (fun _ => ?_) (fun g => absurd h2 g); walk_at "s"; exact k)
def spBoxInit (CB CS : Addr) : Sp := fun vs H Q _ => ∃ (p dx a : Addr) (ts : List Addr) (sws : List Sw) (top : Int), vs = [.ref p, .int top, .ref a] ∧ H p = some (.ins CB dx []) ∧ H a = some (.lst (ts.map V.ref)) ∧ SwT H ts sws ∧ sws.length ≤ 1000 ∧ 1 ≤ top ∧ top ≤ 16 ∧ (∀ s ∈ sws, 0 ≤ s.1 ∧ s.1 < s.2.1 ∧ s.2.1 ≤ top) ∧
 ∀ H' ls lw qs, BoxAt CB CS H' p top ls lw qs (sws.map (·.2.2)) 0 (sws.map fun s => (s.1, s.2.1, false)) → H ls = none → H lw = none → (∀ q ∈ qs, H q = none) → But p H H' → Q .non H'
theorem swt_get {H : Hp} {ts : List Addr} {sws : List Sw} (h : SwT H ts sws) {i : Nat} {t : Addr} (e : ts[i]? = some t) : ∃ s, sws[i]? = some s ∧ H t = some (.tup [.int s.1, .int s.2.1, .int s.2.2]) := by
 have go : ∀ {as : List Addr} {bs : List Sw} {i : Nat} {a : Addr}, Paired (fun t (s : Sw) => H t = some (.tup [.int s.1, .int s.2.1, .int s.2.2])) as bs → as[i]? = some a → ∃ b, bs[i]? = some b ∧ H a = some (.tup [.int b.1, .int b.2.1, .int b.2.2]) := by
  intro as bs i a p
  induction p generalizing i with
  | nil => intro z; simp at z
  | cons r _ ih =>
    intro z
    cases i with
    | zero => simp at z; subst z; exact ⟨_, rfl, r⟩
    | succ i => exact ih (i := i) (by simpa using z)
 exact go h e
theorem paired_all {α β : Type} {F : α → β → Prop} : ∀ {as : List α} {bs : List β} {a : α}, Paired F as bs → a ∈ as → ∃ b, F a b
 | _, _, a, .nil, h => by simp at h
 | _, _, a, .cons r t, h => by
   rcases List.mem_cons.mp h with e | e
   ·subst e; exact ⟨_, r⟩
   ·exact paired_all t e
theorem ok_Box___init__ (T : Txt mg) (Y : Own K mg) (D : DefM K Y.c_Box "__init__" "Box.__init__" s_Box___init__) (C_refuse_no_top : Callee P w K mg base "refuse_no_top" 1 spRefTop) (C_switch_within : Callee P w K mg base "switch_within" 3 (spWithin Y.c_Switch)) : CalleeM CX0 P w K mg base Y.c_Box "__init__" 4 (spBoxInit Y.c_Box Y.c_Switch) := by
 refine DefM.ok D sc_Box___init__ bd_Box___init__ (fun vs H Q E h => ?len) (fun f cdv A outer s H vs Q E hr h => ?body)
 case len => obtain ⟨p, dx, a, ts, sws, top, rfl, _⟩ := h; rfl
 case body =>
  obtain ⟨p, dx, a, ts, sws, top, rfl, hp, hA, hT, hl, h1, h2, hv, k⟩ := h
  walk_at "z37"
  have hpa : a ≠ p := fun z => by rw [z, hp] at hA; cases hA
  refine ⟨_, (pss_cons (ps_expr (pe_callN C_refuse_no_top (hr.mono (by decide)) (by rfl) (pa_cons (pv 1) pa_nil)))
 (pss_cons (ps_fldK K (pv 0) (pv 1) rfl)
 (pss_cons (ps_fldK K (pv 0) (by exact pe_comp (N := ["low", "high", "weight", "top"]) (fr := [none, none, none, some 1]) ⟨by rfl, by decide +kernel, by decide +kernel, (show ∀ y ∈ (_ : List (Str × NameKind)), y.2 = NameKind.free → (defScope s_Box___init__).names.lookup y.1 = some .cell ∨ (defScope s_Box___init__).names.lookup y.1 = some .free by decide +kernel), (fr_none (fr_none (fr_none (fr_some (by rfl) (by first | exact Or.inl rfl | exact Or.inr rfl) (by rfl) fr_nil))))⟩ (by rfl) (pi_listK K (pv 2)) (fun _ _ _ _ => (pg_tupK K 3 (pgs_cons (pg_name (i := 0) (show List.Nodup (["low", "high", "weight", "top"] : List Str) by decide) (by rfl) (by first | exact Or.inl rfl | exact Or.inr rfl)) (pgs_cons (pg_name (i := 1) (show List.Nodup (["low", "high", "weight", "top"] : List Str) by decide) (by rfl) (by first | exact Or.inl rfl | exact Or.inr rfl)) (pgs_cons (pg_name (i := 2) (show List.Nodup (["low", "high", "weight", "top"] : List Str) by decide) (by rfl) (by first | exact Or.inl rfl | exact Or.inr rfl)) pgs_nil))))) (fun _ _ _ _ => pifs_nil) (fun _ _ _ _ => (pe_callN C_switch_within (hr.mono (by decide)) (by rfl) (pa_cons (pv 3) (pa_cons (pv 0) (pa_cons (pv 1) pa_nil))))) (gw_tup (gws_cons (gw_name (by rfl)) (gws_cons (gw_name (by rfl)) (gws_cons (gw_name (by rfl)) gws_nil))))) rfl)
 (pss_cons (ps_fldK K (pv 0) (by exact pe_comp (N := ["low", "high", "weight"]) (fr := [none, none, none]) ⟨by rfl, by decide +kernel, by decide +kernel, (show ∀ y ∈ (_ : List (Str × NameKind)), y.2 = NameKind.free → (defScope s_Box___init__).names.lookup y.1 = some .cell ∨ (defScope s_Box___init__).names.lookup y.1 = some .free by decide +kernel), (fr_none (fr_none (fr_none fr_nil)))⟩ (by rfl) (pi_listK K (pv 2)) (fun _ _ _ _ => (pg_tupK K 3 (pgs_cons (pg_name (i := 0) (show List.Nodup (["low", "high", "weight"] : List Str) by decide) (by rfl) (by first | exact Or.inl rfl | exact Or.inr rfl)) (pgs_cons (pg_name (i := 1) (show List.Nodup (["low", "high", "weight"] : List Str) by decide) (by rfl) (by first | exact Or.inl rfl | exact Or.inr rfl)) (pgs_cons (pg_name (i := 2) (show List.Nodup (["low", "high", "weight"] : List Str) by decide) (by rfl) (by first | exact Or.inl rfl | exact Or.inr rfl)) pgs_nil))))) (fun _ _ _ _ => pifs_nil) (fun _ _ _ _ => (pv 2)) (gw_tup (gws_cons (gw_name (by rfl)) (gws_cons (gw_name (by rfl)) (gws_cons (gw_name (by rfl)) gws_nil))))) rfl)
 (pss_one (ps_fldK K (pv 0) pe_int rfl)))))), ?_⟩
  walk_at "un"
  try clear hu
  walk_at "s"
  refine ⟨top, rfl, h1, h2, ?_⟩
  walk_at "s"
  refine ⟨p, _, dx, _, rfl, hp, Y.cl_Box, Y.na_Box_top, by simp, ?_⟩
  have keep1 : But p H (upd H p (.ins Y.c_Box dx (putF "top" (.int top) []))) := fun b o e n => by rw [upd_ne n]; exact e
  have ep1 : upd H p (.ins Y.c_Box dx (putF "top" (.int top) [])) p = some (.ins Y.c_Box dx (putF "top" (.int top) [])) := upd_same
  have free1 : ∀ b, upd H p (.ins Y.c_Box dx (putF "top" (.int top) [])) b = none → H b = none := fun b e => by
   by_cases z : b = p
   ·subst z; rw [upd_same] at e; cases e
   ·rw [upd_ne z] at e; exact e
  have hA1 := keep1 _ _ hA hpa
  have hT1 : SwT (upd H p (.ins Y.c_Box dx (putF "top" (.int top) []))) ts sws := Paired.mapP hT fun t s e => keep1 _ _ e fun z => by rw [z, hp] at e; cases e
  generalize upd H p (.ins Y.c_Box dx (putF "top" (.int top) [])) = H1 at *
  walk_at "s"
  refine ⟨⟨_, SqL.of hA1⟩, cp_list (xs := ts.map V.ref) (fun i ys H2 => ∃ qs : List Addr, ys = qs.map V.ref ∧ qs.length = i ∧ Same H1 H2 ∧ Paired (SwAt Y.c_Switch H2) qs ((sws.take i).map fun s => (s.1, s.2.1, false)) ∧ qs.Nodup ∧ ∀ q ∈ qs, H1 q = none) ⟨[], rfl, rfl, Same.refl _, .nil, by simp, by simp⟩ ?_ (szlt (by simp; lia)) ?_ ?_⟩
  ·rintro i ys H2 ⟨qs, rfl, hq, sm, _⟩
   exact ⟨SqL.of (sm _ _ hA1), by simp; lia⟩
  ·rintro i x ys H2 hx ⟨qs, rfl, hq, sm, hP, hn, hf⟩
   walk_at "z11"
   walk_at "z9"
   obtain ⟨s, hsi, hTs⟩ := swt_get hT1 hti
   obtain ⟨v1, v2, v3⟩ := hv s (List.mem_of_getElem? hsi)
   walk_at "s"
   refine ⟨_, _, rfl, SqT.of (sm _ _ hTs), rfl, _, _, rfl, _, _, rfl, _, _, rfl, rfl, ?_⟩
   walk_at "s"
   refine ⟨top, s.1, s.2.1, rfl, v1, v2, v3, fun q H3 hq3 s3 h3 => ?_⟩
   refine ⟨qs ++ [q], by simp, by simp; lia, sm.trans s3, ?_, ?_, ?_⟩
   ·rw [take_snoc_get hsi, List.map_append]
    exact Paired.snoc (Paired.mapP hP fun _ _ ⟨d, e⟩ => ⟨d, s3 _ _ e⟩) h3
   ·rw [List.nodup_append]
    refine ⟨hn, by simp, fun z hz y hy => ?_⟩
    simp at hy
    subst hy
    intro e
    subst e
    obtain ⟨_, d, e⟩ := paired_all hP hz
    rw [hq3] at e
    cases e
   ·intro z hz
    rcases List.mem_append.mp hz with y | y
    ·exact hf z y
    ·simp at y; subst y; exact sm.free hq3
  rintro ls ys H2 ⟨qs, rfl, hq, sm2, hP2, hn, hf⟩ hls
  rw [List.take_of_length_le (by simp; lia)] at hP2
  have s3 : Same H1 _ := sm2.trans (same_upd (o := .lst (qs.map V.ref)) hls)
  have e3 : upd H2 ls (.lst (qs.map V.ref)) ls = some (.lst (qs.map V.ref)) := upd_same
  have hP3 : Paired (SwAt Y.c_Switch (upd H2 ls (.lst (qs.map V.ref)))) qs (sws.map fun s => (s.1, s.2.1, false)) := Paired.mapP hP2 fun _ _ ⟨d, e⟩ => ⟨d, same_upd hls _ _ e⟩
  have fls : H1 ls = none := sm2.free hls
  generalize upd H2 ls (.lst (qs.map V.ref)) = H3 at *
  clear hP2 sm2 hls
  walk_at "s"
  have ep3 := s3 _ _ ep1
  refine ⟨p, _, dx, _, rfl, ep3, Y.cl_Box, Y.na_Box_switches, by have := putF_le "top" (.int top) ([] : List (Str × V)); simp at this; lia, ?_⟩
  have nlsp : ls ≠ p := fun z => by rw [z, ep1] at fls; cases fls
  have nqp : ∀ q ∈ qs, q ≠ p := fun q hq z => by have := hf q hq; rw [z, ep1] at this; cases this
  have keep4 : But p H (upd H3 p (.ins Y.c_Box dx (putF "switches" (.ref ls) (putF "top" (.int top) [])))) := fun b o e n => by rw [upd_ne n]; exact s3 _ _ (keep1 _ _ e n)
  have ep4 : upd H3 p (.ins Y.c_Box dx (putF "switches" (.ref ls) (putF "top" (.int top) []))) p = some (.ins Y.c_Box dx (putF "switches" (.ref ls) (putF "top" (.int top) []))) := upd_same
  have e4 : upd H3 p (.ins Y.c_Box dx (putF "switches" (.ref ls) (putF "top" (.int top) []))) ls = some (.lst (qs.map V.ref)) := by rw [upd_ne nlsp]; exact e3
  have hP4 : Paired (SwAt Y.c_Switch (upd H3 p (.ins Y.c_Box dx (putF "switches" (.ref ls) (putF "top" (.int top) []))))) qs (sws.map fun s => (s.1, s.2.1, false)) := by
   have go : ∀ {as : List Addr} {bs : List (Int × Int × Bool)}, (∀ q ∈ as, q ≠ p) → Paired (SwAt Y.c_Switch H3) as bs → Paired (SwAt Y.c_Switch (upd H3 p (.ins Y.c_Box dx (putF "switches" (.ref ls) (putF "top" (.int top) []))))) as bs := by
    intro as bs hn pr
    induction pr with
    | nil => exact .nil
    | cons r _ ih =>
      refine .cons ?_ (ih fun q hq => hn q (List.mem_cons_of_mem _ hq))
      obtain ⟨d, e⟩ := r
      exact ⟨d, by rw [upd_ne (hn _ List.mem_cons_self)]; exact e⟩
   exact go nqp hP3
  have free4 : ∀ b, upd H3 p (.ins Y.c_Box dx (putF "switches" (.ref ls) (putF "top" (.int top) []))) b = none → H b = none := fun b e => by
   by_cases z : b = p
   ·subst z; rw [upd_same] at e; cases e
   ·rw [upd_ne z] at e; exact free1 _ (s3.free e)
  generalize upd H3 p (.ins Y.c_Box dx (putF "switches" (.ref ls) (putF "top" (.int top) []))) = H4 at *
  have hA4 := keep4 _ _ hA hpa
  have hT4 : SwT H4 ts sws := Paired.mapP hT fun t s e => keep4 _ _ e fun z => by rw [z, hp] at e; cases e
  walk_at "s"
  refine ⟨⟨_, SqL.of hA4⟩, cp_list (xs := ts.map V.ref) (fun i ys H5 => ys = iL ((sws.map (·.2.2)).take i) ∧ i ≤ ts.length ∧ H4 = H5) ⟨by simp, Nat.zero_le _, rfl⟩ ?_ (szlt (by simp; lia)) ?_ ?_⟩
  ·rintro i ys H5 ⟨rfl, hi, rfl⟩
   exact ⟨SqL.of hA4, by simp [iL]; lia⟩
  ·rintro i x ys H5 hx ⟨rfl, hi, rfl⟩
   walk_at "z11"
   walk_at "z9"
   obtain ⟨s, hsi, hTs⟩ := swt_get hT4 hti
   have hil : i < ts.length := (List.getElem?_eq_some_iff.mp hti).1
   walk_at "s"
   refine ⟨_, _, rfl, SqT.of hTs, rfl, _, _, rfl, _, _, rfl, _, _, rfl, rfl, ?_⟩
   walk_at "s"
   refine ⟨?_, by lia, rfl⟩
   have : (sws.map (·.2.2))[i]? = some s.2.2 := by rw [List.getElem?_map, hsi]; rfl
   rw [List.take_add_one, this]
   simp [iL]
  rintro lw ys H5 ⟨rfl, hi, rfl⟩ hlw
  rw [List.take_of_length_le (by simp; lia)]
  have s5 : Same H4 _ := same_upd (o := .lst (iL (sws.map (·.2.2)))) hlw
  have e5 : upd H4 lw (.lst (iL (sws.map (·.2.2)))) lw = some (.lst (iL (sws.map (·.2.2)))) := upd_same
  have flw : H lw = none := free4 _ hlw
  have nlwp : lw ≠ p := fun z => by rw [z, ep4] at hlw; cases hlw
  generalize upd H4 lw (.lst (iL (sws.map (·.2.2)))) = H5 at *
  walk_at "s"
  refine ⟨p, _, dx, _, rfl, s5 _ _ ep4, Y.cl_Box, Y.na_Box_weights, by have h3 := putF_le "top" (.int top) ([] : List (Str × V)); have h4 := putF_le "switches" (.ref ls) (putF "top" (.int top) []); simp at h3; lia, ?_⟩
  walk_at "s"
  refine ⟨p, _, dx, _, rfl, upd_same, Y.cl_Box, Y.na_Box_at, by have h3 := putF_le "top" (.int top) ([] : List (Str × V)); have h4 := putF_le "switches" (.ref ls) (putF "top" (.int top) []); have h5 := putF_le "weights" (.ref lw) (putF "switches" (.ref ls) (putF "top" (.int top) [])); simp at h3; lia, ?_⟩
  rw [upd_upd]
  refine k _ ls lw qs ⟨⟨dx, upd_same⟩, by rw [upd_ne nlsp]; exact s5 _ _ e4, by rw [upd_ne nlwp]; exact e5, ?_, hn⟩ (free1 _ fls) flw (fun q hq => free1 _ (hf q hq)) (fun b o e n => by rw [upd_ne n]; exact s5 _ _ (keep4 _ _ e n))
  have go : ∀ {o : HO} {as : List Addr} {bs : List (Int × Int × Bool)}, (∀ q ∈ as, q ≠ p) → Paired (SwAt Y.c_Switch H4) as bs → Paired (SwAt Y.c_Switch (upd H5 p o)) as bs := by
   intro o as bs hn pr
   induction pr with
   | nil => exact .nil
   | cons r _ ih =>
     refine .cons ?_ (ih fun q hq => hn q (List.mem_cons_of_mem _ hq))
     obtain ⟨d, e⟩ := r
     exact ⟨d, by rw [upd_ne (hn _ List.mem_cons_self)]; exact s5 _ _ e⟩
  exact go nqp hP4
def litF : Nat → List (Int × Int × Bool) → List Int
 | _, [] => []
 | n, s :: st => if s.2.2 then (n : Int) :: litF (n + 1) st else litF (n + 1) st
def ans : List Int → List (Int × Int × Bool) → Int
 | w :: ws, s :: st => (if s.2.2 then w else 0) + ans ws st
 | _, _ => 0
theorem litF_snoc (s : Int × Int × Bool) : ∀ (st : List (Int × Int × Bool)) (n : Nat), litF n (st ++ [s]) = litF n st ++ if s.2.2 then [((n + st.length : Nat) : Int)] else []
 | [], n => by simp [litF]
 | x :: st, n => by
   simp only [List.cons_append, litF]
   rw [litF_snoc s st (n + 1), List.length_cons, show n + 1 + st.length = n + (st.length + 1) by lia]
   split <;> simp
theorem litF_len : ∀ (st : List (Int × Int × Bool)) (n : Nat), (litF n st).length ≤ st.length
 | [], n => by simp [litF]
 | s :: st, n => by
   have := litF_len st (n + 1)
   simp only [litF]
   split <;> simp <;> lia
theorem litF_mem : ∀ (st : List (Int × Int × Bool)) (n : Nat) (x : Int), x ∈ litF n st → (n : Int) ≤ x ∧ x < n + st.length
 | [], n, x, h => by simp [litF] at h
 | s :: st, n, x, h => by
   have ih := litF_mem st (n + 1) x
   simp only [litF] at h
   split at h
   ·rcases List.mem_cons.mp h with e | e
    ·subst e; simp
     lia
    ·have := ih e; simp; lia
   ·have := ih h; simp; lia
theorem litF_sum : ∀ (st : List (Int × Int × Bool)) (pre ws : List Int), ws.length = st.length → ((litF pre.length st).map fun n => (pre ++ ws).getD n.toNat 0).sum = ans ws st
 | [], pre, ws, h => by
   have : ws = [] := by cases ws <;> simp at h ⊢
   subst this
   simp [litF, ans]
 | s :: st, pre, w :: ws, h => by
   have ih := litF_sum st (pre ++ [w]) ws (by simpa using h)
   rw [List.length_append, List.length_singleton, List.append_assoc] at ih
   simp only [litF, ans]
   rw [← ih]
   split
   ·simp
   ·simp
 | s :: st, pre, [], h => by simp at h
def spLit (CB CS : Addr) : Sp := fun vs H Q _ => ∃ (p ls lw : Addr) (top at_ : Int) (qs : List Addr) (ws : List Int) (st : List (Int × Int × Bool)), vs = [.ref p] ∧ BoxAt CB CS H p top ls lw qs ws at_ st ∧ st.length ≤ 1000 ∧ ∀ l H', NewI H H' l (litF 0 st) → Q (.ref l) H'
theorem sw_get {C : Addr} {H : Hp} {qs : List Addr} {st : List (Int × Int × Bool)} (h : Paired (SwAt C H) qs st) {i : Nat} {q : Addr} (e : qs[i]? = some q) : ∃ s, st[i]? = some s ∧ SwAt C H q s := by
 induction h generalizing i with
 | nil => simp at e
 | cons r _ ih =>
   cases i with
   | zero => simp at e; subst e; exact ⟨_, rfl, r⟩
   | succ i => exact ih (i := i) (by simpa using e)
theorem cp_enum {g : TG} {ti : TT} {te : TE} {σc : St} {H : Hp} {Q : VK} {a : Addr} {xs : List V} (Pv : Nat → List V → Hp → Prop) (h0 : Pv 0 [] H) (hl : ∀ i zs H, Pv i zs H → SqL K H a xs ∧ zs.length ≤ i) (hx : xs.length < sizeLine)
 (hs : ∀ i x T zs H, xs[i]? = some x → Pv i zs H → H T = none → g (.ref T) σc (upd H T (.tup [.int i, x])) fun σ2 H2 => ti σ2 H2 fun b H3 => if b = true then te σ2 H3 fun y H4 => Pv (i + 1) (zs ++ [y]) H4 else Pv (i + 1) zs H3)
 (hd : ∀ l zs H, Pv xs.length zs H → H l = none → Q (.ref l) (upd H l (.lst zs))) : CompI (Ite K a) g ti te σc H Q := by
 refine ⟨fun i m zs H => m = xs.length - i ∧ i ≤ xs.length ∧ Pv i zs H, ⟨_, rfl, Nat.zero_le _, h0⟩, ?_⟩
 rintro i m zs H ⟨rfl, hi, p⟩
 obtain ⟨q1, hy⟩ := hl i zs H p
 refine ⟨by lia, ?_⟩
 by_cases hlt : i < xs.length
 ·refine .inr ⟨⟨xs, xs[i], q1, by simp [hlt]⟩, Pv (i + 1), fun σ' H' p' => ⟨_, by lia, rfl, hlt, p'⟩, fun x H' y => ?_⟩
  obtain ⟨T, x1, rfl, hT, rfl, ex⟩ := y
  exact hs i x1 T zs H (ex xs q1) p hT
 ·have e : i = xs.length := by lia
  exact .inl ⟨⟨xs, q1, by lia⟩, fun l hl => hd l zs H (by rw [← e]; exact p) hl⟩
theorem ok_Box_lit (T : Txt mg) (Y : Own K mg) (D : DefM K Y.c_Box "lit" "Box.lit" s_Box_lit) (C_Switch_on : CalleeM CX0 P w K mg base Y.c_Switch "on" 1 (spSwOn Y.c_Switch)) : CalleeM CX0 P w K mg base Y.c_Box "lit" 2 (spLit Y.c_Box Y.c_Switch) := by
 refine DefM.ok D sc_Box_lit bd_Box_lit (fun vs H Q E h => ?len) (fun f cdv A outer s H vs Q E hr h => ?body)
 case len => obtain ⟨p, ls, lw, top, at_, qs, ws, st, rfl, _⟩ := h; rfl
 case body =>
  obtain ⟨p, ls, lw, top, at_, qs, ws, st, rfl, B, hl, k⟩ := h
  have hql : qs.length = st.length := B.it.length
  obtain ⟨dx, ep⟩ := B.ob
  refine ⟨_, (pss_one (ps_ret (by exact pe_comp (N := ["number", "switch"]) (fr := [none, none]) ⟨by rfl, by decide +kernel, by decide +kernel, (show ∀ y ∈ (_ : List (Str × NameKind)), y.2 = NameKind.free → (defScope s_Box_lit).names.lookup y.1 = some .cell ∨ (defScope s_Box_lit).names.lookup y.1 = some .free by decide +kernel), (fr_none (fr_none fr_nil))⟩ (by rfl) (pi_enumerate1K K (by rfl) T.z_enumerate (pa_cons (pe_fldK K (pv 0) (by rfl)) pa_nil)) (fun _ _ _ _ => (pg_tupK K 2 (pgs_cons (pg_name (i := 0) (show List.Nodup (["number", "switch"] : List Str) by decide) (by rfl) (by first | exact Or.inl rfl | exact Or.inr rfl)) (pgs_cons (pg_name (i := 1) (show List.Nodup (["number", "switch"] : List Str) by decide) (by rfl) (by first | exact Or.inl rfl | exact Or.inr rfl)) pgs_nil)))) (fun _ _ _ _ => (pifs_one (pt_truthK K (pe_meth0N C_Switch_on Y.cl_Switch (pv 1) (hr.mono (by decide)))))) (fun _ _ _ _ => (pv 0)) (gw_tup (gws_cons (gw_name (by rfl)) (gws_cons (gw_name (by rfl)) gws_nil)))))), ?_⟩
  walk_at "un"
  try clear hu
  walk_at "s"
  refine ⟨p, _, dx, _, _, rfl, ep, Y.cl_Box, Y.na_Box_switches, bfl_switches _ _ _ _, ?_⟩
  walk_at "s"
  refine ⟨⟨_, B.sl⟩, cp_enum (xs := qs.map V.ref) (fun i ys H3 => ys = iL (litF 0 (st.take i)) ∧ i ≤ qs.length ∧ Same H H3) ⟨rfl, Nat.zero_le _, Same.refl _⟩ ?_ (szlt (by simp; lia)) ?_ ?_⟩
  ·rintro i ys H3 ⟨rfl, hi, sm⟩
   refine ⟨SqL.of (sm _ _ B.sl), ?_⟩
   have := litF_len (st.take i) 0
   simp [iL] at this ⊢
   lia
  ·rintro i x t ys H3 hx ⟨rfl, hi, sm⟩ ht
   walk_at "z11"
   obtain ⟨q, hqi, rfl⟩ := Option.map_eq_some_iff.mp hx
   obtain ⟨s, hsi, d, hS⟩ := sw_get B.it hqi
   have hil : i < qs.length := (List.getElem?_eq_some_iff.mp hqi).1
   have s3 := sm.trans (same_upd (o := .tup [.int i, .ref q]) ht)
   have hsn : litF 0 (st.take (i + 1)) = litF 0 (st.take i) ++ if s.2.2 then [((i : Nat) : Int)] else [] := by
    rw [take_snoc_get hsi, litF_snoc, List.length_take, Nat.min_eq_left (by lia), Nat.zero_add]
   walk_at "s"
   refine ⟨_, _, rfl, SqT.of upd_same, rfl, _, _, rfl, _, _, rfl, rfl, ?_⟩
   walk_at "s"
   refine ⟨q, d, _, rfl, s3 _ _ hS, sfl_no _ _ _ (by decide +kernel) (by decide +kernel) (by decide +kernel), ?_⟩
   walk_at "s"
   refine ⟨q, s, rfl, ⟨d, s3 _ _ hS⟩, ?_⟩
   walk_at "s"
   cases hon : s.2.2 with
   | true =>
     rw [hon] at hsn
     walk_at "s"
     exact ⟨by rw [hsn]; simp [iL], by lia, s3⟩
   | false =>
     rw [hon] at hsn
     walk_at "s"
     exact ⟨by rw [hsn]; simp, by lia, s3⟩
  ·rintro l ys H3 ⟨rfl, hi, sm⟩ hl2
   rw [List.take_of_length_le (by simp; lia)]
   exact k l _ ⟨sm.free hl2, sm.trans (same_upd hl2), upd_same⟩
def spAns (CB CS : Addr) : Sp := fun vs H Q _ => ∃ (p ls lw : Addr) (top at_ : Int) (qs : List Addr) (ws : List Int) (st : List (Int × Int × Bool)), vs = [.ref p] ∧ BoxAt CB CS H p top ls lw qs ws at_ st ∧ st.length ≤ 1000 ∧ ws.length = st.length ∧ ∀ H', Same H H' → Q (.int (ans ws st)) H'
theorem ok_Box_answer (T : Txt mg) (Y : Own K mg) (D : DefM K Y.c_Box "answer" "Box.answer" s_Box_answer) (C_Box_lit : CalleeM CX0 P w K mg base Y.c_Box "lit" 2 (spLit Y.c_Box Y.c_Switch)) : CalleeM CX0 P w K mg base Y.c_Box "answer" 3 (spAns Y.c_Box Y.c_Switch) := by
 refine DefM.ok D sc_Box_answer bd_Box_answer (fun vs H Q E h => ?len) (fun f cdv A outer s H vs Q E hr h => ?body)
 case len => obtain ⟨p, ls, lw, top, at_, qs, ws, st, rfl, _⟩ := h; rfl
 case body =>
  obtain ⟨p, ls, lw, top, at_, qs, ws, st, rfl, B, hl, hwl, k⟩ := h
  obtain ⟨dx, ep⟩ := B.ob
  refine ⟨_, (pss_one (ps_ret (pe_callB (call_sumK K) (by rfl) T.z_sum bt_sum (pa_cons (by exact pe_comp (N := ["number", "self"]) (fr := [none, some 0]) ⟨by rfl, by decide +kernel, by decide +kernel, (show ∀ y ∈ (_ : List (Str × NameKind)), y.2 = NameKind.free → (defScope s_Box_answer).names.lookup y.1 = some .cell ∨ (defScope s_Box_answer).names.lookup y.1 = some .free by decide +kernel), (fr_none (fr_some (by rfl) (by first | exact Or.inl rfl | exact Or.inr rfl) (by rfl) fr_nil))⟩ (by rfl) (pi_listK K (pe_meth0N C_Box_lit Y.cl_Box (pv 0) (hr.mono (by decide)))) (fun _ _ _ _ => (pg_name (i := 0) (show List.Nodup (["number", "self"] : List Str) by decide) (by rfl) (by first | exact Or.inl rfl | exact Or.inr rfl))) (fun _ _ _ _ => pifs_nil) (fun _ _ _ _ => (pe_ix (ix_K K) (pe_fldK K (pv 1) (by rfl)) (pv 0) (by exact fun _ _ => rfl))) (gw_name (by rfl))) pa_nil)))), ?_⟩
  walk_at "un"
  try clear hu
  walk_at "s"
  walk_at "z23"
  walk_at "s"
  refine ⟨p, ls, lw, top, at_, qs, ws, st, rfl, B, hl, fun l H1 N1 => ?_⟩
  walk_at "s"
  have hll := litF_len st 0
  refine ⟨⟨_, SqL.of N1.at_⟩, cp_list (xs := iL (litF 0 st)) (fun i ys H3 => ys = iL (((litF 0 st).map fun n => ws.getD n.toNat 0).take i) ∧ i ≤ (litF 0 st).length ∧ H1 = H3) ⟨by simp, Nat.zero_le _, rfl⟩ ?_ (szlt (by simp [iL]; lia)) ?_ ?_⟩
  ·rintro i ys H3 ⟨rfl, hi, rfl⟩
   exact ⟨SqL.of N1.at_, by simp [iL]; lia⟩
  ·rintro i x ys H3 hx ⟨rfl, hi, rfl⟩
   walk_at "z11"
   obtain ⟨n, hni, rfl⟩ := Option.map_eq_some_iff.mp hx
   have hb := litF_mem st 0 n (List.mem_of_getElem? hni)
   have hil : i < (litF 0 st).length := (List.getElem?_eq_some_iff.mp hni).1
   walk_at "s"
   refine ⟨p, _, dx, _, _, rfl, N1.sm _ _ ep, Y.cl_Box, Y.na_Box_weights, bfl_weights _ _ _ _, ?_⟩
   walk_at "s"
   have hw : ws[n.toNat]? = some (ws.getD n.toNat 0) := by
    rw [List.getD_eq_getElem?_getD, List.getElem?_eq_getElem (by lia)]; rfl
   refine i_ixN (SqL.of (N1.sm _ _ B.wl)) (by lia) (v := .int (ws.getD n.toNat 0)) (by rw [List.getElem?_map, hw]; rfl) ?_
   walk_at "s"
   refine ⟨?_, by lia, rfl⟩
   have : ((litF 0 st).map fun n => ws.getD n.toNat 0)[i]? = some (ws.getD n.toNat 0) := by rw [List.getElem?_map, hni]; rfl
   rw [List.take_add_one, this]
   simp [iL]
  ·rintro l2 ys H3 ⟨rfl, hi, rfl⟩ hl2
   rw [List.take_of_length_le (by simp [iL])]
   refine i_sum (SqL.of upd_same) ?_
   have := litF_sum st [] ws hwl
   simp only [List.length_nil, List.nil_append] at this
   rw [this]
   exact k _ (N1.sm.trans (same_upd hl2))
def spTurnB (CB CS : Addr) : Sp := fun vs H Q _ => ∃ (p ls lw : Addr) (top at_ c : Int) (qs : List Addr) (ws : List Int) (st : List (Int × Int × Bool)), vs = [.ref p, .int c] ∧ BoxAt CB CS H p top ls lw qs ws at_ st ∧ st.length ≤ 1000 ∧ ws.length = st.length ∧ 0 ≤ c ∧ c ≤ top ∧
 ∀ H', BoxAt CB CS H' p top ls lw qs ws c (st.map (stp c)) → (∀ b o, H b = some o → b ≠ p → b ∉ qs → H' b = some o) → Q (.int (ans ws (st.map (stp c)))) H'
theorem ne_kind {H : Hp} {a b : Addr} {o1 o2 : HO} (h1 : H a = some o1) (h2 : H b = some o2) (h : o1 ≠ o2) : a ≠ b := fun z => by
 subst z
 rw [h1] at h2
 exact h (Option.some.inj h2)
theorem ok_Box_turn (T : Txt mg) (Y : Own K mg) (D : DefM K Y.c_Box "turn" "Box.turn" s_Box_turn) (C_refuse_no_place : Callee P w K mg base "refuse_no_place" 1 spRefPlace) (C_Switch_turn : CalleeM CX0 P w K mg base Y.c_Switch "turn" 1 (spSwTurn Y.c_Switch)) (C_Box_answer : CalleeM CX0 P w K mg base Y.c_Box "answer" 3 (spAns Y.c_Box Y.c_Switch)) : CalleeM CX0 P w K mg base Y.c_Box "turn" 4 (spTurnB Y.c_Box Y.c_Switch) := by
 refine DefM.ok D sc_Box_turn bd_Box_turn (fun vs H Q E h => ?len) (fun f cdv A outer s H vs Q E hr h => ?body)
 case len => obtain ⟨p, ls, lw, top, at_, c, qs, ws, st, rfl, _⟩ := h; rfl
 case body =>
  obtain ⟨p, ls, lw, top, at_, c, qs, ws, st, rfl, B, hl, hwl, h0, h1, k⟩ := h
  obtain ⟨dx, ep⟩ := B.ob
  have hql : qs.length = st.length := B.it.length
  have nls : ls ≠ p := ne_kind B.sl ep (by intro z; cases z)
  have nlw : lw ≠ p := ne_kind B.wl ep (by intro z; cases z)
  have nqs : ∀ q ∈ qs, q ≠ ls ∧ q ≠ lw := fun q hq => by
   obtain ⟨s, d, e⟩ := paired_all B.it hq
   exact ⟨ne_kind e B.sl (by intro z; cases z), ne_kind e B.wl (by intro z; cases z)⟩
  have nqp : ∀ q ∈ qs, q ≠ p := fun q hq z => by
   obtain ⟨s, d, e⟩ := paired_all B.it hq
   rw [z, ep] at e
   have e2 := Option.some.inj e
   have h2 : (bfl top ls lw at_).lookup ("top" : Str) = (sfl s.1 s.2.1 s.2.2).lookup ("top" : Str) := by
    injection e2 with _ _ e3
    rw [e3]
   rw [bfl_top, sfl_no _ _ _ (by decide +kernel) (by decide +kernel) (by decide +kernel)] at h2
   cases h2
  refine ⟨_, (pss_cons (ps_expr (pe_callN C_refuse_no_place (hr.mono (by decide)) (by rfl) (pa_cons (pe_fldK K (pv 0) (by rfl)) (pa_cons (pv 1) pa_nil))))
 (pss_cons (ps_fldK K (pv 0) (pv 1) rfl)
 (pss_cons (ps_for PassesOwn.never rfl (pi_listK K (pe_fldK K (pv 0) (by rfl))) (pg_name (i := 2) sc_Box_turn.nd rfl (Or.inl rfl))
 (pss_one (ps_expr (pe_methN C_Switch_turn Y.cl_Switch (pv 2) (hr.mono (by decide)) (pa_cons (pv 1) pa_nil)))))
 (pss_one (ps_ret (pe_meth0N C_Box_answer Y.cl_Box (pv 0) (hr.mono (by decide)))))))), ?_⟩
  walk_at "un"
  try clear hu
  walk_at "s"
  refine ⟨p, _, dx, _, _, rfl, ep, Y.cl_Box, Y.na_Box_top, bfl_top _ _ _ _, ?_⟩
  walk_at "s"
  refine ⟨top, c, rfl, h0, h1, ?_⟩
  walk_at "s"
  refine ⟨p, _, dx, _, rfl, ep, Y.cl_Box, Y.na_Box_at, bfl_len _ _ _ _, ?_⟩
  rw [bfl_put]
  have e1 : upd H p (.ins Y.c_Box dx (bfl top ls lw c)) p = some (.ins Y.c_Box dx (bfl top ls lw c)) := upd_same
  have k1 : ∀ b o, H b = some o → b ≠ p → upd H p (.ins Y.c_Box dx (bfl top ls lw c)) b = some o := fun b o e n => by rw [upd_ne n]; exact e
  have B1 : BoxAt Y.c_Box Y.c_Switch (upd H p (.ins Y.c_Box dx (bfl top ls lw c))) p top ls lw qs ws c st := by
   refine ⟨⟨dx, e1⟩, k1 _ _ B.sl nls, k1 _ _ B.wl nlw, ?_, B.nd⟩
   have go : ∀ {as : List Addr} {bs : List (Int × Int × Bool)}, (∀ q ∈ as, q ≠ p) → Paired (SwAt Y.c_Switch H) as bs → Paired (SwAt Y.c_Switch (upd H p (.ins Y.c_Box dx (bfl top ls lw c)))) as bs := by
    intro as bs hn pr
    induction pr with
    | nil => exact .nil
    | cons r _ ih =>
      obtain ⟨d, e⟩ := r
      exact .cons ⟨d, k1 _ _ e (hn _ List.mem_cons_self)⟩ (ih fun q hq => hn q (List.mem_cons_of_mem _ hq))
   exact go nqp B.it
  generalize upd H p (.ins Y.c_Box dx (bfl top ls lw c)) = H1 at *
  walk_at "s"
  refine ⟨p, _, dx, _, _, rfl, e1, Y.cl_Box, Y.na_Box_switches, bfl_switches _ _ _ _, ?_⟩
  walk_at "s"
  refine ⟨⟨_, SqL.of B1.sl⟩, lp_list (xs := qs.map V.ref) (fun i σ H2 => ∃ u : Option V, σ = [some (.ref p), some (.int c), u] ∧ BoxAt Y.c_Box Y.c_Switch H2 p top ls lw qs ws c ((st.take i).map (stp c) ++ st.drop i) ∧ ∀ b o, H1 b = some o → b ∉ qs → H2 b = some o) ?_ ?_ ?_ ?_⟩
  ·exact ⟨_, rfl, by simpa using B1, fun b o e _ => e⟩
  ·rintro i σ H2 _ ⟨u, rfl, B2, k2⟩
   exact SqL.of B2.sl
  ·rintro i x σ H2 hx ⟨u, rfl, B2, k2⟩
   walk_at "z11"
   obtain ⟨q, hqi, rfl⟩ := Option.map_eq_some_iff.mp hx
   have hil : i < qs.length := (List.getElem?_eq_some_iff.mp hqi).1
   obtain ⟨s, hsi, d, hS⟩ := sw_get B2.it hqi
   have hs2 : st[i]? = some s := by
    rw [List.getElem?_append_right (by simp; lia)] at hsi
    simp only [List.length_map, List.length_take] at hsi
    rw [Nat.min_eq_left (by lia), Nat.sub_self, List.getElem?_drop] at hsi
    simpa using hsi
   walk_at "s"
   refine ⟨q, d, _, rfl, hS, sfl_no _ _ _ (by decide +kernel) (by decide +kernel) (by decide +kernel), ?_⟩
   walk_at "s"
   refine ⟨q, c, s, rfl, ⟨d, hS⟩, fun H3 h3 k3 => ?_⟩
   have hqm := List.mem_of_getElem? hqi
   refine ⟨_, rfl, ⟨?_, k3 _ _ B2.sl (nqs q hqm).1.symm, k3 _ _ B2.wl (nqs q hqm).2.symm, ?_, B2.nd⟩, fun b o e n => k3 _ _ (k2 b o e n) fun z => n (z ▸ hqm)⟩
   ·obtain ⟨d2, e2⟩ := B2.ob
    exact ⟨d2, k3 _ _ e2 (nqp q hqm).symm⟩
   ·have hset : (st.take (i + 1)).map (stp c) ++ st.drop (i + 1) = ((st.take i).map (stp c) ++ st.drop i).set i (stp c s) := by
     rw [take_snoc_get hs2, List.map_append, dropc hs2, List.append_assoc, List.set_append_right _ _ (by simp; lia)]
     simp only [List.length_map, List.length_take]
     rw [Nat.min_eq_left (by lia), Nat.sub_self]
     rfl
    rw [hset]
    have go : ∀ {as : List Addr} {bs : List (Int × Int × Bool)} {i : Nat}, as.Nodup → as[i]? = some q → Paired (SwAt Y.c_Switch H2) as bs → Paired (SwAt Y.c_Switch H3) as (bs.set i (stp c s)) := by
     intro as bs i hn hi pr
     induction pr generalizing i with
     | nil => simp at hi
     | @cons a b as bs r pr ih =>
       have hn2 := List.nodup_cons.mp hn
       cases i with
       | zero =>
         simp at hi
         subst hi
         refine .cons h3 ?_
         have stay : ∀ {as : List Addr} {bs : List (Int × Int × Bool)}, a ∉ as → Paired (SwAt Y.c_Switch H2) as bs → Paired (SwAt Y.c_Switch H3) as bs := by
          intro as bs hna pr
          induction pr with
          | nil => exact .nil
          | cons r _ ih =>
            obtain ⟨d, e⟩ := r
            exact .cons ⟨d, k3 _ _ e fun z => hna (z ▸ List.mem_cons_self)⟩ (ih fun h => hna (List.mem_cons_of_mem _ h))
         exact stay hn2.1 pr
       | succ i =>
         simp at hi
         obtain ⟨d, e⟩ := r
         refine .cons ⟨d, k3 _ _ e fun z => hn2.1 (z ▸ List.mem_of_getElem? hi)⟩ (ih hn2.2 hi)
    exact go B2.nd hqi B2.it
  ·rintro σ H2 ⟨u, rfl, B2, k2⟩
   rw [List.take_of_length_le (by simp; lia), List.drop_of_length_le (by simp; lia), List.append_nil] at B2
   obtain ⟨d2, e2⟩ := B2.ob
   walk_at "s"
   refine ⟨p, d2, _, rfl, e2, bfl_no _ _ _ _ (by decide +kernel) (by decide +kernel) (by decide +kernel) (by decide +kernel), ?_⟩
   walk_at "s"
   refine ⟨p, ls, lw, top, c, qs, ws, _, rfl, B2, by simpa using hl, by simpa using hwl, fun H3 s3 => ?_⟩
   exact k H3 (B2.more s3) fun b o e n1 n2 => s3 _ _ (k2 _ _ (k1 _ _ e n1) n2)
def spCellAt (K : PySem.W.Frag) : Sp := fun vs H Q _ => ∃ (a : Addr) (ns : List Int) (k : Int), vs = [.ref a, .int k] ∧ SqL K H a (iL ns) ∧ 0 ≤ k ∧ ∀ v, Q (.int v) H
theorem ok_law_cell_at (T : Txt mg) (D : Def K mg "_law_cell_at" s_law_cell_at) : Callee P w K mg base "_law_cell_at" 1 (spCellAt K) := by
 refine D.ok sc_law_cell_at bd_law_cell_at (fun vs H Q E h => ?len) (fun f cdv A outer s H vs Q E hr h => ?body)
 case len => obtain ⟨a, ns, k, rfl, _⟩ := h; rfl
 case body =>
  obtain ⟨a, ns, kk, rfl, hS, h0, k⟩ := h
  have hu := hr.units
  refine ⟨_, (pss_cons (ps_if (pt_cmpR op_lt (pv 1) (pe_callB (call_lenK K) (by rfl) T.z_len bt_len (pa_cons (pv 0) pa_nil)) (nomark _))
 (pss_one (ps_ret (pe_ix (ix_K K) (pv 0) (pv 1) (by exact fun _ _ => rfl))))
 pss_nil)
 (pss_one (ps_ret pe_int))), ?_⟩
  walk_at "un"
  try clear hu
  walk_at "s"
  refine i_lenI hS ?_
  walk_at "s"
  refine i_if (fun g => ?_) (fun g => ?_)
  ·walk_at "s"
   exact i_ixL hS h0 g (fun v _ _ => k v)
  ·walk_at "s"
   exact k 0
def spDraws : Sp := fun vs H Q _ => ∃ cell many bas : Int, vs = [.int cell, .int many, .int bas] ∧ 0 ≤ many ∧ many ≤ 5000 ∧ 0 < bas ∧ bas < 1073741824 ∧
 ∀ l H' xs, NewI H H' l xs → (xs.length : Int) = many → (∀ x ∈ xs, 0 ≤ x ∧ x < bas) → Q (.ref l) H'
theorem ok_law_draws (T : Txt mg) (D : Def K mg "_law_draws" s_law_draws) : Callee P w K mg base "_law_draws" 1 spDraws := by
 refine D.ok sc_law_draws bd_law_draws (fun vs H Q E h => ?len) (fun f cdv A outer s H vs Q E hr h => ?body)
 case len => obtain ⟨p, a, x, rfl, _⟩ := h; rfl
 case body =>
  obtain ⟨cell, many, bas, rfl, h1, h2, h3, h4, k⟩ := h
  refine ⟨_, (pss_cons (ps_set (i := 3) sc_law_draws.nd rfl (Or.inl rfl) (pe_lst pa_nil))
 (pss_cons (ps_set (i := 4) sc_law_draws.nd rfl (Or.inl rfl) (pe_op op_mulP (pv 0) (pe_callTy call_intK (by rfl) T.z_int bt_int (pa_cons (pe_cmpR op_ge (pv 0) (pe_powK (r := 1000000000000000000) (by decide)) (nomark _)) pa_nil))))
 (pss_cons (ps_set (i := 5) sc_law_draws.nd rfl (Or.inl rfl) (pe_op op_mod (pv 0) pe_int))
 (pss_cons (ps_for PassesOwn.never rfl (pi_range1 (by rfl) T.z_range (pa_cons (pe_op op_addP (pv 1) pe_int) pa_nil)) (pg_name (i := 6) sc_law_draws.nd rfl (Or.inl rfl))
 (pss_cons (ps_set (i := 5) sc_law_draws.nd rfl (Or.inl rfl) (pe_op op_mod (pe_op op_addP (pe_op op_addP (pe_op op_addP (pe_op op_mulP (pv 5) (pv 5)) (pe_op op_mulP pe_int (pv 5))) (pv 6)) pe_int) pe_int))
 (pss_one (ps_if (PW.pt (pw_and (pt_cmpR op_gt (pv 6) pe_int (nomark _)) (pw_and1 (pt_cmpR op_gt (pv 4) pe_int (nomark _)))))
 (pss_cons (ps_expr (pe_bmK K PySem.F.plainAttrs_list PySem.F.slot_list_append PySem.F.type_list_append mt_append (pv 3) (pa_cons (pe_op op_mod (pv 4) (pv 2)) pa_nil)))
 (pss_one (ps_set (i := 4) sc_law_draws.nd rfl (Or.inl rfl) (pe_op op_fdiv (pv 4) (pv 2)))))
 (pss_one (ps_if (pt_cmpR op_gt (pv 6) pe_int (nomark _))
 (pss_one (ps_expr (pe_bmK K PySem.F.plainAttrs_list PySem.F.slot_list_append PySem.F.type_list_append mt_append (pv 3) (pa_cons (pe_op op_mod (pe_op op_fdiv (pv 5) pe_int) (pv 2)) pa_nil))))
 pss_nil))))))
 (pss_one (ps_ret (pv 3))))))), ?_⟩
  walk_at "un"
  try clear hu
  refine ⟨szl (by decide), fun l hl => ?_⟩
  walk_at "s"
  refine i_mulI (cmul_r ?_ ?_) ?_
  ·split <;> decide
  ·split <;> decide
  generalize cell * _ = rest
  walk_at "s"
  have hst0 : 0 ≤ cell % 2305843009213693951 := Int.emod_nonneg _ (by decide)
  have hst1 : cell % 2305843009213693951 < 2305843009213693951 := Int.emod_lt_of_pos _ (by decide)
  generalize cell % 2305843009213693951 = stirred at *
  refine ⟨by lia, by lia, lp_range (fun i σ H2 => ∃ (rest stirred : Int) (kk : Option V) (xs : List Int), σ = [some (.int cell), some (.int many), some (.int bas), some (.ref l), some (.int rest), some (.int stirred), kk] ∧
   0 ≤ stirred ∧ stirred < 2305843009213693951 ∧ NewI H H2 l xs ∧ xs.length = i - 3 ∧ ∀ x ∈ xs, 0 ≤ x ∧ x < bas) ?_ ?_ ?_⟩
  ·exact ⟨rest, stirred, none, [], rfl, hst0, hst1, ⟨hl, same_upd hl, upd_same⟩, rfl, by simp⟩
  ·rintro i σ H2 hi ⟨rest, stirred, kk, xs, rfl, s0, s1, N, hx, hb⟩
   walk_at "s"
   refine i_mulI (cmul_l (by lia) (by lia)) ?_
   walk_at "s"
   refine i_mulI (cmul_l (by decide) (by decide)) ?_
   walk_at "s"
   have hst0 := Int.emod_nonneg (stirred * stirred + 48271 * stirred + (0 + (i : Int)) + 1) (show (2305843009213693951 : Int) ≠ 0 by decide)
   have hst1 := Int.emod_lt_of_pos (stirred * stirred + 48271 * stirred + (0 + (i : Int)) + 1) (show (0 : Int) < 2305843009213693951 by decide)
   generalize (stirred * stirred + 48271 * stirred + (0 + (i : Int)) + 1) % 2305843009213693951 = stirred2 at *
   have app : ∀ v, 3 ≤ i → 0 ≤ v → v < bas → ∀ rest2, ∃ (rest stirred : Int) (kk : Option V) (ys : List Int), [some (V.int cell), some (.int many), some (.int bas), some (.ref l), some (.int rest2), some (.int stirred2), some (V.int (0 + (i : Int)))] = [some (.int cell), some (.int many), some (.int bas), some (.ref l), some (.int rest), some (.int stirred), kk] ∧
    0 ≤ stirred ∧ stirred < 2305843009213693951 ∧ NewI H (upd H2 l (.lst (iL xs ++ [V.int v]))) l ys ∧ ys.length = i + 1 - 3 ∧ ∀ x ∈ ys, 0 ≤ x ∧ x < bas := by
    intro v hi3 hv0 hv1 rest2
    refine ⟨rest2, stirred2, some (V.int (0 + (i : Int))), xs ++ [v], rfl, hst0, hst1, N.app, ?_, ?_⟩
    ·simp; lia
    ·intro x hxm
     rcases List.mem_append.mp hxm with z | z
     ·exact hb x z
     ·simp at z; subst z; exact ⟨hv0, hv1⟩
   have lenx : xs.length ≤ 100000 := by lia
   refine i_if (fun g1 => ?_) (fun g1 => ?_)
   ·walk_at "s"
    refine i_if (fun g2 => ?_) (fun g2 => ?_)
    ·walk_at "s"
     refine ⟨.inl ⟨rfl, _, SqL.of N.at_⟩, ?_⟩
     walk_at "s"
     refine i_app N.at_ (szlt (by simpa [iL] using lenx)) ?_
     walk_at "s"
     exact app _ (by lia) (Int.emod_nonneg _ (by lia)) (Int.emod_lt_of_pos _ h3) _
    ·walk_at "s"
     refine i_if (fun g3 => ?_) (fun g3 => absurd g1 g3)
     walk_at "s"
     refine ⟨.inl ⟨rfl, _, SqL.of N.at_⟩, ?_⟩
     walk_at "s"
     refine i_app N.at_ (szlt (by simpa [iL] using lenx)) ?_
     exact app _ (by lia) (Int.emod_nonneg _ (by lia)) (Int.emod_lt_of_pos _ h3) _
   ·walk_at "s"
    refine i_if (fun g3 => absurd g3 g1) (fun g3 => ?_)
    exact ⟨rest, stirred2, _, xs, rfl, hst0, hst1, N, by lia, hb⟩
  ·rintro σ H2 ⟨rest, stirred, kk, xs, rfl, s0, s1, N, hx, hb⟩
   walk_at "s"
   exact k l H2 xs N (by lia) hb
def spWhole : Sp := fun vs H Q _ => ∃ i, vs = [.int i] ∧ Q (.bl true) H
theorem ok_law_whole (T : Txt mg) (D : Def K mg "_law_whole" s_law_whole) : Callee P w K mg base "_law_whole" 1 spWhole := by
 refine D.ok sc_law_whole bd_law_whole (fun vs H Q E h => ?len) (fun f cdv A outer s H vs Q E hr h => ?body)
 case len => obtain ⟨i, rfl, _⟩ := h; rfl
 case body =>
  obtain ⟨i, rfl, k⟩ := h
  refine ⟨_, (pss_one (ps_ret (pe_and (pe_callB (call_isinstanceK K) (by rfl) T.z_isinstance bt_isinstance (pa_cons (pv 0) (pa_cons (pe_bltn (by rfl) T.z_int bt_int (show RelV (.ty "int") _ from rfl)) pa_nil))) (pe_one (pe_not (pe_callB (call_isinstanceK K) (by rfl) T.z_isinstance bt_isinstance (pa_cons (pv 0) (pa_cons (pe_bltn (by rfl) T.z_bool bt_bool (show RelV (.ty "bool") _ from rfl)) pa_nil)))))))), ?_⟩
  walk_at "un"
  try clear hu
  walk_at "s"
  exact k
def spPlaces : Sp := fun vs H Q _ => ∃ (a : Addr) (ns : List Int) (many : Int), vs = [.ref a, .int many] ∧ H a = some (.lst (iL ns)) ∧ (ns.length : Int) = many ∧ ns.length ≤ 50000 ∧ ∀ H', Same H H' → Q (.bl true) H'
theorem ok_law_places (T : Txt mg) (D : Def K mg "_law_places" s_law_places) (C_law_whole : Callee P w K mg base "_law_whole" 1 spWhole) : Callee P w K mg base "_law_places" 2 spPlaces := by
 refine D.ok sc_law_places bd_law_places (fun vs H Q E h => ?len) (fun f cdv A outer s H vs Q E hr h => ?body)
 case len => obtain ⟨a, ns, k, rfl, _⟩ := h; rfl
 case body =>
  obtain ⟨a, ns, many, rfl, hS, hm, hbig, k⟩ := h
  have hu := hr.units
  refine ⟨_, (pss_cons (ps_if (PW.pt (pw_or (pt_not (pt_truthK K (pe_callB (call_isinstanceK K) (by rfl) T.z_isinstance bt_isinstance (pa_cons (pv 0) (pa_cons (pe_bltn (by rfl) T.z_list bt_list (show RelV (.ty "list") _ from rfl)) pa_nil))))) (pw_or1 (pt_cmpR (op_neK K hu) (pe_callB (call_lenK K) (by rfl) T.z_len bt_len (pa_cons (pv 0) pa_nil)) (pv 1) (nomark _)))))
 (pss_one (ps_ret pe_bl))
 pss_nil)
 (pss_one (ps_ret (pe_cmpR (op_eqK K hu) (by exact pe_comp (N := ["one"]) (fr := [none]) ⟨by rfl, by decide +kernel, by decide +kernel, (show ∀ y ∈ (_ : List (Str × NameKind)), y.2 = NameKind.free → (defScope s_law_places).names.lookup y.1 = some .cell ∨ (defScope s_law_places).names.lookup y.1 = some .free by decide +kernel), (fr_none fr_nil)⟩ (by rfl) (pi_listK K (pv 0)) (fun _ _ _ _ => (pg_name (i := 0) (show List.Nodup (["one"] : List Str) by decide) (by rfl) (by first | exact Or.inl rfl | exact Or.inr rfl))) (fun _ _ _ _ => (pifs_one (pt_not (pt_truthK K (pe_callN C_law_whole (hr.mono (by decide)) (by rfl) (pa_cons (pv 0) pa_nil)))))) (fun _ _ _ _ => (pv 0)) (gw_name (by rfl))) (pe_lst pa_nil) (nomark _))))), ?_⟩
  walk_at "un"
  try clear hu
  walk_at "s"
  refine i_isiLL hS ?_
  walk_at "s"
  refine i_lenI (SqL.of hS) ?_
  walk_at "s"
  refine i_ifn (fun g => absurd hm g) (fun _ => ?_)
  walk_at "s"
  refine ⟨⟨_, SqL.of hS⟩, cp_list (xs := iL ns) (fun i ys H2 => ys = [] ∧ Same H H2) ⟨rfl, Same.refl _⟩ ?_ (szlt (by simp [iL]; lia)) ?_ ?_⟩
  ·rintro i ys H2 ⟨rfl, sm⟩
   exact ⟨SqL.of (sm _ _ hS), by simp⟩
  ·rintro i x ys H2 hx ⟨rfl, sm⟩
   walk_at "z11"
   obtain ⟨z, hz, rfl⟩ := Option.map_eq_some_iff.mp hx
   walk_at "s"
   refine ⟨z, rfl, ?_⟩
   walk_at "s"
   exact ⟨rfl, sm⟩
  ·rintro l ys H2 ⟨rfl, sm⟩ hl
   walk_at "s"
   intro e he
   refine i_eqL (xs := []) (ys := []) (SqL.of (by rw [upd_ne (ne_of_none upd_same he), upd_same]; rfl)) (SqL.of upd_same) ?_
   exact k _ ((sm.trans (same_upd hl)).trans (same_upd he))
def okSw (top : Int) (s : Sw) : Prop := 0 ≤ s.1 ∧ s.1 < s.2.1 ∧ s.2.1 ≤ top
def spLawBox (K : PySem.W.Frag) : Sp := fun vs H Q _ => ∃ (a : Addr) (ns : List Int) (at_ : Int), vs = [.ref a, .int at_] ∧ SqL K H a (iL ns) ∧ 0 ≤ at_ ∧ ∀ t l ts sws top H', Same H H' → H' t = some (.tup [.int top, .ref l]) → H' l = some (.lst (ts.map V.ref)) → SwT H' ts sws → 1 ≤ top → top ≤ 16 → sws.length ≤ 300 → (∀ s ∈ sws, okSw top s) → Q (.ref t) H'
theorem ok_law_box (T : Txt mg) (D : Def K mg "_law_box" s_law_box) (C_law_draws : Callee P w K mg base "_law_draws" 1 spDraws) (C_law_cell_at : Callee P w K mg base "_law_cell_at" 1 (spCellAt K)) : Callee P w K mg base "_law_box" 2 (spLawBox K) := by
 refine D.ok sc_law_box bd_law_box (fun vs H Q E h => ?len) (fun f cdv A outer s H vs Q E hr h => ?body)
 case len => obtain ⟨a, ns, at_, rfl, _⟩ := h; rfl
 case body =>
  obtain ⟨a, ns, at_, rfl, hS, h0, k⟩ := h
  refine ⟨_, (pss_cons (ps_set (i := 2) sc_law_box.nd rfl (Or.inl rfl) (pe_callN C_law_draws (hr.mono (by decide)) (by rfl) (pa_cons (pe_callN C_law_cell_at (hr.mono (by decide)) (by rfl) (pa_cons (pv 0) (pa_cons (pv 1) pa_nil))) (pa_cons pe_int (pa_cons pe_int pa_nil)))))
 (pss_cons (ps_set (i := 3) sc_law_box.nd rfl (Or.inl rfl) (pe_menu (pa_cons (pe_op op_addP pe_int (pe_op op_mod (pe_ix (ix_K K) (pv 2) pe_int (by exact fun _ _ => rfl)) pe_int)) (pa_cons pe_int (pa_cons (pe_op op_addP pe_int (pe_op op_mod (pe_ix (ix_K K) (pv 2) pe_int (by exact fun _ _ => rfl)) pe_int)) pa_nil))) (pe_op op_mod (pe_ix (ix_K K) (pv 2) pe_int (by exact fun _ _ => rfl)) pe_int) (by exact fun _ _ => rfl)))
 (pss_cons (ps_set (i := 4) sc_law_box.nd rfl (Or.inl rfl) (pe_menu (pa_cons (pe_op op_mod (pe_ix (ix_K K) (pv 2) pe_int (by exact fun _ _ => rfl)) pe_int) (pa_cons (pe_op op_mod (pe_ix (ix_K K) (pv 2) pe_int (by exact fun _ _ => rfl)) pe_int) (pa_cons (pe_op op_addP pe_int (pe_op op_mod (pe_ix (ix_K K) (pv 2) pe_int (by exact fun _ _ => rfl)) pe_int)) pa_nil))) (pe_menu (pa_cons pe_int (pa_cons pe_int (pa_cons pe_int (pa_cons pe_int pa_nil)))) (pe_op op_mod (pe_ix (ix_K K) (pv 2) pe_int (by exact fun _ _ => rfl)) pe_int) (by exact fun _ _ => rfl)) (by exact fun _ _ => rfl)))
 (pss_cons (ps_set (i := 5) sc_law_box.nd rfl (Or.inl rfl) (pe_lst pa_nil))
 (pss_cons (ps_for PassesOwn.never rfl (pi_listK K (pe_callN C_law_draws (hr.mono (by decide)) (by rfl) (pa_cons (pe_callN C_law_cell_at (hr.mono (by decide)) (by rfl) (pa_cons (pv 0) (pa_cons (pe_op op_addP (pv 1) pe_int) pa_nil))) (pa_cons (pv 4) (pa_cons (pe_powK (r := 1000000000) (by decide)) pa_nil))))) (pg_name (i := 6) sc_law_box.nd rfl (Or.inl rfl))
 (pss_cons (ps_set (i := 7) sc_law_box.nd rfl (Or.inl rfl) (pe_op op_mod (pv 6) (pv 3)))
 (pss_cons (ps_set (i := 8) sc_law_box.nd rfl (Or.inl rfl) (pe_op op_addP (pe_op op_addP (pv 7) pe_int) (pe_op op_mod (pe_op op_fdiv (pv 6) pe_int) (pe_op op_sub (pv 3) (pv 7)))))
 (pss_one (ps_expr (pe_bmK K PySem.F.plainAttrs_list PySem.F.slot_list_append PySem.F.type_list_append mt_append (pv 5) (pa_cons (pe_tup (pa_cons (pv 7) (pa_cons (pv 8) (pa_cons (pe_menu (pa_cons (pe_op op_sub (pe_op op_mod (pe_op op_fdiv (pv 6) pe_int) pe_int) pe_int) (pa_cons pe_int (pa_cons (pe_op op_mulP (pv 6) (pe_powK (r := 100000000000000000000000000000000000000000000000) (by decide))) (pa_cons (pe_op op_sub pe_int (pv 6)) pa_nil)))) (pe_op op_mod (pe_op op_fdiv (pv 6) pe_int) pe_int) (by exact fun _ _ => rfl)) pa_nil)))) pa_nil)))))))
 (pss_one (ps_ret (pe_tup (pa_cons (pv 3) (pa_cons (pv 5) pa_nil)))))))))), ?_⟩
  walk_at "un"
  try clear hu
  walk_at "s"
  refine ⟨a, ns, at_, rfl, hS, h0, fun c0 => ?_⟩
  walk_at "s"
  refine ⟨c0, 5, 1000, rfl, by decide, by decide, by decide, by decide, fun lh H1 hk N1 l1 b1 => ?_⟩
  have it : ∀ {Q' : VK} {j : Int}, 0 ≤ j → j < 5 → (∀ v, 0 ≤ v → v < 1000 → Q' (.int v) H1) → rIxP K (.ref lh) (.int j) H1 Q' := fun h0 h1 q => i_ixL (SqL.of N1.at_) h0 (by lia) fun v _ m => q v (b1 v m).1 (b1 v m).2
  walk_at "s"
  refine it (by lia) (by lia) (fun v0 _ _ => ?_)
  walk_at "s"
  refine it (by lia) (by lia) (fun v1 _ _ => ?_)
  walk_at "s"
  refine it (by lia) (by lia) (fun v2 _ _ => ?_)
  walk_at "s"
  refine i_menu3 (Int.emod_nonneg _ (by decide)) (Int.emod_lt_of_pos _ (by decide)) (fun top htop => ?_)
  have ht : 1 ≤ top ∧ top ≤ 16 := by
   have r1 := Int.emod_nonneg v0 (show (16 : Int) ≠ 0 by decide)
   have r2 := Int.emod_lt_of_pos v0 (show (0 : Int) < 16 by decide)
   have r3 := Int.emod_nonneg v1 (show (4 : Int) ≠ 0 by decide)
   have r4 := Int.emod_lt_of_pos v1 (show (0 : Int) < 4 by decide)
   lia
  clear htop
  walk_at "s"
  refine it (by lia) (by lia) (fun v3 _ _ => ?_)
  walk_at "s"
  refine it (by lia) (by lia) (fun v4 _ _ => ?_)
  walk_at "s"
  refine it (by lia) (by lia) (fun v5 _ _ => ?_)
  walk_at "s"
  refine it (by lia) (by lia) (fun v6 _ _ => ?_)
  walk_at "s"
  refine i_menu4 (Int.emod_nonneg _ (by decide)) (Int.emod_lt_of_pos _ (by decide)) (fun j hj => ?_)
  have hj2 : 0 ≤ j ∧ j < 3 := by lia
  clear hj
  refine i_menu3 hj2.1 hj2.2 (fun many hmany => ?_)
  have hm : 0 ≤ many ∧ many ≤ 300 := by
   have r1 := Int.emod_nonneg v3 (show (8 : Int) ≠ 0 by decide)
   have r2 := Int.emod_lt_of_pos v3 (show (0 : Int) < 8 by decide)
   have r3 := Int.emod_nonneg v4 (show (41 : Int) ≠ 0 by decide)
   have r4 := Int.emod_lt_of_pos v4 (show (0 : Int) < 41 by decide)
   have r5 := Int.emod_nonneg v5 (show (201 : Int) ≠ 0 by decide)
   have r6 := Int.emod_lt_of_pos v5 (show (0 : Int) < 201 by decide)
   lia
  clear hmany it
  walk_at "s"
  intro l hl
  have s2 : Same H _ := N1.sm.trans (same_upd (o := .lst []) hl)
  have hlf : H l = none := N1.sm.free hl
  have e2 : upd H1 l (.lst []) l = some (.lst (([] : List Addr).map V.ref)) := upd_same
  generalize upd H1 l (.lst []) = H2 at *
  walk_at "s"
  refine ⟨a, ns, at_ + 1, rfl, s2.seq hS, by lia, fun c1 => ?_⟩
  walk_at "s"
  refine ⟨c1, many, 1000000000, rfl, hm.1, by lia, by decide, by decide, fun lq H3 pk N3 l3 b3 => ?_⟩
  have hne : lq ≠ l := fun e => by have := N3.fr; rw [e, e2] at this; cases this
  walk_at "s"
  refine ⟨⟨_, SqL.of N3.at_⟩, lp_ints (ns := pk) (fun i σ H4 => ∃ (u1 u2 u3 : Option V) (ts : List Addr) (sws : List Sw), σ = [some (.ref a), some (.int at_), some (.ref lh), some (.int top), some (.int many), some (.ref l), u1, u2, u3] ∧ Same H H4 ∧ H4 l = some (.lst (ts.map V.ref)) ∧ SwT H4 ts sws ∧ H4 lq = some (.lst (iL pk)) ∧ ts.length = i ∧ ∀ s ∈ sws, okSw top s) ?_ ?_ ?_ ?_⟩
  ·exact ⟨_, _, _, [], [], rfl, s2.trans N3.sm, N3.sm _ _ e2, .nil, N3.at_, rfl, by simp⟩
  ·rintro i σ H4 _ ⟨u1, u2, u3, ts, sws, rfl, sm, hL, hT, hq, hx, hb⟩
   exact SqL.of hq
  ·rintro i x σ H4 hxi ⟨u1, u2, u3, ts, sws, rfl, sm, hL, hT, hq, hx, hb⟩
   have hbx := b3 x (List.mem_of_getElem? hxi)
   have hil : i < pk.length := (List.getElem?_eq_some_iff.mp hxi).1
   have r1 := Int.emod_nonneg x (show top ≠ 0 by lia)
   have r2 := Int.emod_lt_of_pos x (show 0 < top by lia)
   walk_at "s"
   generalize x % top = lo at *
   have r3 := Int.emod_nonneg (x / 16) (show top - lo ≠ 0 by lia)
   have r4 := Int.emod_lt_of_pos (x / 16) (show 0 < top - lo by lia)
   try walk_at "s"
   generalize x / 16 % (top - lo) = w1 at *
   refine ⟨.inl ⟨rfl, _, SqL.of hL⟩, ?_⟩
   walk_at "s"
   refine i_mulI (cmul_l (by lia) (by lia)) ?_
   walk_at "s"
   refine i_menu4 (Int.emod_nonneg _ (by decide)) (Int.emod_lt_of_pos _ (by decide)) (fun wt _ => ?_)
   walk_at "s"
   intro t ht2
   have s5 := same_upd (o := .tup [.int lo, .int (lo + 1 + w1), .int wt]) ht2
   walk_at "s"
   refine i_app (s5 _ _ hL) (szlt (by simp; lia)) ?_
   have ntl : t ≠ l := fun z => by rw [z, hL] at ht2; cases ht2
   have up : ∀ {b : Addr} {o : HO}, H4 b = some o → b ≠ l → upd (upd H4 t (.tup [.int lo, .int (lo + 1 + w1), .int wt])) l (.lst (ts.map V.ref ++ [V.ref t])) b = some o := fun e n => by rw [upd_ne n]; exact s5 _ _ e
   refine ⟨_, _, _, ts ++ [t], sws ++ [(lo, lo + 1 + w1, wt)], rfl, fun b o e => up (sm b o e) (ne_of_none e hlf), by rw [upd_same]; simp, ?_, up hq hne, by simp; lia, ?_⟩
   ·refine Paired.snoc (Paired.mapP hT fun q s e => up e fun z => by rw [z, hL] at e; cases e) ?_
    rw [upd_ne ntl, upd_same]
   ·intro s hs
    rcases List.mem_append.mp hs with z | z
    ·exact hb s z
    ·simp at z; subst z; exact ⟨r1, by simp only; lia, by simp only; lia⟩
  ·rintro σ H4 ⟨u1, u2, u3, ts, sws, rfl, sm, hL, hT, hq, hx, hb⟩
   walk_at "s"
   intro t ht2
   have s5 := same_upd (o := .tup [.int top, .ref l]) ht2
   walk_at "z37"
   exact k t l ts sws top _ (sm.trans s5) upd_same (s5 _ _ hL) (hT.more s5) ht.1 ht.2 (by lia) hb
theorem paired_get {α β : Type} {F : α → β → Prop} : ∀ {as : List α} {bs : List β} {i : Nat} {b : β}, Paired F as bs → bs[i]? = some b → ∃ a, as[i]? = some a ∧ F a b
 | _, _, i, b, .nil, h => by simp at h
 | _, _, 0, b, .cons r _, h => by simp at h; subst h; exact ⟨_, rfl, r⟩
 | _, _, i + 1, b, .cons _ t, h => by
   obtain ⟨a, h1, h2⟩ := paired_get (i := i) (b := b) t (by simpa using h)
   exact ⟨a, by simpa using h1, h2⟩
theorem paired_getL {α β : Type} {F : α → β → Prop} : ∀ {as : List α} {bs : List β} {i : Nat} {a : α}, Paired F as bs → as[i]? = some a → ∃ b, bs[i]? = some b ∧ F a b
 | _, _, i, b, .nil, h => by simp at h
 | _, _, 0, b, .cons r _, h => by simp at h; subst h; exact ⟨_, rfl, r⟩
 | _, _, i + 1, b, .cons _ t, h => by
   obtain ⟨a, h1, h2⟩ := paired_getL (i := i) (a := b) t (by simpa using h)
   exact ⟨a, by simpa using h1, h2⟩
theorem paired_mem {α β : Type} {F : α → β → Prop} : ∀ {as : List α} {bs : List β} {a : α}, Paired F as bs → a ∈ as → ∃ b, F a b
 | _, _, a, .nil, h => by simp at h
 | _, _, a, .cons r t, h => by
   rcases List.mem_cons.mp h with e | e
   ·subst e; exact ⟨_, r⟩
   ·exact paired_mem t e
theorem ans_fsum (F : Int → Int → Bool) : ∀ sws : List Sw, ans (sws.map (·.2.2)) (sws.map fun s => (s.1, s.2.1, F s.1 s.2.1)) = fsum F sws
 | [] => rfl
 | s :: sws => by
   rw [fsum_cons]
   simp only [List.map_cons, ans]
   rw [ans_fsum F sws]
theorem ret_ans {top : Int} {sws : List Sw} (hv : ∀ s ∈ sws, okS top s) {h l : Int} (hl0 : 0 ≤ l) (hlh : l ≤ h) (st : List (Int × Int × Bool)) (hst : ∃ F : Int → Int → Bool, st = sws.map fun s => (s.1, s.2.1, F s.1 s.2.1)) :
 ans (sws.map (·.2.2)) (((st.map (stp 0)).map (stp h)).map (stp l)) = ret sws h l := by
 obtain ⟨F, rfl⟩ := hst
 have e : (((sws.map fun s => (s.1, s.2.1, F s.1 s.2.1)).map (stp 0)).map (stp h)).map (stp l) = sws.map fun s => (s.1, s.2.1, (fun a b => decide (b ≤ h ∧ a < l)) s.1 s.2.1) := by
  rw [List.map_map, List.map_map, List.map_map]
  refine List.map_congr_left fun s hs => ?_
  obtain ⟨h0, h1, _⟩ := hv s hs
  obtain ⟨a, b, c⟩ := s
  simp only at h0 h1
  simp only [Function.comp, stp]
  refine Prod.ext rfl (Prod.ext rfl ?_)
  simp only
  rw [Bool.eq_iff_iff, decide_eq_true_eq]
  (repeat' split) <;> simp <;> lia
 rw [e]
 exact ans_fsum (fun a b => decide (b ≤ h ∧ a < l)) sws
theorem stp_shape {sws : List Sw} {st : List (Int × Int × Bool)} (hst : ∃ F : Int → Int → Bool, st = sws.map fun s => (s.1, s.2.1, F s.1 s.2.1)) (c : Int) : ∃ F : Int → Int → Bool, st.map (stp c) = sws.map fun s => (s.1, s.2.1, F s.1 s.2.1) := by
 obtain ⟨F, rfl⟩ := hst
 exact ⟨fun a b => if b ≤ c then true else if c ≤ a then false else F a b, by rw [List.map_map]; rfl⟩
def spAnew (CB CS : Addr) : Sp := fun vs H Q _ => ∃ (p ls lw : Addr) (top at_ : Int) (qs : List Addr) (ws : List Int) (st : List (Int × Int × Bool)), vs = [.ref p] ∧ BoxAt CB CS H p top ls lw qs ws at_ st ∧ st.length ≤ 1000 ∧ ws.length = st.length ∧ 0 ≤ top ∧
 ∀ H', BoxAt CB CS H' p top ls lw qs ws 0 (st.map (stp 0)) → (∀ b o, H b = some o → b ≠ p → b ∉ qs → H' b = some o) → Q .non H'
theorem ok_Box_anew (T : Txt mg) (Y : Own K mg) (D : DefM K Y.c_Box "anew" "Box.anew" s_Box_anew) (C_Box_turn : CalleeM CX0 P w K mg base Y.c_Box "turn" 4 (spTurnB Y.c_Box Y.c_Switch)) : CalleeM CX0 P w K mg base Y.c_Box "anew" 5 (spAnew Y.c_Box Y.c_Switch) := by
 refine DefM.ok D sc_Box_anew bd_Box_anew (fun vs H Q E h => ?len) (fun f cdv A outer s H vs Q E hr h => ?body)
 case len => obtain ⟨p, ls, lw, top, at_, qs, ws, st, rfl, _⟩ := h; rfl
 case body =>
  obtain ⟨p, ls, lw, top, at_, qs, ws, st, rfl, B, hl, hwl, h0, k⟩ := h
  obtain ⟨dx, ep⟩ := B.ob
  refine ⟨_, (pss_one (ps_expr (pe_methN C_Box_turn Y.cl_Box (pv 0) (hr.mono (by decide)) (pa_cons pe_int pa_nil)))), ?_⟩
  walk_at "un"
  try clear hu
  walk_at "s"
  walk_at "z23"
  walk_at "s"
  exact ⟨p, ls, lw, top, at_, 0, qs, ws, st, rfl, B, hl, hwl, by decide, h0, fun H2 B2 k2 => k H2 B2 k2⟩
def spFirst (CB CS : Addr) : Sp := fun vs H Q _ => ∃ (p ls lw : Addr) (top at_ h l : Int) (qs : List Addr) (ws : List Int) (st : List (Int × Int × Bool)), vs = [.ref p, .int h, .int l] ∧ BoxAt CB CS H p top ls lw qs ws at_ st ∧ st.length ≤ 1000 ∧ ws.length = st.length ∧ 0 ≤ l ∧ l ≤ h ∧ h ≤ top ∧
 ∀ H', BoxAt CB CS H' p top ls lw qs ws l (((st.map (stp 0)).map (stp h)).map (stp l)) → (∀ b o, H b = some o → b ≠ p → b ∉ qs → H' b = some o) → Q (.int (ans ws (((st.map (stp 0)).map (stp h)).map (stp l)))) H'
theorem ok_first_return (T : Txt mg) (Y : Own K mg) (D : Def K mg "first_return" s_first_return) (C_Box_anew : CalleeM CX0 P w K mg base Y.c_Box "anew" 5 (spAnew Y.c_Box Y.c_Switch)) (C_Box_turn : CalleeM CX0 P w K mg base Y.c_Box "turn" 4 (spTurnB Y.c_Box Y.c_Switch)) : Callee P w K mg base "first_return" 6 (spFirst Y.c_Box Y.c_Switch) := by
 refine D.ok sc_first_return bd_first_return (fun vs H Q E h => ?len) (fun f cdv A outer s H vs Q E hr h => ?body)
 case len => obtain ⟨p, ls, lw, top, at_, h, l, qs, ws, st, rfl, _⟩ := h; rfl
 case body =>
  obtain ⟨p, ls, lw, top, at_, h, l, qs, ws, st, rfl, B, hl, hwl, h0, h1, h2, k⟩ := h
  obtain ⟨dx, ep⟩ := B.ob
  refine ⟨_, (pss_cons (ps_expr (pe_meth0N C_Box_anew Y.cl_Box (pv 0) (hr.mono (by decide))))
 (pss_cons (ps_expr (pe_methN C_Box_turn Y.cl_Box (pv 0) (hr.mono (by decide)) (pa_cons (pv 1) pa_nil)))
 (pss_one (ps_ret (pe_methN C_Box_turn Y.cl_Box (pv 0) (hr.mono (by decide)) (pa_cons (pv 2) pa_nil)))))), ?_⟩
  walk_at "un"
  try clear hu
  walk_at "s"
  walk_at "z23"
  walk_at "s"
  refine ⟨p, ls, lw, top, at_, qs, ws, st, rfl, B, hl, hwl, by lia, fun H2 B2 k2 => ?_⟩
  obtain ⟨dx2, ep2⟩ := B2.ob
  walk_at "s"
  refine ⟨p, dx2, _, rfl, ep2, bfl_no _ _ _ _ (by decide +kernel) (by decide +kernel) (by decide +kernel) (by decide +kernel), ?_⟩
  walk_at "s"
  refine ⟨p, ls, lw, top, 0, h, qs, ws, _, rfl, B2, by simpa using hl, by simpa using hwl, by lia, h2, fun H3 B3 k3 => ?_⟩
  obtain ⟨dx3, ep3⟩ := B3.ob
  walk_at "s"
  refine ⟨p, dx3, _, rfl, ep3, bfl_no _ _ _ _ (by decide +kernel) (by decide +kernel) (by decide +kernel) (by decide +kernel), ?_⟩
  walk_at "s"
  refine ⟨p, ls, lw, top, h, l, qs, ws, _, rfl, B3, by simpa using hl, by simpa using hwl, h0, by lia, fun H4 B4 k4 => ?_⟩
  exact k H4 B4 fun b o e n1 n2 => k4 b o (k3 b o (k2 b o e n1 n2) n1 n2) n1 n2
def TabAt (H : Hp) (us : List Addr) (tab : List (List Int)) : Prop := Paired (fun u (r : List Int) => H u = some (.lst (iL r))) us tab
theorem TabAt.more {H H' : Hp} {us : List Addr} {tab : List (List Int)} (h : TabAt H us tab) (s : Same H H') : TabAt H' us tab := Paired.mapP h fun _ _ e => s _ _ e
def spReturns (CB CS : Addr) : Sp := fun vs H Q _ => ∃ (a : Addr) (ts : List Addr) (sws : List Sw) (top : Nat), vs = [.int top, .ref a] ∧ H a = some (.lst (ts.map V.ref)) ∧ SwT H ts sws ∧ sws.length ≤ 1000 ∧ 1 ≤ top ∧ top ≤ 16 ∧ (∀ s ∈ sws, okS top s) ∧
 ∀ l us H', Same H H' → H l = none → H' l = some (.lst (us.map V.ref)) → TabAt H' us (tabOf sws (top + 1)) → (∀ u ∈ us, H u = none) → Q (.ref l) H'
theorem ok_returns_of (T : Txt mg) (Y : Own K mg) (D : Def K mg "returns_of" s_returns_of) (C_Box : CalleeC CX0 P w K mg base Y.c_Box "Box" 4 (spBoxInit Y.c_Box Y.c_Switch)) (C_first_return : Callee P w K mg base "first_return" 6 (spFirst Y.c_Box Y.c_Switch)) : Callee P w K mg base "returns_of" 7 (spReturns Y.c_Box Y.c_Switch) := by
 refine D.ok sc_returns_of bd_returns_of (fun vs H Q E h => ?len) (fun f cdv A outer s H vs Q E hr h => ?body)
 case len => obtain ⟨a, ts, sws, top, rfl, _⟩ := h; rfl
 case body =>
  obtain ⟨a, ts, sws, top, rfl, hA, hT, hl, h1, h2, hv, k⟩ := h
  refine ⟨_, (pss_cons (ps_set (i := 2) sc_returns_of.nd rfl (Or.inr rfl) (pe_makeN C_Box (hr.mono (by decide)) (by rfl) (pa_cons (pv 0) (pa_cons (pv 1) pa_nil))))
 (pss_one (ps_ret (by exact pe_compD (N := ["high", "box"]) (fr := [none, some 2]) ⟨by rfl, by decide +kernel, by decide +kernel, (show ∀ y ∈ (_ : List (Str × NameKind)), y.2 = NameKind.free → (defScope s_returns_of).names.lookup y.1 = some .cell ∨ (defScope s_returns_of).names.lookup y.1 = some .free by decide +kernel), (fr_none (fr_some (by rfl) (by first | exact Or.inl rfl | exact Or.inr rfl) (by rfl) fr_nil))⟩ (by rfl) (pi_range1 (by rfl) T.z_range (pa_cons (pe_op op_addP (pv 0) pe_int) pa_nil)) (fun _ _ _ _ => (pg_name (i := 0) (show List.Nodup (["high", "box"] : List Str) by decide) (by rfl) (by first | exact Or.inl rfl | exact Or.inr rfl))) (fun _ _ _ _ => pifs_nil) (fun _ _ _ _ => (by exact pe_comp (N := ["low", "box", "high"]) (fr := [none, some 1, some 0]) ⟨by rfl, by decide +kernel, by decide +kernel, nestD_frees (by decide +kernel), (fr_none (fr_some (by rfl) (nestD_kind (by first | exact Or.inl rfl | exact Or.inr rfl)) (by rfl) (fr_some (by rfl) (nestD_kind (by first | exact Or.inl rfl | exact Or.inr rfl)) (by rfl) fr_nil)))⟩ (by rfl) (pi_range1 (by rfl) T.z_range (pa_cons (pe_op op_addP (pv 0) pe_int) pa_nil)) (fun _ _ _ _ => (pg_name (i := 0) (show List.Nodup (["low", "box", "high"] : List Str) by decide) (by rfl) (by first | exact Or.inl rfl | exact Or.inr rfl))) (fun _ _ _ _ => pifs_nil) (fun _ _ _ _ => (pe_callN C_first_return (hr.mono (by decide)) (by rfl) (pa_cons (pv 1) (pa_cons (pv 2) (pa_cons (pv 0) pa_nil))))) (gw_name (by rfl)))) (gw_name (by rfl)))))), ?_⟩
  walk_at "un"
  try clear hu
  walk_at "s"
  intro x dx nx ndx nex
  have s1 : Same H (upd H dx (.own x)) := same_upd ndx
  have nx1 : upd H dx (.own x) x = none := by rw [upd_ne (Ne.symm nex)]; exact nx
  have s2 : Same H (upd (upd H dx (.own x)) x (.ins Y.c_Box dx [])) := s1.trans (same_upd nx1)
  have ex : upd (upd H dx (.own x)) x (.ins Y.c_Box dx []) x = some (.ins Y.c_Box dx []) := upd_same
  generalize upd (upd H dx (.own x)) x (.ins Y.c_Box dx []) = H1 at *
  refine ⟨x, dx, a, ts, sws, top, rfl, ex, s2 _ _ hA, hT.more s2, hl, by lia, by lia, fun s hs => hv s hs, fun H2 ls lw qs B fls flw fqs kp => ⟨rfl, ?_⟩⟩
  have s3 : Same H H2 := fun b o e => kp b o (s2 b o e) (ne_of_none e nx)
  have fq : ∀ q ∈ qs, H q = none := fun q hq => s2.free (fqs q hq)
  have shp : ∃ F : Int → Int → Bool, (sws.map fun s => (s.1, s.2.1, false)) = sws.map fun s => (s.1, s.2.1, F s.1 s.2.1) := ⟨fun _ _ => false, rfl⟩
  have hwl : (sws.map (·.2.2)).length = sws.length := by simp
  clear kp fqs fls flw ex s1 nx1
  generalize (sws.map fun s => (s.1, s.2.1, false)) = st0 at *
  generalize hws : sws.map (·.2.2) = ws at *
  walk_at "s"
  refine ⟨by lia, by lia, cp_range (fun i ys H3 => ∃ us : List Addr, ys = us.map V.ref ∧ us.length = i ∧ Same H H3 ∧ TabAt H3 us (tabOf sws i) ∧ (∀ u ∈ us, H u = none) ∧ ∃ at_ st, BoxAt Y.c_Box Y.c_Switch H3 x top ls lw qs ws at_ st ∧ ∃ F : Int → Int → Bool, st = sws.map fun s => (s.1, s.2.1, F s.1 s.2.1)) ?_ ?_ (szlt (by lia)) ?_ ?_⟩
  ·exact ⟨[], rfl, rfl, s3, .nil, by simp, _, _, B, shp⟩
  ·rintro i ys H3 ⟨us, rfl, hu2, _⟩
   simp; lia
  ·rintro i ys H3 hi ⟨us, rfl, hul, sm, hTb, hnu, at_, st, B3, hF⟩
   walk_at "s"
   refine ⟨by lia, by lia, cp_range (fun j zs H4 => zs = iL ((tabRow sws i).take j) ∧ j ≤ i + 1 ∧ Same H H4 ∧ TabAt H4 us (tabOf sws i) ∧ ∃ at_ st, BoxAt Y.c_Box Y.c_Switch H4 x top ls lw qs ws at_ st ∧ ∃ F : Int → Int → Bool, st = sws.map fun s => (s.1, s.2.1, F s.1 s.2.1)) ⟨by simp, by lia, sm, hTb, _, _, B3, hF⟩ ?_ (szlt (by lia)) ?_ ?_⟩
   ·rintro j zs H4 ⟨rfl, hj, _⟩
    simp [iL]; lia
   ·rintro j zs H4 hj ⟨rfl, hj2, sm4, hT4, at4, st4, B4, hF4⟩
    have hst4 : st4.length = sws.length := by obtain ⟨F, rfl⟩ := hF4; simp
    walk_at "s"
    refine ⟨x, ls, lw, top, at4, 0 + (i : Int), 0 + (j : Int), qs, ws, st4, rfl, B4, by lia, by lia, by lia, by lia, by lia, fun H5 B5 k5 => ?_⟩
    have hR := ret_ans (top := top) hv (h := 0 + (i : Int)) (l := 0 + (j : Int)) (by lia) (by lia) st4 hF4
    rw [hws] at hR
    rw [hR]
    refine ⟨?_, by lia, fun b o e => k5 b o (sm4 b o e) (ne_of_none e nx) (fun h => by rw [fq b h] at e; cases e), ?_, _, _, B5, stp_shape (stp_shape (stp_shape hF4 _) _) _⟩
    ·rw [take_snoc_get (tabRow_get sws (show j ≤ i by lia))]
     simp [iL]
    ·refine Paired.mapP hT4 fun u r e => k5 u _ e ?_ fun h => ?_
     ·obtain ⟨d, e2⟩ := B4.ob
      exact ne_kind e e2 (by intro z; cases z)
     ·obtain ⟨_, d, e2⟩ := paired_all B4.it h
      exact ne_kind e e2 (by intro z; cases z) rfl
   ·rintro u zs H4 ⟨rfl, hj, sm4, hT4, at4, st4, B4, hF4⟩ hu4
    rw [List.take_of_length_le (by rw [tabRow_len]; lia)]
    have s5 := same_upd (o := .lst (iL (tabRow sws i))) hu4
    refine ⟨us ++ [u], by simp, by simp; lia, sm4.trans s5, ?_, fun z hz => ?_, at4, st4, B4.more s5, hF4⟩
    ·unfold tabOf
     rw [List.range_succ, List.map_append]
     exact Paired.snoc (hT4.more s5) upd_same
    ·rcases List.mem_append.mp hz with q | q
     ·exact hnu z q
     ·simp at q; subst q; exact sm4.free hu4
  ·rintro l ys H3 ⟨us, rfl, hul, sm, hTb, hnu, _⟩ hl3
   have s5 := same_upd (o := .lst (us.map V.ref)) hl3
   rw [show ((top : Int) + 1).toNat = top + 1 by lia] at hTb
   exact k l us _ (sm.trans s5) (sm.free hl3) upd_same (hTb.more s5) hnu
def wOf (sws : List Sw) (k : Int × Int) : Int := ((sws.filter fun s => decide ((s.1, s.2.1) = k)).map (·.2.2)).sum
theorem wOf_snoc (sws : List Sw) (s : Sw) (k : Int × Int) : wOf (sws ++ [s]) k = wOf sws k + if (s.1, s.2.1) = k then s.2.2 else 0 := by
 unfold wOf
 rw [List.filter_append]
 by_cases h : (s.1, s.2.1) = k
 ·simp [List.filter_cons, h]
 ·simp [List.filter_cons, h]
theorem kk_inj {a b : Int × Int} (h : kk a = kk b) : a = b := by
 unfold kk at h
 simp at h
 exact Prod.ext h.1 h.2
structure DS (sws : List Sw) (kvs : List (List Key × V)) (ks : List (Int × Int)) : Prop where
 ky : kvs.map (·.1) = ks.map kk
 nd : ks.Nodup
 me : ∀ k, k ∈ ks ↔ ∃ s ∈ sws, (s.1, s.2.1) = k
 vl : ∀ k, valV kvs (kk k) = if k ∈ ks then some (.int (wOf sws k)) else none
theorem DS.step {sws : List Sw} {kvs : List (List Key × V)} {ks : List (Int × Int)} (h : DS sws kvs ks) (s : Sw) : ∃ ks', DS (sws ++ [s]) (putK kvs (kk (s.1, s.2.1)) (.int (wOf sws (s.1, s.2.1) + s.2.2))) ks' ∧ ks'.length ≤ ks.length + 1 := by
 have hv := h.vl (s.1, s.2.1)
 by_cases q : (s.1, s.2.1) ∈ ks
 ·refine ⟨ks, ⟨?_, h.nd, fun k => ?_, fun k => ?_⟩, Nat.le_succ _⟩
  ·rw [if_pos q] at hv
   rw [← h.ky]
   unfold putK
   rw [if_pos (by rw [valV_any, hv]; rfl), List.map_map]
   refine List.map_congr_left fun p _ => ?_
   simp only [Function.comp]
   split <;> rfl
  ·rw [h.me k]
   constructor
   ·rintro ⟨u, hu, e⟩; exact ⟨u, List.mem_append_left _ hu, e⟩
   ·rintro ⟨u, hu, e⟩
    rcases List.mem_append.mp hu with z | z
    ·exact ⟨u, z, e⟩
    ·simp at z; subst z; exact (h.me _).mp (by rw [← e]; exact q)
  ·rw [valV_put, wOf_snoc]
   by_cases e : kk k = kk (s.1, s.2.1)
   ·have e' := kk_inj e
    subst e'
    rw [if_pos rfl, if_pos q, if_pos rfl]
   ·have e' : ¬ (s.1, s.2.1) = k := fun z => e (by rw [z])
    rw [if_neg e, h.vl k, show (wOf sws k + if (s.1, s.2.1) = k then s.2.2 else 0) = wOf sws k by rw [if_neg e', Int.add_zero]]
 ·rw [if_neg q] at hv
  refine ⟨ks ++ [(s.1, s.2.1)], ⟨?_, ?_, fun k => ?_, fun k => ?_⟩, by simp⟩
  ·rw [putK_new _ hv, List.map_append, List.map_append, h.ky]
   rfl
  ·rw [List.nodup_append]
   refine ⟨h.nd, by simp, fun a ha b hb => ?_⟩
   simp at hb
   subst hb
   intro e
   subst e
   exact q ha
  ·rw [List.mem_append, h.me k]
   constructor
   ·rintro (⟨u, hu, e⟩ | hk)
    ·exact ⟨u, List.mem_append_left _ hu, e⟩
    ·simp at hk; exact ⟨s, by simp, hk.symm⟩
   ·rintro ⟨u, hu, e⟩
    rcases List.mem_append.mp hu with z | z
    ·exact .inl ⟨u, z, e⟩
    ·simp at z; subst z; exact .inr (by simp [e])
  ·rw [valV_put, wOf_snoc]
   by_cases e : kk k = kk (s.1, s.2.1)
   ·have e' := kk_inj e
    subst e'
    rw [if_pos rfl, if_pos (by simp), if_pos rfl]
   ·have e' : ¬ (s.1, s.2.1) = k := fun z => e (by rw [z])
    rw [if_neg e, h.vl k, if_neg e', Int.add_zero]
    by_cases z : k ∈ ks
    ·rw [if_pos z, if_pos (by simp [z])]
    ·rw [if_neg z, if_neg (by simp [z]; exact fun y => e' y.symm)]
def spMerged : Sp := fun vs H Q _ => ∃ (a : Addr) (ts : List Addr) (sws : List Sw), vs = [.ref a] ∧ H a = some (.lst (ts.map V.ref)) ∧ SwT H ts sws ∧ sws.length ≤ 1000 ∧ (∀ s ∈ sws, 0 ≤ s.2.1 ∧ s.2.1 < 100) ∧
 ∀ (l : Addr) (ts' : List Addr) (ms : List (Int × Int)) (H' : Hp), Same H H' → H' l = some (.lst (ts'.map V.ref)) → SwT H' ts' ((ms.filter fun k => decide (wOf sws k ≠ 0)).map fun k => (k.1, k.2, wOf sws k)) → ms.Nodup → (∀ k, k ∈ ms ↔ ∃ s ∈ sws, (s.1, s.2.1) = k) → (ms.Pairwise fun a b => 100 * a.1 + a.2 ≤ 100 * b.1 + b.2) → Q (.ref l) H'
theorem ok_law_merged (T : Txt mg) (D : Def K mg "_law_merged" s_law_merged) : Callee P w K mg base "_law_merged" 1 spMerged := by
 refine D.ok sc_law_merged bd_law_merged (fun vs H Q E h => ?len) (fun f cdv A outer s H vs Q E hr h => ?body)
 case len => obtain ⟨a, ts, sws, rfl, _⟩ := h; rfl
 case body =>
  obtain ⟨a, ts, sws, rfl, hA, hT, hl, hb, k⟩ := h
  have hu := hr.units
  have hu1 := Nat.lt_of_le_of_lt (Nat.add_le_add_left (show 1 ≤ 64 by decide) _) hu
  walk_at "z37"
  refine ⟨_, (pss_cons (ps_set (i := 1) sc_law_merged.nd rfl (Or.inr rfl) pe_dnewT)
 (pss_cons (ps_for PassesOwn.never rfl (pi_listK K (pv 0)) (pg_tupK K 3 (pgs_cons (pg_name (i := 2) sc_law_merged.nd rfl (Or.inl rfl)) (pgs_cons (pg_name (i := 3) sc_law_merged.nd rfl (Or.inl rfl)) (pgs_cons (pg_name (i := 4) sc_law_merged.nd rfl (Or.inl rfl)) pgs_nil))))
 (pss_one (ps_dput hu1 (pv 1) (pe_tup (pa_cons (pv 2) (pa_cons (pv 3) pa_nil))) (pe_op op_addP (pe_dget2 hu1 (pv 1) (pe_tup (pa_cons (pv 2) (pa_cons (pv 3) pa_nil))) pe_int ⟨by rfl, by rfl, by rfl, by rfl⟩) (pv 4)) (by rfl))))
 (pss_one (ps_ret (by exact pe_comp (N := ["low", "high", "sums"]) (fr := [none, none, some 1]) ⟨by rfl, by decide +kernel, by decide +kernel, (show ∀ y ∈ (_ : List (Str × NameKind)), y.2 = NameKind.free → (defScope s_law_merged).names.lookup y.1 = some .cell ∨ (defScope s_law_merged).names.lookup y.1 = some .free by decide +kernel), (fr_none (fr_none (fr_some (by rfl) (by first | exact Or.inl rfl | exact Or.inr rfl) (by rfl) fr_nil)))⟩ (by rfl) (pi_listK K (pe_callB (call_sortedDN rfl rfl) (by rfl) T.z_sorted bt_sorted (pa_cons (pv 1) pa_nil))) (fun _ _ _ _ => (pg_tupK K 2 (pgs_cons (pg_name (i := 0) (show List.Nodup (["low", "high", "sums"] : List Str) by decide) (by rfl) (by first | exact Or.inl rfl | exact Or.inr rfl)) (pgs_cons (pg_name (i := 1) (show List.Nodup (["low", "high", "sums"] : List Str) by decide) (by rfl) (by first | exact Or.inl rfl | exact Or.inr rfl)) pgs_nil)))) (fun _ _ _ _ => (pifs_one (pt_cmpR (op_neK K hu) (pe_dget hu1 (pv 2) (pe_tup (pa_cons (pv 0) (pa_cons (pv 1) pa_nil))) (by exact fun _ _ => rfl)) pe_int (nomark _)))) (fun _ _ _ _ => (pe_tup (pa_cons (pv 0) (pa_cons (pv 1) (pa_cons (pe_dget hu1 (pv 2) (pe_tup (pa_cons (pv 0) (pa_cons (pv 1) pa_nil))) (by exact fun _ _ => rfl)) pa_nil))))) (gw_tup (gws_cons (gw_name (by rfl)) (gws_cons (gw_name (by rfl)) gws_nil)))))))), ?_⟩
  walk_at "un"
  try clear hu
  walk_at "s"
  intro p hp
  have s1 : Same H _ := same_upd (o := .dT []) hp
  have e1 : upd H p (.dT []) p = some (.dT []) := upd_same
  generalize upd H p (.dT []) = H1 at *
  walk_at "s"
  refine ⟨⟨_, SqL.of (s1 _ _ hA)⟩, lp_list (xs := ts.map V.ref) (fun i σ H2 => ∃ (u2 u3 u4 : Option V) (kvs : List (List Key × V)) (ks : List (Int × Int)), σ = [some (.ref a), some (.ref p), u2, u3, u4] ∧ Same H H2 ∧ H2 p = some (.dT kvs) ∧ DS (sws.take i) kvs ks ∧ ks.length ≤ i) ?_ ?_ ?_ ?_⟩
  ·exact ⟨_, _, _, [], [], rfl, s1, e1, ⟨rfl, .nil, by simp, fun k => by rw [if_neg (by simp)]; exact valV_nil ..⟩, Nat.le_refl _⟩
  ·rintro i σ H2 _ ⟨u2, u3, u4, kvs, ks, rfl, sm, _⟩
   exact SqL.of (sm _ _ hA)
  ·rintro i x σ H2 hx ⟨u2, u3, u4, kvs, ks, rfl, sm, hp2, hD, hkl⟩
   walk_at "z11"
   walk_at "z9"
   obtain ⟨s', hsi, hTs⟩ := swt_get hT hti
   have hil : i < ts.length := (List.getElem?_eq_some_iff.mp hti).1
   have hkv : kvs.length = ks.length := by have := congrArg List.length hD.ky; simpa using this
   walk_at "s"
   refine ⟨_, _, rfl, SqT.of (sm _ _ hTs), rfl, _, _, rfl, _, _, rfl, _, _, rfl, rfl, ?_⟩
   walk_at "s"
   refine ⟨.inr ⟨kvs, .inl hp2⟩, ?_⟩
   walk_at "s"
   intro t1 ht1
   have s3 : Same H2 _ := same_upd (o := .tup [.int s'.1, .int s'.2.1]) ht1
   have e3 : upd H2 t1 (.tup [.int s'.1, .int s'.2.1]) t1 = some (.tup ((kk (s'.1, s'.2.1)).map kV)) := upd_same
   generalize upd H2 t1 (.tup [.int s'.1, .int s'.2.1]) = H3 at *
   walk_at "s"
   refine ⟨_, DGet.t (s3 _ _ hp2) e3, ?_⟩
   have hg : (valV kvs (kk (s'.1, s'.2.1))).getD (.int 0) = .int (wOf (sws.take i) (s'.1, s'.2.1)) := by
    rw [hD.vl]
    by_cases q : (s'.1, s'.2.1) ∈ ks
    ·rw [if_pos q]; rfl
    ·rw [if_neg q]
     have : wOf (sws.take i) (s'.1, s'.2.1) = 0 := by
      unfold wOf
      rw [List.filter_eq_nil_iff.mpr (fun u hu' => by simpa using fun z => q ((hD.me _).mpr ⟨u, hu', z⟩))]
      rfl
     rw [this]
     rfl
   rw [hg]
   walk_at "s"
   intro t2 ht2
   have s4 : Same H3 _ := same_upd (o := .tup [.int s'.1, .int s'.2.1]) ht2
   have e4 : upd H3 t2 (.tup [.int s'.1, .int s'.2.1]) t2 = some (.tup ((kk (s'.1, s'.2.1)).map kV)) := upd_same
   generalize upd H3 t2 (.tup [.int s'.1, .int s'.2.1]) = H4 at *
   obtain ⟨ks', hD', hk'⟩ := hD.step s'
   refine ⟨p, _, rfl, DPut.t (s4 _ _ (s3 _ _ hp2)) e4 (szlt (by lia)), _, _, _, _, ks', rfl, fun b o z => by rw [upd_ne (ne_of_none z hp)]; exact (sm.trans (s3.trans s4)) b o z, upd_same, by rw [take_snoc_get hsi]; exact hD', by lia⟩
  rintro σ H2 ⟨u2, u3, u4, kvs, ks, rfl, sm, hp2, hD, hkl⟩
  rw [List.take_of_length_le (by simp; lia)] at hD
  walk_at "s"
  refine ⟨p, kvs, 100, ks, rfl, hp2, hD.ky, fun k hk => ?_, fun l ts2 ms hl2 hP hpm hpw => ?_⟩
  ·obtain ⟨s', hs', rfl⟩ := (hD.me k).mp hk
   exact hb s' hs'
  have s3 : Same H2 _ := same_upd (o := .lst (ts2.map V.ref)) hl2
  have e3 : upd H2 l (.lst (ts2.map V.ref)) l = some (.lst (ts2.map V.ref)) := upd_same
  generalize upd H2 l (.lst (ts2.map V.ref)) = H3 at *
  have hP3 : PrAt H3 ts2 ms := Paired.mapP hP fun _ _ e => s3 _ _ e
  have hml : ts2.length = ms.length := hP.length
  have hmk : ms.length = ks.length := hpm.length_eq
  walk_at "s"
  refine ⟨⟨_, SqL.of e3⟩, cp_list (xs := ts2.map V.ref) (fun i ys H4 => ∃ ts' : List Addr, ys = ts'.map V.ref ∧ Same H3 H4 ∧ SwT H4 ts' (((ms.take i).filter fun k => decide (wOf sws k ≠ 0)).map fun k => (k.1, k.2, wOf sws k)) ∧ ts'.length ≤ i) ⟨[], rfl, Same.refl _, by simpa using .nil, Nat.le_refl _⟩ ?_ (szlt (by simp at hkl ⊢; lia)) ?_ ?_⟩
  ·rintro i ys H4 ⟨ts', rfl, sm4, _, hl'⟩
   exact ⟨SqL.of (sm4 _ _ e3), by simpa using hl'⟩
  ·rintro i x ys H4 hx ⟨ts', rfl, sm4, hT4, hl'⟩
   walk_at "z11"
   walk_at "z9"
   obtain ⟨kp, hki, hTk⟩ : ∃ kp, ms[i]? = some kp ∧ H3 t = some (.tup [.int kp.1, .int kp.2]) := by
    have go : ∀ {as : List Addr} {bs : List (Int × Int)} {i : Nat}, PrAt H3 as bs → as[i]? = some t → ∃ kp, bs[i]? = some kp ∧ H3 t = some (.tup [.int kp.1, .int kp.2]) := by
     intro as bs i q
     induction q generalizing i with
     | nil => intro z; simp at z
     | cons r _ ih =>
       intro z
       cases i with
       | zero => simp at z; subst z; exact ⟨_, rfl, r⟩
       | succ i => exact ih (i := i) (by simpa using z)
    exact go hP3 hti
   have hkm : kp ∈ ks := hpm.mem_iff.mp (List.mem_of_getElem? hki)
   have hv : valV kvs (kk kp) = some (.int (wOf sws kp)) := by rw [hD.vl, if_pos hkm]
   walk_at "s"
   refine ⟨_, _, rfl, SqT.of (sm4 _ _ hTk), rfl, _, _, rfl, _, _, rfl, rfl, ?_⟩
   walk_at "s"
   intro t1 ht1
   have s5 : Same H4 _ := same_upd (o := .tup [.int kp.1, .int kp.2]) ht1
   have e5 : upd H4 t1 (.tup [.int kp.1, .int kp.2]) t1 = some (.tup ((kk kp).map kV)) := upd_same
   generalize upd H4 t1 (.tup [.int kp.1, .int kp.2]) = H5 at *
   have hp5 := s5 _ _ (sm4 _ _ (s3 _ _ hp2))
   refine ⟨p, .int (wOf sws kp), rfl, by rw [← hv]; exact DGet.t hp5 e5, ?_⟩
   walk_at "s"
   refine i_ifn (fun g => ?_) (fun g => ?_)
   ·walk_at "s"
    intro t2 ht2
    have s6 : Same H5 _ := same_upd (o := .tup [.int kp.1, .int kp.2]) ht2
    have e6 : upd H5 t2 (.tup [.int kp.1, .int kp.2]) t2 = some (.tup ((kk kp).map kV)) := upd_same
    generalize upd H5 t2 (.tup [.int kp.1, .int kp.2]) = H6 at *
    have hp6 := s6 _ _ hp5
    refine ⟨p, .int (wOf sws kp), rfl, by rw [← hv]; exact DGet.t hp6 e6, ?_⟩
    walk_at "s"
    intro t3 ht3
    have s7 := s5.trans (s6.trans (same_upd (o := .tup [.int kp.1, .int kp.2, .int (wOf sws kp)]) ht3))
    refine ⟨ts' ++ [t3], by simp, sm4.trans s7, ?_, by simp; lia⟩
    rw [take_snoc_get hki, List.filter_append, List.map_append]
    rw [show [kp].filter (fun k => decide (wOf sws k ≠ 0)) = [kp] by simp [g]]
    exact Paired.snoc (hT4.more s7) upd_same
   ·refine ⟨ts', rfl, sm4.trans s5, ?_, by lia⟩
    rw [take_snoc_get hki, List.filter_append, List.map_append]
    rw [show [kp].filter (fun k => decide (wOf sws k ≠ 0)) = [] by simp [g]]
    simpa using hT4.more s5
  ·rintro l2 ys H4 ⟨ts', rfl, sm4, hT4, _⟩ hl4
   rw [List.take_of_length_le (by simp; lia)] at hT4
   have s8 := same_upd (o := .lst (ts'.map V.ref)) hl4
   exact k l2 ts' ms _ (sm.trans (s3.trans (sm4.trans s8))) upd_same (hT4.more s8) (hpm.nodup_iff.mpr hD.nd) (fun k => by rw [hpm.mem_iff, hD.me]) hpw
theorem fsum_flt (F : Int → Int → Bool) : ∀ sws : List Sw, ((sws.filter fun s => F s.1 s.2.1).map (·.2.2)).sum = fsum F sws
 | [] => rfl
 | s :: sws => by
   rw [fsum_cons, List.filter_cons]
   by_cases h : F s.1 s.2.1 = true
   ·rw [if_pos h, List.map_cons, List.sum_cons, fsum_flt F sws, if_pos h]
   ·rw [if_neg h, fsum_flt F sws, if_neg h, Int.zero_add]
def spLawRet : Sp := fun vs H Q _ => ∃ (a : Addr) (ts : List Addr) (sws : List Sw) (top : Nat), vs = [.int top, .ref a] ∧ H a = some (.lst (ts.map V.ref)) ∧ SwT H ts sws ∧ sws.length ≤ 1000 ∧ top ≤ 16 ∧
 ∀ l us H', Same H H' → H' l = some (.lst (us.map V.ref)) → TabAt H' us (tabOf sws (top + 1)) → Q (.ref l) H'
theorem ok_law_returns (T : Txt mg) (D : Def K mg "_law_returns" s_law_returns) : Callee P w K mg base "_law_returns" 1 spLawRet := by
 refine D.ok sc_law_returns bd_law_returns (fun vs H Q E h => ?len) (fun f cdv A outer s H vs Q E hr h => ?body)
 case len => obtain ⟨a, ts, sws, top, rfl, _⟩ := h; rfl
 case body =>
  obtain ⟨a, ts, sws, top, rfl, hA, hT, hl, ht, k⟩ := h
  have hu := hr.units
  walk_at "z37"
  refine ⟨_, (pss_cons (ps_set (i := 2) sc_law_returns.nd rfl (Or.inl rfl) (pe_lst pa_nil))
 (pss_cons (ps_for PassesOwn.never rfl (pi_range1 (by rfl) T.z_range (pa_cons (pe_op op_addP (pv 0) pe_int) pa_nil)) (pg_name (i := 3) sc_law_returns.nd rfl (Or.inr rfl))
 (pss_cons (ps_set (i := 4) sc_law_returns.nd rfl (Or.inl rfl) (pe_lst pa_nil))
 (pss_cons (ps_for PassesOwn.never rfl (pi_range1 (by rfl) T.z_range (pa_cons (pe_op op_addP (pv 3) pe_int) pa_nil)) (pg_name (i := 5) sc_law_returns.nd rfl (Or.inr rfl))
 (pss_one (ps_expr (pe_bmK K PySem.F.plainAttrs_list PySem.F.slot_list_append PySem.F.type_list_append mt_append (pv 4) (pa_cons (pe_callB (call_sumK K) (by rfl) T.z_sum bt_sum (pa_cons (by exact pe_comp (N := ["one", "high", "low"]) (fr := [none, some 3, some 5]) ⟨by rfl, by decide +kernel, by decide +kernel, (show ∀ y ∈ (_ : List (Str × NameKind)), y.2 = NameKind.free → (defScope s_law_returns).names.lookup y.1 = some .cell ∨ (defScope s_law_returns).names.lookup y.1 = some .free by decide +kernel), (fr_none (fr_some (by rfl) (by first | exact Or.inl rfl | exact Or.inr rfl) (by rfl) (fr_some (by rfl) (by first | exact Or.inl rfl | exact Or.inr rfl) (by rfl) fr_nil)))⟩ (by rfl) (pi_listK K (pv 1)) (fun _ _ _ _ => (pg_name (i := 0) (show List.Nodup (["one", "high", "low"] : List Str) by decide) (by rfl) (by first | exact Or.inl rfl | exact Or.inr rfl))) (fun _ _ _ _ => (pifs_one (PW.pt (pw_and (pt_cmpR op_le (pe_ix (ix_K K) (pv 0) pe_int (by exact fun _ _ => rfl)) (pv 1) (nomark _)) (pw_and1 (pt_cmpR op_lt (pe_ix (ix_K K) (pv 0) pe_int (by exact fun _ _ => rfl)) (pv 2) (nomark _))))))) (fun _ _ _ _ => (pe_ix (ix_K K) (pv 0) pe_int (by exact fun _ _ => rfl))) (gw_name (by rfl))) pa_nil)) pa_nil)))))
 (pss_one (ps_expr (pe_bmK K PySem.F.plainAttrs_list PySem.F.slot_list_append PySem.F.type_list_append mt_append (pv 2) (pa_cons (pv 4) pa_nil)))))))
 (pss_one (ps_ret (pv 2))))), ?_⟩
  walk_at "un"
  try clear hu
  walk_at "s"
  intro l1 h1
  have s1 : Same H _ := same_upd (o := .lst []) h1
  have e1 : upd H l1 (.lst []) l1 = some (.lst (([] : List Addr).map V.ref)) := upd_same
  generalize upd H l1 (.lst []) = H1 at *
  walk_at "s"
  refine ⟨by lia, by lia, lp_range (fun i σ H2 => ∃ (u3 u4 u5 : Option V) (us : List Addr), σ = [some (.int (top : Int)), some (.ref a), some (.ref l1), u3, u4, u5] ∧ Same H H2 ∧ H2 l1 = some (.lst (us.map V.ref)) ∧ Paired (fun u (r : List Int) => u ≠ l1 ∧ H2 u = some (.lst (iL r))) us (tabOf sws i) ∧ us.length = i) ?_ ?_ ?_⟩
  ·exact ⟨_, _, _, [], rfl, s1, e1, .nil, rfl⟩
  ·rintro i σ H2 hi ⟨u3, u4, u5, us, rfl, sm, hL, hTb, hul⟩
   walk_at "s"
   intro lr hlr
   have s3 : Same H2 _ := same_upd (o := .lst []) hlr
   have e3 : upd H2 lr (.lst []) lr = some (.lst (iL [])) := upd_same
   generalize upd H2 lr (.lst []) = H3 at *
   walk_at "s"
   refine ⟨by lia, by lia, lp_range (fun j σ H4 => ∃ u5 : Option V, σ = [some (.int (top : Int)), some (.ref a), some (.ref l1), some (.int (0 + (i : Int))), some (.ref lr), u5] ∧ Same H2 H4 ∧ H4 lr = some (.lst (iL ((tabRow sws i).take j)))) ?_ ?_ ?_⟩
   ·exact ⟨_, rfl, s3, by simpa using e3⟩
   ·rintro j σ H4 hj ⟨u5', rfl, sm4, e4⟩
    have hji : j ≤ i := by lia
    walk_at "s"
    refine ⟨.inl ⟨rfl, _, SqL.of e4⟩, ?_⟩
    walk_at "s"
    have hA4 := sm4 _ _ (sm _ _ hA)
    refine ⟨⟨_, SqL.of hA4⟩, cp_list (xs := ts.map V.ref) (fun m ys H5 => ys = iL (((sws.take m).filter fun s => decide (s.2.1 ≤ 0 + (i : Int) ∧ s.1 < 0 + (j : Int))).map (·.2.2)) ∧ m ≤ ts.length ∧ H4 = H5) ⟨by simp [iL], Nat.zero_le _, rfl⟩ ?_ (szlt (by simp; lia)) ?_ ?_⟩
    ·rintro m ys H5 ⟨rfl, hm, rfl⟩
     refine ⟨SqL.of hA4, ?_⟩
     simp only [iL, List.length_map]
     have := List.length_filter_le (fun s : Sw => decide (s.2.1 ≤ 0 + (i : Int) ∧ s.1 < 0 + (j : Int))) (sws.take m)
     rw [List.length_take] at this
     lia
    ·rintro m x ys H5 hx ⟨rfl, hm, rfl⟩
     walk_at "z11"
     walk_at "z9"
     obtain ⟨s', hsi, hTs⟩ := swt_get hT hti
     have hil : m < ts.length := (List.getElem?_eq_some_iff.mp hti).1
     have hTs4 := sm4 _ _ (sm _ _ hTs)
     rw [take_snoc_get hsi, List.filter_append, List.map_append]
     walk_at "s"
     refine i_ixT (SqT.of hTs4) (by decide) (v := .int s'.2.1) rfl ?_
     walk_at "s"
     refine i_if (fun g => ?_) (fun g => ?_)
     ·walk_at "s"
      refine i_ixT (SqT.of hTs4) (by decide) (v := .int s'.1) rfl ?_
      walk_at "s"
      refine i_if (fun g2 => ?_) (fun g2 => ?_)
      ·walk_at "s"
       refine i_ixT (SqT.of hTs4) (by decide) (v := .int s'.2.2) rfl ?_
       refine ⟨?_, by lia, rfl⟩
       rw [show [s'].filter (fun s => decide (s.2.1 ≤ 0 + (i : Int) ∧ s.1 < 0 + (j : Int))) = [s'] by rw [List.filter_cons, if_pos (decide_eq_true ⟨g, g2⟩)]; rfl]
       simp [iL]
      ·refine ⟨?_, by lia, rfl⟩
       rw [show [s'].filter (fun s => decide (s.2.1 ≤ 0 + (i : Int) ∧ s.1 < 0 + (j : Int))) = [] by rw [List.filter_cons, if_neg (fun z => g2 (of_decide_eq_true z).2)]; rfl]
       simp
     ·refine ⟨?_, by lia, rfl⟩
      rw [show [s'].filter (fun s => decide (s.2.1 ≤ 0 + (i : Int) ∧ s.1 < 0 + (j : Int))) = [] by rw [List.filter_cons, if_neg (fun z => g (of_decide_eq_true z).1)]; rfl]
      simp
    ·rintro l5 ys H5 ⟨rfl, hm, rfl⟩ hl5
     rw [List.take_of_length_le (by simp; lia)]
     walk_at "s"
     refine i_sum (SqL.of upd_same) ?_
     have s5 := same_upd (o := .lst (iL ((sws.filter fun s => decide (s.2.1 ≤ 0 + (i : Int) ∧ s.1 < 0 + (j : Int))).map (·.2.2)))) hl5
     have e5 := s5 _ _ e4
     generalize upd H4 l5 _ = H6 at *
     walk_at "s"
     refine i_app e5 (szlt (by simp [iL, tabRow_len]; lia)) ?_
     refine ⟨_, rfl, fun b o z => by rw [upd_ne (ne_of_none z hlr)]; exact (sm4.trans s5) b o z, ?_⟩
     rw [upd_same, take_snoc_get (tabRow_get sws hji)]
     have hv : ((sws.filter fun s => decide (s.2.1 ≤ 0 + (i : Int) ∧ s.1 < 0 + (j : Int))).map (·.2.2)).sum = ret sws i j := by
      have := fsum_flt (fun a b => decide (b ≤ 0 + (i : Int) ∧ a < 0 + (j : Int))) sws
      rw [Int.zero_add, Int.zero_add] at this ⊢
      exact this
     rw [hv]
     simp [iL]
   ·rintro σ H4 ⟨u5', rfl, sm4, e4⟩
    rw [List.take_of_length_le (by rw [tabRow_len]; lia)] at e4
    have hL4 := sm4 _ _ hL
    walk_at "s"
    refine ⟨.inl ⟨rfl, _, SqL.of hL4⟩, ?_⟩
    walk_at "s"
    refine i_app hL4 (szlt (by simp; lia)) ?_
    have nrl : lr ≠ l1 := fun z => by rw [z, hL] at hlr; cases hlr
    refine ⟨_, _, _, us ++ [lr], rfl, fun b o z => by rw [upd_ne (ne_of_none z h1)]; exact (sm.trans sm4) b o z, by rw [upd_same]; simp, ?_, by simp; lia⟩
    unfold tabOf
    rw [List.range_succ, List.map_append]
    exact Paired.snoc (Paired.mapP hTb fun u r e => ⟨e.1, by rw [upd_ne e.1]; exact sm4 _ _ e.2⟩) ⟨nrl, by rw [upd_ne nrl]; exact e4⟩
  ·rintro σ H2 ⟨u3, u4, u5, us, rfl, sm, hL, hTb, hul⟩
   walk_at "s"
   rw [show ((top : Int) + 1).toNat = top + 1 by lia] at hTb
   exact k l1 us H2 sm hL (Paired.mapP hTb fun _ _ e => e.2)
abbrev bL (bs : List Bool) : List V := bs.map V.bl
theorem i_isx {H : Hp} {Q : VK} {e D C' : Addr} {b : Bool} (he : H e = some (.ext (ExcAt e (.ref D)))) (C : IsiCls K D) (hk : PySem.W.kitOne K (.ref D) (.ref C') = some b) (q : Q (.bl b) H) : rIsiX K [.ref e, .ref C'] H Q := ⟨e, D, _, _, b, rfl, fun _ h => h, he, C, hk, q⟩
theorem i_isxT {H : Hp} {Q : VK} {e D : Addr} {n : String} {b : Bool} (he : H e = some (.ext (ExcAt e (.ref D)))) (C : IsiCls K D) (hk : PySem.W.kitOne K (.ref D) (.type n) = some b) (q : Q (.bl b) H) : rIsiX K [.ref e, .ty n] H Q := ⟨e, D, _, _, b, rfl, fun _ h => h, he, C, hk, q⟩
theorem bt_ValueError : bootBuiltins "ValueError" = some (.type "ValueError") := by decide +kernel
structure KinF (Z : Cls K mg) (C : Addr) (b0 b1 b2 b3 b4 b5 b6 b7 b8 b9 b10 b11 : Bool) : Prop where
 isi : IsiCls K C
 f0 : PySem.W.kitOne K (.ref C) (.ref Z.c_NoTrain) = some b0
 f1 : PySem.W.kitOne K (.ref C) (.ref Z.c_NoStand) = some b1
 f2 : PySem.W.kitOne K (.ref C) (.ref Z.c_NoPaper) = some b2
 f3 : PySem.W.kitOne K (.ref C) (.ref Z.c_NoBox) = some b3
 f4 : PySem.W.kitOne K (.ref C) (.ref Z.c_NoSwitch) = some b4
 f5 : PySem.W.kitOne K (.ref C) (.ref Z.c_NoPlace) = some b5
 f6 : PySem.W.kitOne K (.ref C) (.ref Z.c_NoTable) = some b6
 f7 : PySem.W.kitOne K (.ref C) (.ref Z.c_NoText) = some b7
 f8 : PySem.W.kitOne K (.ref C) (.ref Z.c_NoRow) = some b8
 f9 : PySem.W.kitOne K (.ref C) (.ref Z.c_NoPiece) = some b9
 f10 : PySem.W.kitOne K (.ref C) (.ref Z.c_NothingLeft) = some b10
 f11 : PySem.W.kitOne K (.ref C) (.ref Z.c_TooMany) = some b11
 f12 : PySem.W.kitOne K (.ref C) (.type "ValueError") = some true
def spKinG (Z : Cls K mg) : Sp := fun vs H Q _ => ∃ (e C : Addr) (b0 b1 b2 b3 b4 b5 b6 b7 b8 b9 b10 b11 : Bool), vs = [.ref e] ∧ H e = some (.ext (ExcAt e (.ref C))) ∧ KinF Z C b0 b1 b2 b3 b4 b5 b6 b7 b8 b9 b10 b11 ∧ ∀ l H', Same H H' → H' l = some (.lst (bL [b0, b1, b2, b3, b4, b5, b6, b7, b8, b9, b10, b11, true])) → Q (.ref l) H'
theorem ok_law_a_kin (T : Txt mg) (Z : Cls K mg) (D : Def K mg "_law_a_kin" s_law_a_kin) : CalleeN P w K mg base "_law_a_kin" 1 (spKinG Z) := by
 refine Def.okN D sc_law_a_kin bd_law_a_kin (fun vs H Q E h => ?len) (fun f cdv A outer s H vs Q E hr h => ?body)
 case len => obtain ⟨e, C, b0, b1, b2, b3, b4, b5, b6, b7, b8, b9, b10, b11, rfl, _⟩ := h; rfl
 case body =>
  obtain ⟨e, C, b0, b1, b2, b3, b4, b5, b6, b7, b8, b9, b10, b11, rfl, hE, F, k⟩ := h
  refine ⟨_, (pss_cons (ps_set (i := 1) sc_law_a_kin.nd rfl (Or.inl rfl) (pe_lst (pa_cons (pe_callB (call_isinstanceX K) (by rfl) T.z_isinstance bt_isinstance (pa_cons (pv 0) (pa_cons (pe_globR Z.m_NoTrain (by rfl)) pa_nil))) (pa_cons (pe_callB (call_isinstanceX K) (by rfl) T.z_isinstance bt_isinstance (pa_cons (pv 0) (pa_cons (pe_globR Z.m_NoStand (by rfl)) pa_nil))) (pa_cons (pe_callB (call_isinstanceX K) (by rfl) T.z_isinstance bt_isinstance (pa_cons (pv 0) (pa_cons (pe_globR Z.m_NoPaper (by rfl)) pa_nil))) (pa_cons (pe_callB (call_isinstanceX K) (by rfl) T.z_isinstance bt_isinstance (pa_cons (pv 0) (pa_cons (pe_globR Z.m_NoBox (by rfl)) pa_nil))) pa_nil))))))
 (pss_cons (ps_set (i := 1) sc_law_a_kin.nd rfl (Or.inl rfl) (pe_op op_addP (pv 1) (pe_lst (pa_cons (pe_callB (call_isinstanceX K) (by rfl) T.z_isinstance bt_isinstance (pa_cons (pv 0) (pa_cons (pe_globR Z.m_NoSwitch (by rfl)) pa_nil))) (pa_cons (pe_callB (call_isinstanceX K) (by rfl) T.z_isinstance bt_isinstance (pa_cons (pv 0) (pa_cons (pe_globR Z.m_NoPlace (by rfl)) pa_nil))) (pa_cons (pe_callB (call_isinstanceX K) (by rfl) T.z_isinstance bt_isinstance (pa_cons (pv 0) (pa_cons (pe_globR Z.m_NoTable (by rfl)) pa_nil))) pa_nil))))))
 (pss_cons (ps_set (i := 1) sc_law_a_kin.nd rfl (Or.inl rfl) (pe_op op_addP (pv 1) (pe_lst (pa_cons (pe_callB (call_isinstanceX K) (by rfl) T.z_isinstance bt_isinstance (pa_cons (pv 0) (pa_cons (pe_globR Z.m_NoText (by rfl)) pa_nil))) (pa_cons (pe_callB (call_isinstanceX K) (by rfl) T.z_isinstance bt_isinstance (pa_cons (pv 0) (pa_cons (pe_globR Z.m_NoRow (by rfl)) pa_nil))) (pa_cons (pe_callB (call_isinstanceX K) (by rfl) T.z_isinstance bt_isinstance (pa_cons (pv 0) (pa_cons (pe_globR Z.m_NoPiece (by rfl)) pa_nil))) pa_nil))))))
 (pss_one (ps_ret (pe_op op_addP (pv 1) (pe_lst (pa_cons (pe_callB (call_isinstanceX K) (by rfl) T.z_isinstance bt_isinstance (pa_cons (pv 0) (pa_cons (pe_globR Z.m_NothingLeft (by rfl)) pa_nil))) (pa_cons (pe_callB (call_isinstanceX K) (by rfl) T.z_isinstance bt_isinstance (pa_cons (pv 0) (pa_cons (pe_globR Z.m_TooMany (by rfl)) pa_nil))) (pa_cons (pe_callB (call_isinstanceX K) (by rfl) T.z_isinstance bt_isinstance (pa_cons (pv 0) (pa_cons (pe_bltn (by rfl) T.z_ValueError bt_ValueError (show RelV (.ty "ValueError") _ from rfl)) pa_nil))) pa_nil)))))))))), ?_⟩
  walk_at "un"
  try clear hu
  walk_at "s"
  refine i_isx hE F.isi F.f0 ?_
  walk_at "s"
  refine i_isx hE F.isi F.f1 ?_
  walk_at "s"
  refine i_isx hE F.isi F.f2 ?_
  walk_at "s"
  refine i_isx hE F.isi F.f3 ?_
  walk_at "s"
  intro l1 h1
  have s1 : Same H _ := same_upd (o := .lst [.bl b0, .bl b1, .bl b2, .bl b3]) h1
  have e1 : upd H l1 (.lst [.bl b0, .bl b1, .bl b2, .bl b3]) l1 = some (.lst [.bl b0, .bl b1, .bl b2, .bl b3]) := upd_same
  generalize upd H l1 (.lst [.bl b0, .bl b1, .bl b2, .bl b3]) = H1 at *
  have hE1 := s1 _ _ hE
  walk_at "s"
  refine i_isx hE1 F.isi F.f4 ?_
  walk_at "s"
  refine i_isx hE1 F.isi F.f5 ?_
  walk_at "s"
  refine i_isx hE1 F.isi F.f6 ?_
  walk_at "s"
  intro l2 h2
  refine i_addL (a := l1) (b := l2) (same_upd h2 _ _ e1) upd_same (szl (by simp)) (fun l3 h3 => ?_)
  have s3 : Same H1 _ := (same_upd (o := .lst [.bl b4, .bl b5, .bl b6]) h2).trans (same_upd (o := .lst ([.bl b0, .bl b1, .bl b2, .bl b3] ++ [.bl b4, .bl b5, .bl b6])) h3)
  have e3 : upd (upd H1 l2 (.lst [.bl b4, .bl b5, .bl b6])) l3 (.lst ([.bl b0, .bl b1, .bl b2, .bl b3] ++ [.bl b4, .bl b5, .bl b6])) l3 = some (.lst ([.bl b0, .bl b1, .bl b2, .bl b3] ++ [.bl b4, .bl b5, .bl b6])) := upd_same
  generalize upd (upd H1 l2 (.lst [.bl b4, .bl b5, .bl b6])) l3 (.lst ([.bl b0, .bl b1, .bl b2, .bl b3] ++ [.bl b4, .bl b5, .bl b6])) = H3 at *
  have S3 := s1.trans s3
  have hE3 := S3 _ _ hE
  walk_at "s"
  refine i_isx hE3 F.isi F.f7 ?_
  walk_at "s"
  refine i_isx hE3 F.isi F.f8 ?_
  walk_at "s"
  refine i_isx hE3 F.isi F.f9 ?_
  walk_at "s"
  intro l4 h4
  refine i_addL (a := l3) (b := l4) (same_upd h4 _ _ e3) upd_same (szl (by simp)) (fun l5 h5 => ?_)
  generalize hx5 : ([.bl b0, .bl b1, .bl b2, .bl b3] ++ [.bl b4, .bl b5, .bl b6] ++ [.bl b7, .bl b8, .bl b9] : List V) = x5 at *
  have s5 : Same H3 _ := (same_upd (o := .lst [.bl b7, .bl b8, .bl b9]) h4).trans (same_upd (o := .lst x5) h5)
  have e5 : upd (upd H3 l4 (.lst [.bl b7, .bl b8, .bl b9])) l5 (.lst x5) l5 = some (.lst x5) := upd_same
  generalize upd (upd H3 l4 (.lst [.bl b7, .bl b8, .bl b9])) l5 (.lst x5) = H5 at *
  have S5 := S3.trans s5
  have hE5 := S5 _ _ hE
  walk_at "s"
  refine i_isx hE5 F.isi F.f10 ?_
  walk_at "s"
  refine i_isx hE5 F.isi F.f11 ?_
  walk_at "s"
  refine i_isxT hE5 F.isi F.f12 ?_
  walk_at "s"
  intro l6 h6
  refine i_addL (a := l5) (b := l6) (same_upd h6 _ _ e5) upd_same (szl (by rw [← hx5]; simp)) (fun l7 h7 => ?_)
  refine k l7 _ ((S5.trans (same_upd h6)).trans (same_upd h7)) ?_
  rw [upd_same, ← hx5]
  rfl
def kinNames : List Str := ["NoTrain", "NoStand", "NoPaper", "NoBox", "NoSwitch", "NoPlace", "NoTable", "NoText", "NoRow", "NoPiece", "NothingLeft", "TooMany"]
theorem pd_str {H : Hp} {n : Nat} {x : Str} (h : PyData.strOk x = true) : PdAt K H n (.str x) (.str x) := by cases n <;> exact ⟨rfl, h⟩
theorem i_eqS {H : Hp} {Q : VK} {x y : Str} (hx : PyData.strOk x = true) (hy : PyData.strOk y = true) (q : Q (.bl (x == y)) H) : rEqP K (.str x) (.str y) H Q := ⟨_, _, pd_str hx, pd_str hy, by simpa [PyData.eqv] using q⟩
theorem names_ok : kinNames.all PyData.strOk = true := by decide +kernel
def dueX (x : Str) : List Bool := kinNames.map (· == x) ++ [true]
def spDueKinG : Sp := fun vs H Q _ => ∃ x : Str, vs = [.str x] ∧ PyData.strOk x = true ∧ ∀ l H', Same H H' → H' l = some (.lst (bL (dueX x))) → Q (.ref l) H'
theorem ok_law_due_kin (T : Txt mg) (D : Def K mg "_law_due_kin" s_law_due_kin) : Callee P w K mg base "_law_due_kin" 1 spDueKinG := by
 refine D.ok sc_law_due_kin bd_law_due_kin (fun vs H Q E h => ?len) (fun f cdv A outer s H vs Q E hr h => ?body)
 case len => obtain ⟨x, rfl, _⟩ := h; rfl
 case body =>
  obtain ⟨nm, rfl, hnm, k⟩ := h
  have hu := hr.units
  refine ⟨_, (pss_cons (ps_set (i := 1) sc_law_due_kin.nd rfl (Or.inl rfl) (pe_lst (pa_cons pe_str (pa_cons pe_str (pa_cons pe_str (pa_cons pe_str (pa_cons pe_str (pa_cons pe_str (pa_cons pe_str (pa_cons pe_str (pa_cons pe_str pa_nil)))))))))))
 (pss_cons (ps_set (i := 1) sc_law_due_kin.nd rfl (Or.inl rfl) (pe_op op_addP (pv 1) (pe_lst (pa_cons pe_str (pa_cons pe_str (pa_cons pe_str pa_nil))))))
 (pss_one (ps_ret (pe_op op_addP (by exact pe_comp (N := ["one", "name"]) (fr := [none, some 0]) ⟨by rfl, by decide +kernel, by decide +kernel, (show ∀ y ∈ (_ : List (Str × NameKind)), y.2 = NameKind.free → (defScope s_law_due_kin).names.lookup y.1 = some .cell ∨ (defScope s_law_due_kin).names.lookup y.1 = some .free by decide +kernel), (fr_none (fr_some (by rfl) (by first | exact Or.inl rfl | exact Or.inr rfl) (by rfl) fr_nil))⟩ (by rfl) (pi_listK K (pv 1)) (fun _ _ _ _ => (pg_name (i := 0) (show List.Nodup (["one", "name"] : List Str) by decide) (by rfl) (by first | exact Or.inl rfl | exact Or.inr rfl))) (fun _ _ _ _ => pifs_nil) (fun _ _ _ _ => (pe_cmpR (op_eqK K hu) (pv 0) (pv 1) (nomark _))) (gw_name (by rfl))) (pe_lst (pa_cons pe_bl pa_nil))))))), ?_⟩
  walk_at "un"
  try clear hu
  walk_at "s"
  intro l1 h1
  walk_at "s"
  intro l2 h2
  refine i_addL (a := l1) (b := l2) (same_upd h2 _ _ upd_same) upd_same (szl (by simp)) (fun l3 h3 => ?_)
  have s3' : ∀ o, Same H (upd _ l3 o) := fun o => ((same_upd h1).trans (same_upd h2)).trans (same_upd (o := o) h3)
  generalize hH : upd _ l3 _ = H3
  have s3 : Same H H3 := by rw [← hH]; exact s3' _
  have e4 : H3 l3 = some (.lst (kinNames.map V.str)) := by rw [← hH, upd_same]; rfl
  walk_at "s"
  refine ⟨⟨_, SqL.of e4⟩, cp_list (xs := kinNames.map V.str) (fun i ys H4 => ys = bL ((kinNames.take i).map (· == nm)) ∧ i ≤ 12 ∧ H3 = H4) ⟨by simp [bL], Nat.zero_le _, rfl⟩ ?_ (szlt (by simp [kinNames])) ?_ ?_⟩
  ·rintro i ys H4 ⟨rfl, hi, rfl⟩
   exact ⟨SqL.of e4, by simp [bL]; lia⟩
  ·rintro i x ys H4 hx ⟨rfl, hi, rfl⟩
   walk_at "z11"
   obtain ⟨z, hz, rfl⟩ := Option.map_eq_some_iff.mp hx
   have hil : i < kinNames.length := (List.getElem?_eq_some_iff.mp hz).1
   walk_at "s"
   refine i_eqS (List.all_eq_true.mp names_ok z (List.mem_of_getElem? hz)) hnm ?_
   refine ⟨?_, by simp [kinNames] at hil; lia, rfl⟩
   rw [take_snoc_get hz]
   simp [bL]
  ·rintro l5 ys H4 ⟨rfl, hi, rfl⟩ h5
   walk_at "s"
   intro l6 h6
   refine i_addL (a := l5) (b := l6) (same_upd h6 _ _ upd_same) upd_same (szl (by simp [bL, kinNames])) (fun l7 h7 => ?_)
   refine k l7 _ (((s3.trans (same_upd h5)).trans (same_upd h6)).trans (same_upd h7)) ?_
   rw [upd_same]
   rfl
def spIsTabG : Sp := fun vs H Q _ => ∃ (a : Addr) (us : List Addr) (tab : List (List Int)), vs = [.ref a] ∧ H a = some (.lst (us.map V.ref)) ∧ TabAt H us tab ∧ tab.length ≤ 1000 ∧ ∀ (b : Bool) H', (b = true ↔ goodT tab) → Same H H' → Q (.bl b) H'
def gdR (k : Nat) (r : List Int) : Bool := decide (r.length = k + 1 ∧ r[0]? = some 0)
theorem ok_is_table (T : Txt mg) (D : Def K mg "is_table" s_is_table) : Callee P w K mg base "is_table" 1 spIsTabG := by
 refine D.ok sc_is_table bd_is_table (fun vs H Q E h => ?len) (fun f cdv A outer s H vs Q E hr h => ?body)
 case len => obtain ⟨a, us, tab, rfl, _⟩ := h; rfl
 case body =>
  obtain ⟨a, us, tab, rfl, hA, hT, hl, k⟩ := h
  have hu := hr.units
  have hul : us.length = tab.length := hT.length
  refine ⟨_, (pss_cons (ps_if (pt_not (pt_chain op_le op_le pe_int (pe_callB (call_lenK K) (by rfl) T.z_len bt_len (pa_cons (pv 0) pa_nil)) (pe_op op_addP (pe_globI T.g_MOST_TOP (by rfl)) pe_int)))
 (pss_one (ps_ret pe_bl))
 pss_nil)
 (pss_one (ps_ret (pe_callB (call_allK K) (by rfl) T.z_all bt_all (pa_cons (by exact pe_comp (N := ["high", "answers"]) (fr := [none, none]) ⟨by rfl, by decide +kernel, by decide +kernel, (show ∀ y ∈ (_ : List (Str × NameKind)), y.2 = NameKind.free → (defScope s_is_table).names.lookup y.1 = some .cell ∨ (defScope s_is_table).names.lookup y.1 = some .free by decide +kernel), (fr_none (fr_none fr_nil))⟩ (by rfl) (pi_enumerate1K K (by rfl) T.z_enumerate (pa_cons (pv 0) pa_nil)) (fun _ _ _ _ => (pg_tupK K 2 (pgs_cons (pg_name (i := 0) (show List.Nodup (["high", "answers"] : List Str) by decide) (by rfl) (by first | exact Or.inl rfl | exact Or.inr rfl)) (pgs_cons (pg_name (i := 1) (show List.Nodup (["high", "answers"] : List Str) by decide) (by rfl) (by first | exact Or.inl rfl | exact Or.inr rfl)) pgs_nil)))) (fun _ _ _ _ => pifs_nil) (fun _ _ _ _ => (pe_and (pe_cmpR (op_eqK K hu) (pe_callB (call_lenK K) (by rfl) T.z_len bt_len (pa_cons (pv 1) pa_nil)) (pe_op op_addP (pv 0) pe_int) (nomark _)) (pe_one (pe_cmpR (op_eqK K hu) (pe_ix (ix_K K) (pv 1) pe_int (by exact fun _ _ => rfl)) pe_int (nomark _))))) (gw_tup (gws_cons (gw_name (by rfl)) (gws_cons (gw_name (by rfl)) gws_nil)))) pa_nil))))), ?_⟩
  walk_at "un"
  try clear hu
  walk_at "s"
  refine i_len (SqL.of hA) ?_
  walk_at "s"
  have no : ¬ (2 ≤ tab.length ∧ tab.length ≤ 17) → Q (.bl false) H := fun z => k false H ⟨fun e => (by cases e), fun g => absurd ⟨g.1, g.2.1⟩ z⟩ (Same.refl _)
  refine i_if (fun g1 => ?_) (fun g => ?_)
  ·walk_at "s"
   refine i_ifn (fun g => ?_) (fun g2 => ?_)
   ·walk_at "s"
    exact no (by simp at g; lia)
   have b1 : 2 ≤ tab.length := by simp at g1; lia
   have b2 : tab.length ≤ 17 := by simp at g2; lia
   walk_at "s"
   refine ⟨⟨_, hA⟩, cp_enum (xs := us.map V.ref) (fun i ys H3 => ∃ bs : List Bool, ys = bs.map V.bl ∧ bs.length = i ∧ i ≤ us.length ∧ Same H H3 ∧ ∀ j r, j < i → tab[j]? = some r → bs[j]? = some (gdR j r)) ⟨[], rfl, rfl, Nat.zero_le _, Same.refl _, by lia⟩ ?_ (szlt (by simp; lia)) ?_ ?_⟩
   ·rintro i ys H3 ⟨bs, rfl, hbl, hi, sm, _⟩
    exact ⟨SqL.of (sm _ _ hA), by simp; lia⟩
   ·rintro i x t ys H3 hx ⟨bs, rfl, hbl, hi, sm, hb⟩ ht
    walk_at "z11"
    obtain ⟨u, hui, rfl⟩ := Option.map_eq_some_iff.mp hx
    obtain ⟨r, hri, hR⟩ := paired_getL hT hui
    have hil : i < us.length := (List.getElem?_eq_some_iff.mp hui).1
    have s3 := sm.trans (same_upd (o := .tup [.int i, .ref u]) ht)
    have fin : ∀ b : Bool, b = gdR i r → ∃ bs' : List Bool, bs.map V.bl ++ [V.bl b] = bs'.map V.bl ∧ bs'.length = i + 1 ∧ i + 1 ≤ us.length ∧ Same H (upd H3 t (.tup [.int i, .ref u])) ∧ ∀ j r, j < i + 1 → tab[j]? = some r → bs'[j]? = some (gdR j r) := fun b e => by
     refine ⟨bs ++ [b], by simp, by simp; lia, by lia, s3, fun j r' hj hr' => ?_⟩
     by_cases q : j < i
     ·rw [List.getElem?_append_left (by lia)]
      exact hb j r' q hr'
     ·obtain rfl : j = i := by lia
      rw [hri] at hr'
      cases hr'
      rw [List.getElem?_append_right (by lia), hbl, Nat.sub_self, e]
      rfl
    walk_at "s"
    refine ⟨_, _, rfl, SqT.of upd_same, rfl, _, _, rfl, _, _, rfl, rfl, ?_⟩
    walk_at "s"
    refine i_lenI (SqL.of (s3 _ _ hR)) ?_
    walk_at "s"
    refine i_if (fun g => ?_) (fun g => ?_)
    ·have hr1 : r.length = i + 1 := by lia
     obtain ⟨v, hv⟩ : ∃ v, r[0]? = some v := ⟨_, List.getElem?_eq_getElem (by lia)⟩
     walk_at "s"
     refine i_ixN (SqL.of (s3 _ _ hR)) (by decide) (v := .int v) (by rw [List.getElem?_map]; simp [hv]) ?_
     walk_at "s"
     refine fin _ ?_
     unfold gdR
     rw [hv]
     simp [hr1]
    ·walk_at "s"
     refine fin _ ?_
     unfold gdR
     first | exact (decide_eq_false fun z => g (by lia)).symm | (rw [decide_eq_false (fun z => g (by lia))]; exact (decide_eq_false fun z => g (by lia)).symm)
   ·rintro l ys H3 ⟨bs, rfl, hbl, hi, sm, hb⟩ hl3
    refine i_all K (bs := bs) (SqL.of upd_same) ?_
    refine k _ _ ?_ (sm.trans (same_upd hl3))
    simp only [List.length_map] at hbl hi hb
    rw [List.all_eq_true]
    constructor
    ·intro z
     refine ⟨b1, b2, fun j r hr => ?_⟩
     have hj : j < tab.length := (List.getElem?_eq_some_iff.mp hr).1
     have e := z _ (List.mem_of_getElem? (hb j r (by lia) hr))
     simpa [gdR] using e
    ·rintro ⟨_, _, z⟩ b hbm
     obtain ⟨j, hj, rfl⟩ := List.getElem_of_mem hbm
     have hr := List.getElem?_eq_getElem (show j < tab.length by lia)
     have e := hb j _ (by lia) hr
     rw [List.getElem?_eq_getElem hj] at e
     rw [Option.some.inj e]
     simpa [gdR] using z j _ hr
  ·walk_at "s"
   exact no (by simp at g; lia)
def spWeightAtG : Sp := fun vs H Q _ => ∃ (a : Addr) (us : List Addr) (tab : List (List Int)) (lo hi : Nat), vs = [.ref a, .int lo, .int hi] ∧ H a = some (.lst (us.map V.ref)) ∧ TabAt H us tab ∧ lo < hi ∧ hi < tab.length ∧ (∀ (k : Nat) r, tab[k]? = some r → r.length = k + 1) ∧ Q (.int (WT tab lo hi)) H
theorem ok_weight_at (T : Txt mg) (D : Def K mg "weight_at" s_weight_at) : Callee P w K mg base "weight_at" 1 spWeightAtG := by
 refine D.ok sc_weight_at bd_weight_at (fun vs H Q E h => ?len) (fun f cdv A outer s H vs Q E hr h => ?body)
 case len => obtain ⟨a, us, tab, lo, hi, rfl, _⟩ := h; rfl
 case body =>
  obtain ⟨a, us, tab, lo, hi, rfl, hA, hT, h1, h2, hv, k⟩ := h
  have hu := hr.units
  obtain ⟨r1, hr1⟩ : ∃ r, tab[hi]? = some r := ⟨_, List.getElem?_eq_getElem h2⟩
  obtain ⟨r2, hr2⟩ : ∃ r, tab[hi - 1]? = some r := ⟨_, List.getElem?_eq_getElem (by lia)⟩
  have hl1 := hv _ _ hr1
  have hl2 := hv _ _ hr2
  obtain ⟨u, hui, hU⟩ := paired_get hT hr1
  obtain ⟨u2, hui2, hU2⟩ := paired_get hT hr2
  refine ⟨_, (pss_cons (ps_set (i := 3) sc_weight_at.nd rfl (Or.inl rfl) (pe_ix (ix_K K) (pv 0) (pv 2) (by exact fun _ _ => rfl)))
 (pss_cons (ps_set (i := 4) sc_weight_at.nd rfl (Or.inl rfl) (pe_ix (ix_K K) (pv 0) (pe_op op_sub (pv 2) pe_int) (by exact fun _ _ => rfl)))
 (pss_one (ps_ret (pe_op op_addP (pe_op op_sub (pe_op op_sub (pe_ix (ix_K K) (pv 3) (pe_op op_addP (pv 1) pe_int) (by exact fun _ _ => rfl)) (pe_ix (ix_K K) (pv 3) (pv 1) (by exact fun _ _ => rfl))) (pe_ix (ix_K K) (pv 4) (pe_callB (call_minK K) (by rfl) T.z_min bt_min (pa_cons (pe_op op_addP (pv 1) pe_int) (pa_cons (pe_op op_sub (pv 2) pe_int) pa_nil))) (by exact fun _ _ => rfl))) (pe_ix (ix_K K) (pv 4) (pv 1) (by exact fun _ _ => rfl))))))), ?_⟩
  walk_at "un"
  try clear hu
  walk_at "s"
  refine i_ixN (SqL.of hA) (by lia) (v := .ref u) (by rw [List.getElem?_map, show ((hi : Nat) : Int).toNat = hi by lia, hui]; rfl) ?_
  walk_at "s"
  refine i_ixN (SqL.of hA) (by lia) (v := .ref u2) (by rw [List.getElem?_map, show ((hi : Nat) : Int) - 1 = ((hi - 1 : Nat) : Int) by lia, show (((hi - 1 : Nat) : Nat) : Int).toNat = hi - 1 by lia, hui2]; rfl) ?_
  have at1 : ∀ {j : Int} (m : Nat), j.toNat = m → m ≤ hi → (iL r1)[j.toNat]? = some (V.int (tv tab hi m)) := fun {j} m e hm => by
   unfold tv
   rw [e, hr1, Option.getD_some, List.getElem?_map, List.getElem?_eq_getElem (show m < r1.length by lia)]
   rfl
  have at2 : ∀ {j : Int} (m : Nat), j.toNat = m → m ≤ hi - 1 → (iL r2)[j.toNat]? = some (V.int (tv tab (hi - 1) m)) := fun {j} m e hm => by
   unfold tv
   rw [e, hr2, Option.getD_some, List.getElem?_map, List.getElem?_eq_getElem (show m < r2.length by lia)]
   rfl
  walk_at "s"
  refine i_ixN (SqL.of hU) (by lia) (at1 (lo + 1) (by lia) (by lia)) ?_
  walk_at "s"
  refine i_ixN (SqL.of hU) (by lia) (at1 lo (by lia) (by lia)) ?_
  walk_at "s"
  refine i_min2 (fun m hm => ?_)
  walk_at "s"
  refine i_ixN (SqL.of hU2) (by lia) (at2 (min (lo + 1) (hi - 1)) (by lia) (by lia)) ?_
  walk_at "s"
  refine i_ixN (SqL.of hU2) (by lia) (at2 lo (by lia) (by lia)) ?_
  walk_at "s"
  unfold WT at k
  rw [show ((hi : Nat) : Int).toNat = hi by lia, show ((lo : Int) + 1).toNat = lo + 1 by lia, show ((lo : Nat) : Int).toNat = lo by lia, show ((hi : Int) - 1).toNat = hi - 1 by lia, show (min ((lo : Int) + 1) ((hi : Int) - 1)).toNat = min (lo + 1) (hi - 1) by lia] at k
  exact k
def spWeightsE (XT : Addr) : Sp := fun vs H Q E => ∃ (a : Addr) (us : List Addr) (tab : List (List Int)), vs = [.ref a] ∧ H a = some (.lst (us.map V.ref)) ∧ TabAt H us tab ∧ tab.length ≤ 1000 ∧
 (goodT tab → ∀ l ts H', Same H H' → H l = none → H' l = some (.lst (ts.map V.ref)) → SwT H' ts (toldW (WT tab) (tab.length - 1)) → Q (.ref l) H') ∧ (¬ goodT tab → ∀ H', Same H H' → E (.ref XT) none H')
theorem ok_weights_of (T : Txt mg) (Z : Cls K mg) (D : Def K mg "weights_of" s_weights_of) (C_is_table : Callee P w K mg base "is_table" 1 spIsTabG) (C_weight_at : Callee P w K mg base "weight_at" 1 spWeightAtG) : CalleeE P w K mg base "weights_of" 2 (spWeightsE Z.c_NoTable) := by
 refine Def.okE D sc_weights_of bd_weights_of (fun vs H Q E h => ?len) (fun f cdv A outer s H vs Q E hr h => ?body)
 case len => obtain ⟨a, us, tab, rfl, _⟩ := h; rfl
 case body =>
  obtain ⟨a, us, tab, rfl, hA, hT, htl, k, kx⟩ := h
  have hu := hr.units
  have hul : us.length = tab.length := hT.length
  refine ⟨_, (pss_cons (ps_if (pt_not (pt_truthK K (pe_callN C_is_table (hr.mono (by decide)) (by rfl) (pa_cons (pv 0) pa_nil))))
 (pss_one (ps_raise Z.exc_NoTable PySem.F.excBase_ValueError (by rfl) (pa_cons pe_str pa_nil)))
 pss_nil)
 (pss_cons (ps_set (i := 1) sc_weights_of.nd rfl (Or.inr rfl) (pe_op op_sub (pe_callB (call_lenK K) (by rfl) T.z_len bt_len (pa_cons (pv 0) pa_nil)) pe_int))
 (pss_cons (by exact ps_setC2 (i := 2) sc_weights_of.nd rfl (Or.inl rfl) (N := ["low", "high", "table", "top"]) (fr := [none, none, some 0, some 1]) (fr1 := [some 0, none, some 0, some 1]) ⟨by rfl, by decide +kernel, by decide +kernel, (show ∀ y ∈ (_ : List (Str × NameKind)), y.2 = NameKind.free → (defScope s_weights_of).names.lookup y.1 = some .cell ∨ (defScope s_weights_of).names.lookup y.1 = some .free by decide +kernel), (fr_none (fr_none (fr_some (by rfl) (by first | exact Or.inl rfl | exact Or.inr rfl) (by rfl) (fr_some (by rfl) (by first | exact Or.inl rfl | exact Or.inr rfl) (by rfl) fr_nil))))⟩ (by rfl) (by rfl) (by rfl) (fr_cover (by decide)) (pi_range1 (by rfl) T.z_range (pa_cons (pv 1) pa_nil)) (fun _ _ _ _ => (pg_name (i := 0) (show List.Nodup (["low", "high", "table", "top"] : List Str) by decide) (by rfl) (by first | exact Or.inl rfl | exact Or.inr rfl))) (fun _ _ _ _ => pifs_nil) (fun _ _ _ _ => (pi_range2 (by rfl) T.z_range (pa_cons (pe_op op_addP (pv 0) pe_int) (pa_cons (pe_op op_addP (pv 3) pe_int) pa_nil)))) (fun _ _ _ _ => (pg_name (i := 1) (show List.Nodup (["low", "high", "table", "top"] : List Str) by decide) (by rfl) (by first | exact Or.inl rfl | exact Or.inr rfl))) (fun _ _ _ _ => pifs_nil) (fun _ _ _ _ => (pe_tup (pa_cons (pv 0) (pa_cons (pv 1) (pa_cons (pe_callN C_weight_at (hr.mono (by decide)) (by rfl) (pa_cons (pv 2) (pa_cons (pv 0) (pa_cons (pv 1) pa_nil)))) pa_nil))))) (gw_name (by rfl)) (gw_name (by rfl)))
 (pss_one (ps_ret (by exact pe_comp (N := ["low", "high", "weight"]) (fr := [none, none, none]) ⟨by rfl, by decide +kernel, by decide +kernel, (show ∀ y ∈ (_ : List (Str × NameKind)), y.2 = NameKind.free → (defScope s_weights_of).names.lookup y.1 = some .cell ∨ (defScope s_weights_of).names.lookup y.1 = some .free by decide +kernel), (fr_none (fr_none (fr_none fr_nil)))⟩ (by rfl) (pi_listK K (pv 2)) (fun _ _ _ _ => (pg_tupK K 3 (pgs_cons (pg_name (i := 0) (show List.Nodup (["low", "high", "weight"] : List Str) by decide) (by rfl) (by first | exact Or.inl rfl | exact Or.inr rfl)) (pgs_cons (pg_name (i := 1) (show List.Nodup (["low", "high", "weight"] : List Str) by decide) (by rfl) (by first | exact Or.inl rfl | exact Or.inr rfl)) (pgs_cons (pg_name (i := 2) (show List.Nodup (["low", "high", "weight"] : List Str) by decide) (by rfl) (by first | exact Or.inl rfl | exact Or.inr rfl)) pgs_nil))))) (fun _ _ _ _ => (pifs_one (pt_cmpR (op_neK K hu) (pv 2) pe_int (nomark _)))) (fun _ _ _ _ => (pe_tup (pa_cons (pv 0) (pa_cons (pv 1) (pa_cons (pv 2) pa_nil))))) (gw_tup (gws_cons (gw_name (by rfl)) (gws_cons (gw_name (by rfl)) (gws_cons (gw_name (by rfl)) gws_nil)))))))))), ?_⟩
  walk_at "un"
  try clear hu
  walk_at "s"
  refine ⟨a, us, tab, rfl, hA, hT, htl, fun b H1 hb s1 => ?_⟩
  walk_at "s"
  cases b with
  | false =>
    walk_at "s"
    exact ⟨by decide, kx (fun z => by cases hb.mpr z) _ s1⟩
  | true =>
  have hg := hb.mp rfl
  replace k := k hg
  obtain ⟨g1, g2, g3⟩ := hg
  walk_at "s"
  refine i_len (SqL.of (s1 _ _ hA)) ?_
  walk_at "s"
  obtain ⟨top, htop⟩ : ∃ top, top + 1 = tab.length := ⟨tab.length - 1, by lia⟩
  have h1 : 1 ≤ top := by lia
  have h2 : top ≤ 16 := by lia
  rw [show tab.length - 1 = top by lia] at k
  have e0 : ((us.map V.ref).length : Int) - 1 = (top : Int) := by simp; lia
  rw [e0]
  walk_at "s"
  refine ⟨by lia, by lia, cp2_range (fun i ys H2 => ∃ ts : List Addr, ys = ts.map V.ref ∧ Same H H2 ∧ SwT H2 ts (allW (WT tab) top i)) ⟨[], rfl, s1, .nil⟩ ?_ ?_ ?_⟩
  ·rintro i ys H2 hi ⟨ts, rfl, sm, hS⟩
   have a1 := allW_len (WT tab) top i
   have a2 : i * top ≤ 16 * 16 := Nat.mul_le_mul (by lia) h2
   have a3 : ts.length = (allW (WT tab) top i).length := hS.length
   exact szlt (by simp; lia)
  ·rintro i ys H2 hi ⟨ts, rfl, sm, hS⟩
   walk_at "s"
   have hi2 : i < top := by lia
   refine ⟨_, _, rfl, ⟨by lia, by lia, by lia, by lia⟩, ?_⟩
   rw [show (((top : Nat) : Int) + 1 - (0 + (i : Int) + 1)).toNat = top - i by lia]
   refine last_range (fun j zs H3 => ∃ ts2 : List Addr, zs = (ts ++ ts2).map V.ref ∧ Same H H3 ∧ SwT H3 (ts ++ ts2) (allW (WT tab) top i ++ rowW (WT tab) i j)) ⟨[], by simp, sm, by simpa [rowW] using hS⟩ ?_ ?_ ?_
   ·rintro j zs H3 hj ⟨ts2, rfl, sm3, hS3⟩
    have a1 := allW_len (WT tab) top i
    have a2 : i * top ≤ 16 * 16 := Nat.mul_le_mul (by lia) h2
    have a3 : (ts ++ ts2).length = _ := hS3.length
    rw [List.length_append, List.length_append, rowW_len] at a3
    exact szlt (by rw [List.length_map, List.length_append]; lia)
   ·rintro j zs H3 hj ⟨ts2, rfl, sm3, hS3⟩
    walk_at "s"
    refine ⟨a, us, tab, i, i + 1 + j, by simp, sm3 _ _ hA, hT.more sm3, by lia, by lia, fun k r e => (g3 k r e).1, ?_⟩
    walk_at "s"
    intro t ht
    have s4 := same_upd (o := .tup [.int (0 + (i : Int)), .int (0 + (i : Int) + 1 + (j : Int)), .int (WT tab i ((i + 1 + j : Nat) : Int))]) ht
    refine ⟨ts2 ++ [t], by simp, sm3.trans s4, ?_⟩
    rw [rowW, ← List.append_assoc, ← List.append_assoc]
    refine Paired.snoc (SwT.more hS3 s4) ?_
    rw [upd_same]
    simp
   ·rintro zs H3 ⟨ts2, rfl, sm3, hS3⟩
    exact ⟨ts ++ ts2, rfl, sm3, hS3⟩
  ·rintro l ys H2 ⟨ts, rfl, sm, hS⟩ hl2
   have s3 := same_upd (o := .lst (ts.map V.ref)) hl2
   have e3 : upd H2 l (.lst (ts.map V.ref)) l = some (.lst (ts.map V.ref)) := upd_same
   have S3 := sm.trans s3
   have hS3 := SwT.more hS s3
   generalize upd H2 l (.lst (ts.map V.ref)) = H3 at *
   clear s3 hS sm hl2
   rw [show ((top : Nat) : Int).toNat = top by lia] at hS3
   have hall := allW_len (WT tab) top top
   have htt : top * top ≤ 16 * 16 := Nat.mul_le_mul h2 h2
   have k2 : ∀ l ts H', Same H H' → H l = none → H' l = some (.lst (ts.map V.ref)) → SwT H' ts ((allW (WT tab) top top).filter fun s => decide (s.2.2 ≠ 0)) → Q (.ref l) H' := k
   generalize allW (WT tab) top top = L at *
   have htl : ts.length = L.length := hS3.length
   walk_at "s"
   refine ⟨⟨_, SqL.of e3⟩, cp_list (xs := ts.map V.ref) (fun i ys H4 => ∃ qs : List Addr, ys = qs.map V.ref ∧ qs.length ≤ i ∧ Same H3 H4 ∧ SwT H4 qs ((L.take i).filter fun s => decide (s.2.2 ≠ 0))) ⟨[], rfl, Nat.le_refl _, Same.refl _, .nil⟩ ?_ (szlt (by simp; lia)) ?_ ?_⟩
   ·rintro i ys H4 ⟨qs, rfl, hq, sm4, _⟩
    exact ⟨SqL.of (sm4 _ _ e3), by simp; lia⟩
   ·rintro i x ys H4 hx ⟨qs, rfl, hq, sm4, hQ⟩
    walk_at "z11"
    walk_at "z9"
    obtain ⟨s, hsi, hTs⟩ := swt_get hS3 hti
    walk_at "s"
    refine ⟨_, _, rfl, SqT.of (sm4 _ _ hTs), rfl, _, _, rfl, _, _, rfl, _, _, rfl, rfl, ?_⟩
    walk_at "s"
    have hf : (L.take (i + 1)).filter (fun s => decide (s.2.2 ≠ 0)) = (L.take i).filter (fun s => decide (s.2.2 ≠ 0)) ++ if s.2.2 = 0 then [] else [s] := by
     rw [take_snoc_get hsi, List.filter_append]
     by_cases z : s.2.2 = 0 <;> simp [z]
    refine i_ifb (fun g => ?_) (fun g => ?_)
    ·have g2 : ¬ s.2.2 = 0 := by simpa using g
     walk_at "s"
     intro q hq2
     have s5 := same_upd (o := .tup [.int s.1, .int s.2.1, .int s.2.2]) hq2
     refine ⟨qs ++ [q], by simp, by simp; lia, sm4.trans s5, ?_⟩
     rw [hf, if_neg g2]
     exact Paired.snoc (SwT.more hQ s5) upd_same
    ·have g2 : s.2.2 = 0 := by simpa using g
     refine ⟨qs, rfl, by lia, sm4, ?_⟩
     rw [hf, if_pos g2, List.append_nil]
     exact hQ
   ·rintro l4 ys H4 ⟨qs, rfl, hq, sm4, hQ⟩ hl4
    rw [List.take_of_length_le (by simp; lia)] at hQ
    have s5 := same_upd (o := .lst (qs.map V.ref)) hl4
    exact k2 l4 qs _ (S3.trans (sm4.trans s5)) (S3.free (sm4.free hl4)) upd_same (SwT.more hQ s5)
def spOwnI : Sp := fun vs H Q _ => ∃ i, vs = [.int i] ∧ Q (.int i) H
theorem ok_law_own0 (T : Txt mg) (D : Def K mg "_law_own" s_law_own) : Callee P w K mg base "_law_own" 1 spOwnI := by
 refine D.ok sc_law_own bd_law_own (fun vs H Q E h => ?len) (fun f cdv A outer s H vs Q E hr h => ?body)
 case len => obtain ⟨i, rfl, _⟩ := h; rfl
 case body =>
  obtain ⟨i, rfl, k⟩ := h
  have hu := hr.units
  refine ⟨_, (pss_cons (ps_if (pt_truthK K (pe_callB (call_isinstanceK K) (by rfl) T.z_isinstance bt_isinstance (pa_cons (pv 0) (pa_cons (pe_bltn (by rfl) T.z_list bt_list (show RelV (.ty "list") _ from rfl)) pa_nil))))
 pss_never
 pss_nil)
 (pss_cons (ps_if (pt_truthK K (pe_callB (call_isinstanceK K) (by rfl) T.z_isinstance bt_isinstance (pa_cons (pv 0) (pa_cons (pe_bltn (by rfl) T.z_dict bt_dict (show RelV (.ty "dict") _ from rfl)) pa_nil))))
 pss_never
 pss_nil)
 (pss_cons (ps_if (PW.pt (pw_and (pt_truthK K (pe_callB (call_isinstanceK K) (by rfl) T.z_isinstance bt_isinstance (pa_cons (pv 0) (pa_cons (pe_bltn (by rfl) T.z_tuple bt_tuple (show RelV (.ty "tuple") _ from rfl)) pa_nil)))) (pw_and1 (pt_not (PW.pt (pw_and (pt_cmpR op_gt (pe_callB (call_lenK K) (by rfl) T.z_len bt_len (pa_cons (pv 0) pa_nil)) pe_int (nomark _)) (pw_and1 (pt_truthK K (pe_callB (call_isinstanceK K) (by rfl) T.z_isinstance bt_isinstance (pa_cons (pe_ix (ix_K K) (pv 0) pe_int (by exact fun _ _ => rfl)) (pa_cons (pe_bltn (by rfl) T.z_str bt_str (show RelV (.ty "str") _ from rfl)) pa_nil)))))))))))
 pss_never
 pss_nil)
 (pss_one (ps_ret (pv 0)))))), ?_⟩
  walk_at "un"
  try clear hu
  walk_at "s"
  exact k
theorem cp_own {H : Hp} {a : Addr} {xs : List V} {ns : List Int} (e : xs = iL ns) {i : Nat} {x : V} (hx : xs[i]? = some x) : ∃ z, x = .int z ∧ ns[i]? = some z := by
 subst e
 walk_at "z11"
 obtain ⟨z, hz, rfl⟩ := Option.map_eq_some_iff.mp hx
 exact ⟨z, rfl, hz⟩
def spOwn1 : Sp := fun vs H Q _ => (∃ i, vs = [.int i] ∧ Q (.int i) H) ∨ (∃ a ns, vs = [.ref a] ∧ H a = some (.lst (iL ns)) ∧ ns.length ≤ 50000 ∧ ∀ l H', NewI H H' l ns → Q (.ref l) H') ∨
 (∃ (a : Addr) (s : Sw), vs = [.ref a] ∧ H a = some (.tup [.int s.1, .int s.2.1, .int s.2.2]) ∧ ∀ t H', Same H H' → H' t = some (.tup [.int s.1, .int s.2.1, .int s.2.2]) → Q (.ref t) H')
theorem ok_law_own1 (T : Txt mg) (D : Def K mg "_law_own" s_law_own) : Callee P w K mg base "_law_own" 2 spOwn1 := by
 have C_law_own := ok_law_own0 (P := P) (w := w) (base := base) T D
 refine D.ok sc_law_own bd_law_own (fun vs H Q E h => ?len) (fun f cdv A outer s H vs Q E hr h => ?body)
 case len => rcases h with ⟨i, rfl, _⟩ | ⟨a, ns, rfl, _⟩ | ⟨a, m, rfl, _⟩ <;> rfl
 case body =>
  have hu := hr.units
  refine ⟨_, (pss_cons (ps_if (pt_truthK K (pe_callB (call_isinstanceK K) (by rfl) T.z_isinstance bt_isinstance (pa_cons (pv 0) (pa_cons (pe_bltn (by rfl) T.z_list bt_list (show RelV (.ty "list") _ from rfl)) pa_nil))))
 (pss_one (ps_ret (by exact pe_comp (N := ["part"]) (fr := [none]) ⟨by rfl, by decide +kernel, by decide +kernel, (show ∀ y ∈ (_ : List (Str × NameKind)), y.2 = NameKind.free → (defScope s_law_own).names.lookup y.1 = some .cell ∨ (defScope s_law_own).names.lookup y.1 = some .free by decide +kernel), (fr_none fr_nil)⟩ (by rfl) (pi_listK K (pv 0)) (fun _ _ _ _ => (pg_name (i := 0) (show List.Nodup (["part"] : List Str) by decide) (by rfl) (by first | exact Or.inl rfl | exact Or.inr rfl))) (fun _ _ _ _ => pifs_nil) (fun _ _ _ _ => (pe_callN C_law_own (hr.mono (by decide)) (by rfl) (pa_cons (pv 0) pa_nil))) (gw_name (by rfl)))))
 pss_nil)
 (pss_cons (ps_if (pt_truthK K (pe_callB (call_isinstanceK K) (by rfl) T.z_isinstance bt_isinstance (pa_cons (pv 0) (pa_cons (pe_bltn (by rfl) T.z_dict bt_dict (show RelV (.ty "dict") _ from rfl)) pa_nil))))
 pss_never
 pss_nil)
 (pss_join (ps_if (PW.pt (pw_and (pt_truthK K (pe_callB (call_isinstanceK K) (by rfl) T.z_isinstance bt_isinstance (pa_cons (pv 0) (pa_cons (pe_bltn (by rfl) T.z_tuple bt_tuple (show RelV (.ty "tuple") _ from rfl)) pa_nil)))) (pw_and1 (pt_not (PW.pt (pw_and (pt_cmpR op_gt (pe_callB (call_lenK K) (by rfl) T.z_len bt_len (pa_cons (pv 0) pa_nil)) pe_int (nomark _)) (pw_and1 (pt_truthK K (pe_callB (call_isinstanceK K) (by rfl) T.z_isinstance bt_isinstance (pa_cons (pe_ix (ix_K K) (pv 0) pe_int (by exact fun _ _ => rfl)) (pa_cons (pe_bltn (by rfl) T.z_str bt_str (show RelV (.ty "str") _ from rfl)) pa_nil)))))))))))
 (pss_one (ps_ret (pe_callTy (call_tupleK K) (by rfl) T.z_tuple bt_tuple (pa_cons (by exact pe_comp (N := ["part"]) (fr := [none]) ⟨by rfl, by decide +kernel, by decide +kernel, (show ∀ y ∈ (_ : List (Str × NameKind)), y.2 = NameKind.free → (defScope s_law_own).names.lookup y.1 = some .cell ∨ (defScope s_law_own).names.lookup y.1 = some .free by decide +kernel), (fr_none fr_nil)⟩ (by rfl) (pi_tupK K (pv 0)) (fun _ _ _ _ => (pg_name (i := 0) (show List.Nodup (["part"] : List Str) by decide) (by rfl) (by first | exact Or.inl rfl | exact Or.inr rfl))) (fun _ _ _ _ => pifs_nil) (fun _ _ _ _ => (pe_callN C_law_own (hr.mono (by decide)) (by rfl) (pa_cons (pv 0) pa_nil))) (gw_name (by rfl))) pa_nil))))
 pss_nil)
 (pss_one (ps_ret (pv 0)))))), ?_⟩
  walk_at "un"
  try clear hu
  rcases h with ⟨i, rfl, k⟩ | ⟨a, ns, rfl, hA, hlen, k⟩ | ⟨a, m, rfl, hA, k⟩
  ·walk_at "s"
   refine ⟨fun σ H2 => σ = [some (.int i), none, none] ∧ H2 = H, ?_, ?_⟩
   ·walk_at "s"
    exact ⟨rfl, rfl⟩
   rintro σ H2 ⟨rfl, rfl⟩
   walk_at "s"
   exact k
  ·walk_at "s"
   refine i_isiLL hA ?_
   walk_at "s"
   refine ⟨⟨_, SqL.of hA⟩, cp_list (xs := iL ns) (fun i ys H2 => ys = iL (ns.take i) ∧ i ≤ ns.length ∧ H2 = H) ⟨by simp, Nat.zero_le _, rfl⟩ ?_ (szlt (by simp [iL]; lia)) ?_ ?_⟩
   ·rintro i ys H2 ⟨rfl, hi, rfl⟩
    exact ⟨SqL.of hA, by simp [iL]; lia⟩
   ·rintro i x ys H2 hx ⟨rfl, hi, rfl⟩
    obtain ⟨z, rfl, hz⟩ := cp_own (H := H2) (a := a) rfl hx
    have hil : i < ns.length := (List.getElem?_eq_some_iff.mp hz).1
    walk_at "s"
    refine ⟨z, rfl, ?_⟩
    refine ⟨?_, by lia, rfl⟩
    rw [List.take_add_one, hz]
    simp [iL]
   ·rintro l ys H2 ⟨rfl, hi, rfl⟩ hl
    have e : (iL ns).length = ns.length := by simp [iL]
    rw [e, List.take_of_length_le (Nat.le_refl _)]
    exact k l _ ⟨hl, same_upd hl, upd_same⟩
  ·walk_at "s"
   refine i_isiTL hA ?_
   walk_at "s"
   refine i_isiTD hA ?_
   walk_at "s"
   refine ⟨fun σ H2 => False, ?_, fun σ H2 z => z.elim⟩
   walk_at "s"
   refine i_isiTT hA ?_
   walk_at "s"
   refine i_lenT (SqT.of hA) ?_
   walk_at "s"
   refine i_if (fun _ => ?_) (fun g => absurd (by simp) g)
   walk_at "s"
   refine i_ixT (SqT.of hA) (by decide) rfl ?_
   walk_at "s"
   refine i_isiIS ?_
   walk_at "s"
   refine ⟨⟨_, SqT.of hA⟩, cp_tup (xs := [.int m.1, .int m.2.1, .int m.2.2]) (fun i ys H2 => ys = iL ([m.1, m.2.1, m.2.2].take i) ∧ i ≤ 3 ∧ H2 = H) ⟨rfl, Nat.zero_le _, rfl⟩ ?_ (szlt (by simp)) ?_ ?_⟩
   ·rintro i ys H2 ⟨rfl, hi, rfl⟩
    exact ⟨SqT.of hA, by simp [iL]; lia⟩
   ·rintro i x ys H2 hx ⟨rfl, hi, rfl⟩
    have hi2 : i < 3 := (List.getElem?_eq_some_iff.mp hx).1
    obtain ⟨z, rfl, hz⟩ := cp_own (H := H2) (a := a) (ns := [m.1, m.2.1, m.2.2]) rfl hx
    walk_at "s"
    refine ⟨z, rfl, ?_⟩
    refine ⟨?_, by lia, rfl⟩
    rw [List.take_add_one, hz]
    simp [iL]
   ·rintro l ys H2 ⟨rfl, hi, rfl⟩ hl
    refine i_tupL (ys := [.int m.1, .int m.2.1, .int m.2.2]) (SqL.of upd_same) (fun t ht => ?_)
    exact k t _ ((same_upd hl).trans (same_upd ht)) upd_same
def spOwn : Sp := fun vs H Q _ => (∃ i, vs = [.int i] ∧ Q (.int i) H) ∨
 (∃ (a : Addr) (ts : List Addr) (sws : List Sw), vs = [.ref a] ∧ H a = some (.lst (ts.map V.ref)) ∧ SwT H ts sws ∧ sws.length ≤ 50000 ∧ ∀ l us H', Same H H' → H' l = some (.lst (us.map V.ref)) → SwT H' us sws → Q (.ref l) H') ∨
 (∃ (a : Addr) (ts : List Addr) (tab : List (List Int)), vs = [.ref a] ∧ H a = some (.lst (ts.map V.ref)) ∧ TabAt H ts tab ∧ tab.length ≤ 50000 ∧ (∀ r ∈ tab, r.length ≤ 50000) ∧ ∀ l us H', Same H H' → H' l = some (.lst (us.map V.ref)) → TabAt H' us tab → Q (.ref l) H')
theorem ok_law_own (T : Txt mg) (D : Def K mg "_law_own" s_law_own) : Callee P w K mg base "_law_own" 3 spOwn := by
 have C_law_own := ok_law_own1 (P := P) (w := w) (base := base) T D
 refine D.ok sc_law_own bd_law_own (fun vs H Q E h => ?len) (fun f cdv A outer s H vs Q E hr h => ?body)
 case len => rcases h with ⟨i, rfl, _⟩ | ⟨a, ts, sws, rfl, _⟩ | ⟨a, ts, tab, rfl, _⟩ <;> rfl
 case body =>
  have hu := hr.units
  refine ⟨_, (pss_cons (ps_if (pt_truthK K (pe_callB (call_isinstanceK K) (by rfl) T.z_isinstance bt_isinstance (pa_cons (pv 0) (pa_cons (pe_bltn (by rfl) T.z_list bt_list (show RelV (.ty "list") _ from rfl)) pa_nil))))
 (pss_one (ps_ret (by exact pe_comp (N := ["part"]) (fr := [none]) ⟨by rfl, by decide +kernel, by decide +kernel, (show ∀ y ∈ (_ : List (Str × NameKind)), y.2 = NameKind.free → (defScope s_law_own).names.lookup y.1 = some .cell ∨ (defScope s_law_own).names.lookup y.1 = some .free by decide +kernel), (fr_none fr_nil)⟩ (by rfl) (pi_listK K (pv 0)) (fun _ _ _ _ => (pg_name (i := 0) (show List.Nodup (["part"] : List Str) by decide) (by rfl) (by first | exact Or.inl rfl | exact Or.inr rfl))) (fun _ _ _ _ => pifs_nil) (fun _ _ _ _ => (pe_callN C_law_own (hr.mono (by decide)) (by rfl) (pa_cons (pv 0) pa_nil))) (gw_name (by rfl)))))
 pss_nil)
 (pss_cons (ps_if (pt_truthK K (pe_callB (call_isinstanceK K) (by rfl) T.z_isinstance bt_isinstance (pa_cons (pv 0) (pa_cons (pe_bltn (by rfl) T.z_dict bt_dict (show RelV (.ty "dict") _ from rfl)) pa_nil))))
 pss_never
 pss_nil)
 (pss_cons (ps_if (PW.pt (pw_and (pt_truthK K (pe_callB (call_isinstanceK K) (by rfl) T.z_isinstance bt_isinstance (pa_cons (pv 0) (pa_cons (pe_bltn (by rfl) T.z_tuple bt_tuple (show RelV (.ty "tuple") _ from rfl)) pa_nil)))) (pw_and1 (pt_not (PW.pt (pw_and (pt_cmpR op_gt (pe_callB (call_lenK K) (by rfl) T.z_len bt_len (pa_cons (pv 0) pa_nil)) pe_int (nomark _)) (pw_and1 (pt_truthK K (pe_callB (call_isinstanceK K) (by rfl) T.z_isinstance bt_isinstance (pa_cons (pe_ix (ix_K K) (pv 0) pe_int (by exact fun _ _ => rfl)) (pa_cons (pe_bltn (by rfl) T.z_str bt_str (show RelV (.ty "str") _ from rfl)) pa_nil)))))))))))
 pss_never
 pss_nil)
 (pss_one (ps_ret (pv 0)))))), ?_⟩
  walk_at "un"
  try clear hu
  rcases h with ⟨i, rfl, k⟩ | ⟨a, ts, sws, rfl, hA, hT, hlen, k⟩ | ⟨a, ts, tab, rfl, hA, hT, hlen, hrl, k⟩
  ·walk_at "s"
   exact k
  ·walk_at "z37"
   walk_at "s"
   refine i_isiLL hA ?_
   walk_at "s"
   refine ⟨⟨_, SqL.of hA⟩, cp_list (xs := ts.map V.ref) (fun i ys H2 => ∃ us : List Addr, ys = us.map V.ref ∧ us.length = i ∧ Same H H2 ∧ SwT H2 us (sws.take i)) ⟨[], rfl, rfl, Same.refl _, .nil⟩ ?_ (szlt (by simp; lia)) ?_ ?_⟩
   ·rintro i ys H2 ⟨us, rfl, hul, sm, _⟩
    exact ⟨SqL.of (sm _ _ hA), by simp; lia⟩
   ·rintro i x ys H2 hx ⟨us, rfl, hul, sm, hU⟩
    walk_at "z11"
    walk_at "z9"
    obtain ⟨s', hsi, hTs⟩ := swt_get hT hti
    walk_at "s"
    refine .inr (.inr ⟨t, s', rfl, sm _ _ hTs, fun t2 H3 s3 h3 => ?_⟩)
    refine ⟨us ++ [t2], by simp, by simp; lia, sm.trans s3, ?_⟩
    rw [take_snoc_get hsi]
    exact Paired.snoc (SwT.more hU s3) h3
   ·rintro l ys H2 ⟨us, rfl, hul, sm, hU⟩ hl
    rw [List.take_of_length_le (by simp; lia)] at hU
    exact k l us _ (sm.trans (same_upd hl)) upd_same (hU.more (same_upd hl))
  ·have htl : ts.length = tab.length := hT.length
   walk_at "s"
   refine i_isiLL hA ?_
   walk_at "s"
   refine ⟨⟨_, SqL.of hA⟩, cp_list (xs := ts.map V.ref) (fun i ys H2 => ∃ us : List Addr, ys = us.map V.ref ∧ us.length = i ∧ Same H H2 ∧ TabAt H2 us (tab.take i)) ⟨[], rfl, rfl, Same.refl _, .nil⟩ ?_ (szlt (by simp; lia)) ?_ ?_⟩
   ·rintro i ys H2 ⟨us, rfl, hul, sm, _⟩
    exact ⟨SqL.of (sm _ _ hA), by simp; lia⟩
   ·rintro i x ys H2 hx ⟨us, rfl, hul, sm, hU⟩
    walk_at "z11"
    walk_at "z9"
    obtain ⟨r, hri, hTs⟩ := paired_getL hT hti
    walk_at "s"
    refine .inr (.inl ⟨t, r, rfl, sm _ _ hTs, hrl r (List.mem_of_getElem? hri), fun t2 H3 N3 => ?_⟩)
    refine ⟨us ++ [t2], by simp, by simp; lia, sm.trans N3.sm, ?_⟩
    rw [take_snoc_get hri]
    exact Paired.snoc (TabAt.more hU N3.sm) N3.at_
   ·rintro l ys H2 ⟨us, rfl, hul, sm, hU⟩ hl
    rw [List.take_of_length_le (by simp; lia)] at hU
    exact k l us _ (sm.trans (same_upd hl)) upd_same (hU.more (same_upd hl))
theorem pd_sws {H : Hp} {l : Addr} {ts : List Addr} {sws : List Sw} {n : Nat} (h : H l = some (.lst (ts.map V.ref))) (hT : SwT H ts sws) : PdAt K H (n + 2) (.list (sws.map fun s => .tuple [.int s.1, .int s.2.1, .int s.2.2])) (.ref l) := by
 refine pd_lst (SqL.of h) ?_
 clear h
 induction hT with
 | nil => exact .nil
 | cons r _ ih => exact .cons (pd_tup (SqT.of r) (.cons pd_int (.cons pd_int (.cons pd_int .nil)))) ih
theorem pd_tab {H : Hp} {l : Addr} {ts : List Addr} {tab : List (List Int)} {n : Nat} (h : H l = some (.lst (ts.map V.ref))) (hT : TabAt H ts tab) : PdAt K H (n + 2) (.list (tab.map pL)) (.ref l) := by
 refine pd_lst (SqL.of h) ?_
 clear h
 induction hT with
 | nil => exact .nil
 | cons r _ ih => exact .cons (pd_ints (SqL.of r)) ih
theorem tab_ne {H : Hp} {l : Addr} {us : List Addr} {tab : List (List Int)} (h : H l = some (.lst (us.map V.ref))) (hT : TabAt H us tab) : ∀ u ∈ us, u ≠ l := fun u hu e => by
 subst e
 obtain ⟨r, hr⟩ := paired_mem hT hu
 rw [h] at hr
 have : us.map V.ref = iL r := by simpa using hr
 cases us with
 | nil => cases hu
 | cons x us => cases r with
   | nil => simp at this
   | cons y r => simp [iL] at this
theorem swt_ne {H : Hp} {l : Addr} {us : List Addr} {sws : List Sw} {xs : List V} (h : H l = some (.lst xs)) (hT : SwT H us sws) : ∀ u ∈ us, u ≠ l := fun u hu e => by
 subst e
 obtain ⟨r, hr⟩ := paired_mem hT hu
 rw [h] at hr
 cases hr
theorem Paired.mapP' {α β : Type} {F G : α → β → Prop} : ∀ {as : List α} {bs : List β}, Paired F as bs → (∀ a ∈ as, ∀ b, F a b → G a b) → Paired G as bs
 | _, _, .nil, _ => .nil
 | _, _, .cons a b, h => .cons (h _ List.mem_cons_self _ a) (Paired.mapP' b fun x hx y => h x (List.mem_cons_of_mem _ hx) y)
def spSoRet : Sp := fun vs H Q _ => ∃ (a : Addr) (ts : List Addr) (sws : List Sw) (top : Nat), vs = [.int top, .ref a] ∧ H a = some (.lst (ts.map V.ref)) ∧ SwT H ts sws ∧ sws.length ≤ 1000 ∧ 1 ≤ top ∧ top ≤ 16 ∧ (∀ s ∈ sws, okS top s) ∧
 ∀ l us H', Same H H' → H' l = some (.lst (us.map V.ref)) → TabAt H' us (tabOf sws (top + 1)) → Q (.ref l) H'
theorem ok_law_so_returns_of (T : Txt mg) (Y : Own K mg) (D : Def K mg "_law_so_returns_of" s_law_so_returns_of) (C_law_own : Callee P w K mg base "_law_own" 3 spOwn) (C_returns_of : Callee P w K mg base "returns_of" 7 (spReturns Y.c_Box Y.c_Switch)) : Callee P w K mg base "_law_so_returns_of" 8 spSoRet := by
 refine D.ok sc_law_so_returns_of bd_law_so_returns_of (fun vs H Q E h => ?len) (fun f cdv A outer s H vs Q E hr h => ?body)
 case len => obtain ⟨a, ts, sws, top, rfl, _⟩ := h; rfl
 case body =>
  obtain ⟨a, ts, sws, top, rfl, hA, hT, hl, ht1, ht2, hv, k⟩ := h
  have hu := hr.units
  refine ⟨_, (pss_cons (ps_set (i := 2) sc_law_so_returns_of.nd rfl (Or.inl rfl) (pe_lst (pa_cons (pe_callN C_law_own (hr.mono (by decide)) (by rfl) (pa_cons (pv 0) pa_nil)) (pa_cons (pe_callN C_law_own (hr.mono (by decide)) (by rfl) (pa_cons (pv 1) pa_nil)) pa_nil))))
 (pss_cons (ps_set (i := 3) sc_law_so_returns_of.nd rfl (Or.inl rfl) (pe_callN C_returns_of (hr.mono (by decide)) (by rfl) (pa_cons (pe_ix (ix_K K) (pv 2) pe_int (by exact fun _ _ => rfl)) (pa_cons (pe_ix (ix_K K) (pv 2) pe_int (by exact fun _ _ => rfl)) pa_nil))))
 (pss_join (ps_if (pt_truthK K (pe_callB (call_isinstanceK K) (by rfl) T.z_isinstance bt_isinstance (pa_cons (pv 3) (pa_cons (pe_bltn (by rfl) T.z_list bt_list (show RelV (.ty "list") _ from rfl)) pa_nil))))
 (pss_one (ps_expr (pe_bmK K PySem.F.plainAttrs_list PySem.F.slot_list_append PySem.F.type_list_append mt_append (pv 3) (pa_cons pe_int pa_nil))))
 pss_nil)
 (pss_cons (ps_set (i := 4) sc_law_so_returns_of.nd rfl (Or.inl rfl) (pe_cmpR (op_eqK K hu) (pv 2) (pe_lst (pa_cons (pv 0) (pa_cons (pv 1) pa_nil))) (nomark _)))
 (pss_join (ps_if (pt_truthK K (pe_callB (call_isinstanceK K) (by rfl) T.z_isinstance bt_isinstance (pa_cons (pv 3) (pa_cons (pe_bltn (by rfl) T.z_list bt_list (show RelV (.ty "list") _ from rfl)) pa_nil))))
 (pss_one (ps_expr (pe_bm0K K PySem.F.plainAttrs_list PySem.F.slot_list_pop PySem.F.type_list_pop mt_pop (pv 3))))
 pss_nil)
 (pss_one (ps_ret (pe_ifExp (pt_truthK K (pv 4)) (pv 3) pe_non)))))))), ?_⟩
  walk_at "un"
  try clear hu
  walk_at "s"
  refine .inl ⟨_, rfl, ?_⟩
  walk_at "s"
  refine .inr (.inl ⟨a, ts, sws, rfl, hA, hT, by lia, fun lo us H1 s1 hO hU => ?_⟩)
  walk_at "s"
  intro l2 h2
  have s2 : Same H1 _ := same_upd (o := .lst [.int top, .ref lo]) h2
  have e2 : upd H1 l2 (.lst [.int top, .ref lo]) l2 = some (.lst [.int top, .ref lo]) := upd_same
  generalize upd H1 l2 (.lst [.int top, .ref lo]) = H2 at *
  replace hO := s2 _ _ hO
  replace hU := hU.more s2
  replace hA := s2 _ _ (s1 _ _ hA)
  replace hT := hT.more (s1.trans s2)
  walk_at "s"
  refine i_ixN (SqL.of e2) (by decide) (v := .int top) rfl ?_
  walk_at "s"
  refine i_ixN (SqL.of e2) (by decide) (v := .ref lo) rfl ?_
  walk_at "s"
  refine ⟨lo, us, sws, top, rfl, hO, hU, hl, ht1, ht2, hv, fun lf uf H3 s3 flf hF hTb _ => ?_⟩
  have hne := tab_ne hF hTb
  have hufl : uf.length = top + 1 := by have := hTb.length; rwa [tabOf_len] at this
  have S2 := s1.trans s2
  have SF : Same H2 (upd H3 lf (.lst (uf.map V.ref ++ [V.int 0]))) := fun b o z => by rw [upd_ne (ne_of_none z flf)]; exact s3 b o z
  walk_at "s"
  refine ⟨fun σ H' => σ = [some (.int top), some (.ref a), some (.ref l2), some (.ref lf), none] ∧ H' = upd H3 lf (.lst (uf.map V.ref ++ [V.int 0])), ?_, ?_⟩
  ·walk_at "s"
   refine i_isiLL hF ?_
   walk_at "s"
   refine ⟨.inl ⟨rfl, _, SqL.of hF⟩, ?_⟩
   walk_at "s"
   refine i_app hF (szlt (by simp; lia)) ?_
   exact ⟨rfl, rfl⟩
  rintro σ H' ⟨rfl, rfl⟩
  have hTb1 : TabAt (upd H3 lf (.lst (uf.map V.ref ++ [V.int 0]))) uf (tabOf sws (top + 1)) := Paired.mapP' hTb fun u m r e => by
   rw [upd_ne (hne u m)]
   exact e
  have hF1 : upd H3 lf (.lst (uf.map V.ref ++ [V.int 0])) lf = some (.lst (uf.map V.ref ++ [V.int 0])) := upd_same
  generalize upd H3 lf (.lst (uf.map V.ref ++ [V.int 0])) = H4 at *
  walk_at "s"
  intro lg hlg
  have s5 : Same H4 _ := same_upd (o := .lst [.int top, .ref a]) hlg
  have e5 : upd H4 lg (.lst [.int top, .ref a]) lg = some (.lst [.int top, .ref a]) := upd_same
  generalize upd H4 lg (.lst [.int top, .ref a]) = H5 at *
  have SB := SF.trans s5
  refine i_eqSame (.list [.int top, .list (sws.map fun s => .tuple [.int s.1, .int s.2.1, .int s.2.2])]) (pd_lst (SqL.of (SB _ _ e2)) (.cons pd_int (.cons (pd_sws (SB _ _ hO) (hU.more SB)) .nil))) (pd_lst (SqL.of e5) (.cons pd_int (.cons (pd_sws (SB _ _ hA) (hT.more SB)) .nil))) ?_
  walk_at "s"
  have hgl := s5 _ _ hF1
  refine ⟨fun σ H' => σ = [some (.int top), some (.ref a), some (.ref l2), some (.ref lf), some (.bl true)] ∧ H' = upd H5 lf (.lst (uf.map V.ref)), ?_, ?_⟩
  ·walk_at "s"
   refine i_isiLL hgl ?_
   walk_at "s"
   refine ⟨.inl ⟨rfl, _, SqL.of hgl⟩, ?_⟩
   walk_at "s"
   refine i_popS hgl ?_
   exact ⟨rfl, rfl⟩
  rintro σ H' ⟨rfl, rfl⟩
  walk_at "s"
  refine k lf uf _ (fun b o z => ?_) upd_same (Paired.mapP' (hTb1.more s5) fun u m r e => ?_)
  ·rw [upd_ne (ne_of_none (S2 b o z) flf)]
   exact SB _ _ (S2 _ _ z)
  ·rw [upd_ne (hne u m)]
   exact e
def spSoWt (XT : Addr) : Sp := fun vs H Q E => ∃ (a : Addr) (ts : List Addr) (tab : List (List Int)), vs = [.ref a] ∧ H a = some (.lst (ts.map V.ref)) ∧ TabAt H ts tab ∧ tab.length ≤ 1000 ∧ (∀ r ∈ tab, r.length ≤ 1000) ∧
 (goodT tab → ∀ l us H', Same H H' → H' l = some (.lst (us.map V.ref)) → SwT H' us (toldW (WT tab) (tab.length - 1)) → Q (.ref l) H') ∧ (¬ goodT tab → ∀ H', Same H H' → E (.ref XT) none H')
theorem ok_law_so_weights_of (T : Txt mg) (Z : Cls K mg) (D : Def K mg "_law_so_weights_of" s_law_so_weights_of) (C_law_own : Callee P w K mg base "_law_own" 3 spOwn) (C_weights_of : CalleeE P w K mg base "weights_of" 2 (spWeightsE Z.c_NoTable)) : CalleeE P w K mg base "_law_so_weights_of" 4 (spSoWt Z.c_NoTable) := by
 refine Def.okE D sc_law_so_weights_of bd_law_so_weights_of (fun vs H Q E h => ?len) (fun f cdv A outer s H vs Q E hr h => ?body)
 case len => obtain ⟨a, ts, tab, rfl, _⟩ := h; rfl
 case body =>
  obtain ⟨a, ts, tab, rfl, hA, hT, hl, hrl, k, kx⟩ := h
  have hu := hr.units
  refine ⟨_, (pss_cons (ps_set (i := 1) sc_law_so_weights_of.nd rfl (Or.inl rfl) (pe_lst (pa_cons (pe_callN C_law_own (hr.mono (by decide)) (by rfl) (pa_cons (pv 0) pa_nil)) pa_nil)))
 (pss_cons (ps_set (i := 2) sc_law_so_weights_of.nd rfl (Or.inl rfl) (pe_callE C_weights_of (hr.mono (by decide)) (by rfl) (pa_cons (pe_ix (ix_K K) (pv 1) pe_int (by exact fun _ _ => rfl)) pa_nil)))
 (pss_join (ps_if (pt_truthK K (pe_callB (call_isinstanceK K) (by rfl) T.z_isinstance bt_isinstance (pa_cons (pv 2) (pa_cons (pe_bltn (by rfl) T.z_list bt_list (show RelV (.ty "list") _ from rfl)) pa_nil))))
 (pss_one (ps_expr (pe_bmK K PySem.F.plainAttrs_list PySem.F.slot_list_append PySem.F.type_list_append mt_append (pv 2) (pa_cons pe_int pa_nil))))
 pss_nil)
 (pss_cons (ps_set (i := 3) sc_law_so_weights_of.nd rfl (Or.inl rfl) (pe_cmpR (op_eqK K hu) (pv 1) (pe_lst (pa_cons (pv 0) pa_nil)) (nomark _)))
 (pss_join (ps_if (pt_truthK K (pe_callB (call_isinstanceK K) (by rfl) T.z_isinstance bt_isinstance (pa_cons (pv 2) (pa_cons (pe_bltn (by rfl) T.z_list bt_list (show RelV (.ty "list") _ from rfl)) pa_nil))))
 (pss_one (ps_expr (pe_bm0K K PySem.F.plainAttrs_list PySem.F.slot_list_pop PySem.F.type_list_pop mt_pop (pv 2))))
 pss_nil)
 (pss_one (ps_ret (pe_ifExp (pt_truthK K (pv 3)) (pv 2) pe_non)))))))), ?_⟩
  walk_at "un"
  try clear hu
  walk_at "s"
  refine .inr (.inr ⟨a, ts, tab, rfl, hA, hT, by lia, fun r hr' => Nat.le_trans (hrl r hr') (by lia), fun lo us H1 s1 hO hU => ?_⟩)
  walk_at "s"
  intro l2 h2
  have s2 : Same H1 _ := same_upd (o := .lst [.ref lo]) h2
  have e2 : upd H1 l2 (.lst [.ref lo]) l2 = some (.lst [.ref lo]) := upd_same
  generalize upd H1 l2 (.lst [.ref lo]) = H2 at *
  replace hO := s2 _ _ hO
  replace hU := hU.more s2
  replace hA := s2 _ _ (s1 _ _ hA)
  replace hT := hT.more (s1.trans s2)
  have S2 := s1.trans s2
  walk_at "s"
  refine i_ixN (SqL.of e2) (by decide) (v := .ref lo) rfl ?_
  walk_at "s"
  refine ⟨lo, us, tab, rfl, hO, hU, hl, fun hg lf uf H3 s3 flf hF hTb => ?_, fun hn H3 s3 => kx hn _ (S2.trans s3)⟩
  replace k := k hg
  have hne := swt_ne hF hTb
  have hufl : uf.length ≤ 256 := by rw [hTb.length]; exact toldW_len _ _ (by have := hg.2.1; lia)
  have SF : Same H2 (upd H3 lf (.lst (uf.map V.ref ++ [V.int 0]))) := fun b o z => by rw [upd_ne (ne_of_none z flf)]; exact s3 b o z
  walk_at "s"
  refine ⟨fun σ H' => σ = [some (.ref a), some (.ref l2), some (.ref lf), none] ∧ H' = upd H3 lf (.lst (uf.map V.ref ++ [V.int 0])), ?_, ?_⟩
  ·walk_at "s"
   refine i_isiLL hF ?_
   walk_at "s"
   refine ⟨.inl ⟨rfl, _, SqL.of hF⟩, ?_⟩
   walk_at "s"
   refine i_app hF (szlt (by simp; lia)) ?_
   exact ⟨rfl, rfl⟩
  rintro σ H' ⟨rfl, rfl⟩
  have hTb1 : SwT (upd H3 lf (.lst (uf.map V.ref ++ [V.int 0]))) uf (toldW (WT tab) (tab.length - 1)) := Paired.mapP' hTb fun u m r e => by
   rw [upd_ne (hne u m)]
   exact e
  have hF1 : upd H3 lf (.lst (uf.map V.ref ++ [V.int 0])) lf = some (.lst (uf.map V.ref ++ [V.int 0])) := upd_same
  generalize upd H3 lf (.lst (uf.map V.ref ++ [V.int 0])) = H4 at *
  walk_at "s"
  intro lg hlg
  have s5 : Same H4 _ := same_upd (o := .lst [.ref a]) hlg
  have e5 : upd H4 lg (.lst [.ref a]) lg = some (.lst [.ref a]) := upd_same
  generalize upd H4 lg (.lst [.ref a]) = H5 at *
  have SB := SF.trans s5
  refine i_eqSame (.list [.list (tab.map pL)]) (pd_lst (SqL.of (SB _ _ e2)) (.cons (pd_tab (SB _ _ hO) (hU.more SB)) .nil)) (pd_lst (SqL.of e5) (.cons (pd_tab (SB _ _ hA) (hT.more SB)) .nil)) ?_
  walk_at "s"
  have hgl := s5 _ _ hF1
  refine ⟨fun σ H' => σ = [some (.ref a), some (.ref l2), some (.ref lf), some (.bl true)] ∧ H' = upd H5 lf (.lst (uf.map V.ref)), ?_, ?_⟩
  ·walk_at "s"
   refine i_isiLL hgl ?_
   walk_at "s"
   refine ⟨.inl ⟨rfl, _, SqL.of hgl⟩, ?_⟩
   walk_at "s"
   refine i_popS hgl ?_
   exact ⟨rfl, rfl⟩
  rintro σ H' ⟨rfl, rfl⟩
  walk_at "s"
  refine k lf uf _ (fun b o z => ?_) upd_same (Paired.mapP' (hTb1.more s5) fun u m r e => ?_)
  ·rw [upd_ne (ne_of_none (S2 b o z) flf)]
   exact SB _ _ (S2 _ _ z)
  ·rw [upd_ne (hne u m)]
   exact e
theorem calm_law_so_weights_of {XT : Addr} (C : CalleeE P w K mg base "_law_so_weights_of" 4 (spSoWt XT)) : Callee P w K mg base "_law_so_weights_of" 4 (fun vs H Q _ => ∃ (a : Addr) (ts : List Addr) (tab : List (List Int)), vs = [.ref a] ∧ H a = some (.lst (ts.map V.ref)) ∧ TabAt H ts tab ∧ tab.length ≤ 1000 ∧ (∀ r ∈ tab, r.length ≤ 1000) ∧ goodT tab ∧ ∀ l us H', Same H H' → H' l = some (.lst (us.map V.ref)) → SwT H' us (toldW (WT tab) (tab.length - 1)) → Q (.ref l) H') :=
 calm_of C fun vs H Q E ⟨a, ts, tab, e, h1, h2, h3, h4, h5, k⟩ => ⟨a, ts, tab, e, h1, h2, h3, h4, fun _ => k, fun z => absurd h5 z⟩
def spSortedR : Sp := fun vs H Q _ => ∃ (a : Addr) (ts : List Addr) (sws : List Sw) (top : Int), vs = [.ref a, .int top] ∧ H a = some (.lst (ts.map V.ref)) ∧ SwT H ts sws ∧ sws.length ≤ 1000 ∧ (∀ s ∈ sws, okS top s ∧ s.2.2 ≠ 0) ∧ sws.Pairwise kLt ∧ ∀ H', Same H H' → Q (.bl true) H'
theorem ok_law_sorted_right (T : Txt mg) (D : Def K mg "_law_sorted_right" s_law_sorted_right) (C_law_places : Callee P w K mg base "_law_places" 2 spPlaces) : Callee P w K mg base "_law_sorted_right" 3 spSortedR := by
 refine D.ok sc_law_sorted_right bd_law_sorted_right (fun vs H Q E h => ?len) (fun f cdv A outer s H vs Q E hr h => ?body)
 case len => obtain ⟨a, ts, sws, top, rfl, _⟩ := h; rfl
 case body =>
  obtain ⟨a, ts, sws, top, rfl, hA, hT, hl, hv, hp, k⟩ := h
  have hu := hr.units
  walk_at "z37"
  refine ⟨_, (pss_cons (ps_for PassesOwn.never rfl (pi_enumerate1K K (by rfl) T.z_enumerate (pa_cons (pv 0) pa_nil)) (pg_tupK K 2 (pgs_cons (pg_name (i := 2) sc_law_sorted_right.nd rfl (Or.inl rfl)) (pgs_cons (pg_name (i := 3) sc_law_sorted_right.nd rfl (Or.inl rfl)) pgs_nil)))
 (pss_cons (ps_if (PW.pt (pw_or (pt_not (pt_truthK K (pe_callB (call_isinstanceK K) (by rfl) T.z_isinstance bt_isinstance (pa_cons (pv 3) (pa_cons (pe_bltn (by rfl) T.z_tuple bt_tuple (show RelV (.ty "tuple") _ from rfl)) pa_nil))))) (pw_or (pt_not (pt_truthK K (pe_callN C_law_places (hr.mono (by decide)) (by rfl) (pa_cons (pe_callTy (call_listK K) (by rfl) T.z_list bt_list (pa_cons (pv 3) pa_nil)) (pa_cons pe_int pa_nil))))) (pw_or1 (pt_cmpR (op_eqK K hu) (pe_ix (ix_K K) (pv 3) pe_int (by exact fun _ _ => rfl)) pe_int (nomark _))))))
 (pss_one (ps_ret pe_bl))
 pss_nil)
 (pss_cons (ps_if (PW.pt (pw_or (pt_cmpR op_lt (pe_ix (ix_K K) (pv 3) pe_int (by exact fun _ _ => rfl)) pe_int (nomark _)) (pw_or (pt_cmpR op_le (pe_ix (ix_K K) (pv 3) pe_int (by exact fun _ _ => rfl)) (pe_ix (ix_K K) (pv 3) pe_int (by exact fun _ _ => rfl)) (nomark _)) (pw_or1 (pt_cmpR op_gt (pe_ix (ix_K K) (pv 3) pe_int (by exact fun _ _ => rfl)) (pv 1) (nomark _))))))
 (pss_one (ps_ret pe_bl))
 pss_nil)
 (pss_one (ps_if (PW.pt (pw_and (pt_cmpR op_gt (pv 2) pe_int (nomark _)) (pw_and1 (pt_cmpR (op_geTK K hu) (pe_slice (sl_tupK K) (pe_ix (ix_K K) (pv 0) (pe_op op_sub (pv 2) pe_int) (by exact fun _ _ => rfl)) po_none (po_some pe_int)) (pe_slice (sl_tupK K) (pv 3) po_none (po_some pe_int)) (nomark _)))))
 (pss_one (ps_ret pe_bl))
 pss_nil)))))
 (pss_one (ps_ret pe_bl))), ?_⟩
  walk_at "un"
  try clear hu
  walk_at "s"
  refine ⟨⟨_, hA⟩, lp_enum (xs := ts.map V.ref) (fun i σ H2 => ∃ u2 u3 : Option V, σ = [some (.ref a), some (.int top), u2, u3] ∧ Same H H2) ?_ ?_ ?_ ?_⟩
  ·exact ⟨_, _, rfl, Same.refl _⟩
  ·rintro i σ H2 ⟨u2, u3, rfl, sm⟩
   exact SqL.of (sm _ _ hA)
  ·rintro i x t0 σ H2 hx ⟨u2, u3, rfl, sm⟩ ht0
   walk_at "z11"
   walk_at "z9"
   obtain ⟨s', hsi, hTs⟩ := swt_get hT hti
   have hil : i < ts.length := (List.getElem?_eq_some_iff.mp hti).1
   obtain ⟨⟨v1, v2, v3⟩, v4⟩ := hv s' (List.mem_of_getElem? hsi)
   have s3 : Same H2 _ := same_upd (o := .tup [.int i, .ref t]) ht0
   have e3 : upd H2 t0 (.tup [.int i, .ref t]) t0 = some (.tup [.int i, .ref t]) := upd_same
   generalize upd H2 t0 (.tup [.int i, .ref t]) = H3 at *
   have S3 := sm.trans s3
   walk_at "s"
   refine ⟨_, _, rfl, SqT.of e3, rfl, _, _, rfl, _, _, rfl, rfl, ?_⟩
   walk_at "s"
   refine i_isiTT (S3 _ _ hTs) ?_
   walk_at "s"
   refine ⟨t, _, rfl, .inr (SqT.of (S3 _ _ hTs)), fun l4 h4 => ?_⟩
   have s4 : Same H3 _ := same_upd (o := .lst [.int s'.1, .int s'.2.1, .int s'.2.2]) h4
   have e4 : upd H3 l4 (.lst [.int s'.1, .int s'.2.1, .int s'.2.2]) l4 = some (.lst (iL [s'.1, s'.2.1, s'.2.2])) := upd_same
   generalize upd H3 l4 (.lst [.int s'.1, .int s'.2.1, .int s'.2.2]) = H4 at *
   walk_at "s"
   refine ⟨l4, _, 3, rfl, e4, rfl, by simp, fun H5 s5 => ?_⟩
   have S5 := S3.trans (s4.trans s5)
   walk_at "s"
   refine i_ixT (SqT.of (S5 _ _ hTs)) (by decide) (v := .int s'.2.2) rfl ?_
   walk_at "s"
   refine i_if (fun g => absurd g v4) (fun _ => ?_)
   walk_at "s"
   refine i_ixT (SqT.of (S5 _ _ hTs)) (by decide) (v := .int s'.1) rfl ?_
   walk_at "s"
   walk_at "z33"
   walk_at "s"
   refine i_ixT (SqT.of (S5 _ _ hTs)) (by decide) (v := .int s'.2.1) rfl ?_
   walk_at "s"
   refine i_ixT (SqT.of (S5 _ _ hTs)) (by decide) (v := .int s'.1) rfl ?_
   walk_at "s"
   walk_at "z33"
   walk_at "s"
   refine i_ixT (SqT.of (S5 _ _ hTs)) (by decide) (v := .int s'.2.1) rfl ?_
   walk_at "s"
   walk_at "z33"
   walk_at "s"
   refine i_if (fun g => ?_) (fun _ => ⟨_, _, rfl, S5⟩)
   obtain ⟨j, rfl⟩ : ∃ j, i = j + 1 := ⟨i - 1, by lia⟩
   obtain ⟨t', hti'⟩ : ∃ t', ts[j]? = some t' := ⟨_, List.getElem?_eq_getElem (by lia)⟩
   obtain ⟨s2, hsi2, hTs2⟩ := swt_get hT hti'
   have hlt : kLt s2 s' := by
    have j1 := (List.getElem?_eq_some_iff.mp hsi2)
    have j2 := (List.getElem?_eq_some_iff.mp hsi)
    obtain ⟨b1, c1⟩ := j1
    obtain ⟨b2, c2⟩ := j2
    have := List.pairwise_iff_getElem.mp hp j (j + 1) b1 b2 (by lia)
    rwa [c1, c2] at this
   walk_at "s"
   refine i_ixN (SqL.of (S5 _ _ hA)) (by lia) (v := .ref t') (by rw [List.getElem?_map, show (((j + 1 : Nat) : Int) - 1).toNat = j by lia, hti']; rfl) ?_
   walk_at "s"
   refine ⟨t', _, rfl, SqT.of (S5 _ _ hTs2), by simp [HT.sIx], fun p6 h6 => ?_⟩
   have s6 : Same H5 _ := same_upd (o := .tup (cutV [.int s2.1, .int s2.2.1, .int s2.2.2] none (some 2))) h6
   have e6 : upd H5 p6 (.tup (cutV [.int s2.1, .int s2.2.1, .int s2.2.2] none (some 2))) p6 = some (.tup (iL [s2.1, s2.2.1])) := upd_same
   generalize upd H5 p6 (.tup (cutV [.int s2.1, .int s2.2.1, .int s2.2.2] none (some 2))) = H6 at *
   walk_at "s"
   refine ⟨t, _, rfl, SqT.of (s6 _ _ (S5 _ _ hTs)), by simp [HT.sIx], fun p7 h7 => ?_⟩
   have s7 : Same H6 _ := same_upd (o := .tup (cutV [.int s'.1, .int s'.2.1, .int s'.2.2] none (some 2))) h7
   have e7 : upd H6 p7 (.tup (cutV [.int s'.1, .int s'.2.1, .int s'.2.2] none (some 2))) p7 = some (.tup (iL [s'.1, s'.2.1])) := upd_same
   generalize upd H6 p7 (.tup (cutV [.int s'.1, .int s'.2.1, .int s'.2.2] none (some 2))) = H7 at *
   refine ⟨p6, p7, [s2.1, s2.2.1], [s'.1, s'.2.1], rfl, rfl, SqT.of (s7 _ _ e6), SqT.of e7, ?_⟩
   have hlex : HT.lexLt [s2.1, s2.2.1] [s'.1, s'.2.1] = true := by
    simp only [HT.lexLt]
    rcases hlt with z | ⟨z1, z2⟩
    ·rw [if_neg (by lia)]; exact decide_eq_true z
    ·rw [if_pos z1, if_neg (by lia)]; exact decide_eq_true z2
   rw [hlex]
   walk_at "s"
   exact ⟨_, _, rfl, S5.trans (s6.trans s7)⟩
  rintro σ H2 ⟨u2, u3, rfl, sm⟩
  walk_at "s"
  exact k _ sm
def spGood : Sp := fun vs H Q _ => ∃ (a : Addr) (us : List Addr) (tab : List (List Int)), vs = [.ref a] ∧ H a = some (.lst (us.map V.ref)) ∧ TabAt H us tab ∧ tab.length ≤ 1000 ∧ ∀ b : Bool, (b = true ↔ goodT tab) → Q (.bl b) H
theorem ok_law_good (T : Txt mg) (D : Def K mg "_law_good" s_law_good) : Callee P w K mg base "_law_good" 1 spGood := by
 refine D.ok sc_law_good bd_law_good (fun vs H Q E h => ?len) (fun f cdv A outer s H vs Q E hr h => ?body)
 case len => obtain ⟨a, us, tab, rfl, _⟩ := h; rfl
 case body =>
  obtain ⟨a, us, tab, rfl, hA, hT, hl, k⟩ := h
  have hu := hr.units
  have hul : us.length = tab.length := hT.length
  have no : ¬ goodT tab → Q (.bl false) H := fun z => k false ⟨fun e => (by cases e), fun g => absurd g z⟩
  refine ⟨_, (pss_cons (ps_if (PW.pt (pw_or (pt_cmpR op_lt (pe_callB (call_lenK K) (by rfl) T.z_len bt_len (pa_cons (pv 0) pa_nil)) pe_int (nomark _)) (pw_or1 (pt_cmpR op_gt (pe_callB (call_lenK K) (by rfl) T.z_len bt_len (pa_cons (pv 0) pa_nil)) pe_int (nomark _)))))
 (pss_one (ps_ret pe_bl))
 pss_nil)
 (pss_cons (ps_for PassesOwn.never rfl (pi_range1 (by rfl) T.z_range (pa_cons (pe_callB (call_lenK K) (by rfl) T.z_len bt_len (pa_cons (pv 0) pa_nil)) pa_nil)) (pg_name (i := 1) sc_law_good.nd rfl (Or.inl rfl))
 (pss_one (ps_if (PW.pt (pw_or (pt_cmpR (op_neK K hu) (pe_callB (call_lenK K) (by rfl) T.z_len bt_len (pa_cons (pe_ix (ix_K K) (pv 0) (pv 1) (by exact fun _ _ => rfl)) pa_nil)) (pe_op op_addP (pv 1) pe_int) (nomark _)) (pw_or1 (pt_cmpR (op_neK K hu) (pe_ix (ix_K K) (pe_ix (ix_K K) (pv 0) (pv 1) (by exact fun _ _ => rfl)) pe_int (by exact fun _ _ => rfl)) pe_int (nomark _)))))
 (pss_one (ps_ret pe_bl))
 pss_nil)))
 (pss_one (ps_ret pe_bl)))), ?_⟩
  walk_at "un"
  try clear hu
  walk_at "s"
  refine i_len (SqL.of hA) ?_
  walk_at "s"
  refine i_if (fun g => ?_) (fun g1 => ?_)
  ·walk_at "s"
   exact no fun z => by have := z.1; simp at g; lia
  walk_at "s"
  refine i_len (SqL.of hA) ?_
  walk_at "s"
  refine i_if (fun g => ?_) (fun g2 => ?_)
  ·walk_at "s"
   exact no fun z => by have := z.2.1; simp at g; lia
  have b1 : 2 ≤ tab.length := by simp at g1; lia
  have b2 : tab.length ≤ 17 := by simp at g2; lia
  walk_at "s"
  refine i_len (SqL.of hA) ?_
  walk_at "s"
  refine ⟨by lia, by simp; lia, lp_range (fun i σ H2 => ∃ u1 : Option V, σ = [some (.ref a), u1] ∧ H = H2 ∧ ∀ j r, j < i → tab[j]? = some r → r.length = j + 1 ∧ r[0]? = some 0) ⟨_, rfl, rfl, by lia⟩ ?_ ?_⟩
  ·rintro i σ H2 hi ⟨u1, rfl, rfl, hq⟩
   have hi2 : i < tab.length := by simp at hi; lia
   obtain ⟨r, hri⟩ : ∃ r, tab[i]? = some r := ⟨_, List.getElem?_eq_getElem hi2⟩
   obtain ⟨u, hui, hU⟩ := paired_get hT hri
   have ix : ∀ {Q' : VK}, Q' (.ref u) H → rIxP K (.ref a) (.int (0 + (i : Int))) H Q' := fun q => i_ixN (SqL.of hA) (by lia) (v := .ref u) (by rw [List.getElem?_map, show (0 + (i : Int)).toNat = i by lia, hui]; rfl) q
   walk_at "s"
   refine ix ?_
   walk_at "s"
   refine i_lenI (SqL.of hU) ?_
   walk_at "s"
   refine i_ifn (fun g => ?_) (fun g3 => ?_)
   ·walk_at "s"
    exact no fun z => by have := (z.2.2 i r hri).1; lia
   obtain ⟨v, hv⟩ : ∃ v, r[0]? = some v := ⟨_, List.getElem?_eq_getElem (by lia)⟩
   walk_at "s"
   refine ix ?_
   walk_at "s"
   refine i_ixN (SqL.of hU) (by decide) (v := .int v) (by rw [List.getElem?_map]; simp [hv]) ?_
   walk_at "s"
   refine i_ifn (fun g => ?_) (fun g4 => ?_)
   ·walk_at "s"
    exact no fun z => by have := (z.2.2 i r hri).2; rw [hv] at this; exact g (Option.some.inj this)
   refine ⟨_, rfl, rfl, fun j r' hj hr' => ?_⟩
   by_cases q : j < i
   ·exact hq j r' q hr'
   ·obtain rfl : j = i := by lia
    rw [hri] at hr'
    cases hr'
    exact ⟨by lia, by rw [hv, g4]⟩
  ·rintro σ H2 ⟨u1, rfl, rfl, hq⟩
   walk_at "s"
   refine k true ⟨fun _ => ⟨b1, b2, fun j r hr' => hq j r ?_ hr'⟩, fun _ => rfl⟩
   have : j < tab.length := (List.getElem?_eq_some_iff.mp hr').1
   simp
   lia
theorem kin_T (Z : Cls K mg) : KinF Z Z.c_NoTable false false false false false false true false false false false false := ⟨Z.isi_NoTable, Z.k_NoTable_NoTrain, Z.k_NoTable_NoStand, Z.k_NoTable_NoPaper, Z.k_NoTable_NoBox, Z.k_NoTable_NoSwitch, Z.k_NoTable_NoPlace, Z.k_NoTable_NoTable, Z.k_NoTable_NoText, Z.k_NoTable_NoRow, Z.k_NoTable_NoPiece, Z.k_NoTable_NothingLeft, Z.k_NoTable_TooMany, Z.k_NoTable_ValueError⟩
theorem due_T : dueX "NoTable" = [false, false, false, false, false, false, true, false, false, false, false, false, true] := by decide +kernel
def spTold : Sp := fun vs H Q _ => ∃ (a : Addr) (ts : List Addr) (tab : List (List Int)), vs = [.ref a] ∧ H a = some (.lst (ts.map V.ref)) ∧ TabAt H ts tab ∧ tab.length ≤ 1000 ∧ (∀ r ∈ tab, r.length ≤ 1000) ∧
 (goodT tab → ∀ t l lk us H', Same H H' → H' t = some (.tup [.ref l, .ref lk]) → H' l = some (.lst (us.map V.ref)) → SwT H' us (toldW (WT tab) (tab.length - 1)) → H' lk = some (.lst []) → Q (.ref t) H') ∧
 (¬ goodT tab → ∀ t lk H', Same H H' → H' t = some (.tup [.non, .ref lk]) → H' lk = some (.lst (bL (dueX "NoTable"))) → Q (.ref t) H')
theorem ok_law_a_told (T : Txt mg) (Z : Cls K mg) (D : Def K mg "_law_a_told" s_law_a_told) (C_law_so_weights_of : CalleeE P w K mg base "_law_so_weights_of" 4 (spSoWt Z.c_NoTable)) (C_law_a_kin : CalleeN P w K mg base "_law_a_kin" 1 (spKinG Z)) : Callee P w K mg base "_law_a_told" 5 spTold := by
 refine D.ok sc_law_a_told bd_law_a_told (fun vs H Q E h => ?len) (fun f cdv A outer s H vs Q E hr h => ?body)
 case len => obtain ⟨a, ts, tab, rfl, _⟩ := h; rfl
 case body =>
  obtain ⟨a, ts, tab, rfl, hA, hT, hl, hrl, k, kx⟩ := h
  have hu := hr.units
  refine ⟨_, (pss_cons (ps_set (i := 1) sc_law_a_told.nd rfl (Or.inl rfl) pe_non)
 (pss_cons (ps_set (i := 2) sc_law_a_told.nd rfl (Or.inl rfl) (pe_lst pa_nil))
 (pss_join (ps_try (TC := Z.c_TrainError) (j := 3) rfl rfl rfl Z.m_TrainError (by rfl) sc_law_a_told.nd rfl rfl rfl (fun pins ξ Ex hp => (pss_one (ps_set (i := 1) sc_law_a_told.nd rfl (Or.inl rfl) (pe_callS C_law_so_weights_of (hr.mono (by decide)) (by rfl) hp (pa_cons (pv 0) pa_nil))))) (fun pins e => (pss_one (ps_set (i := 2) sc_law_a_told.nd rfl (Or.inl rfl) (pe_callC C_law_a_kin ((hr.mono (by decide)).noted _) (by rfl) (pa_cons (pv 3) pa_nil))))))
 (pss_one (ps_ret (pe_tup (pa_cons (pv 1) (pa_cons (pv 2) pa_nil)))))))), ?_⟩
  walk_at "un"
  try clear hu
  walk_at "s"
  intro l1 h1
  have s1 : Same H _ := same_upd (o := .lst []) h1
  have e1 : upd H l1 (.lst []) l1 = some (.lst []) := upd_same
  generalize upd H l1 (.lst []) = H1 at *
  walk_at "s"
  refine ⟨fun σ H8 => ∃ (vf : V) (lk : Addr) (u : Option V), σ = [some (.ref a), some vf, some (.ref lk), u] ∧ Same H H8 ∧ ((goodT tab ∧ H8 lk = some (.lst []) ∧ ∃ l us, vf = .ref l ∧ H8 l = some (.lst (us.map V.ref)) ∧ SwT H8 us (toldW (WT tab) (tab.length - 1))) ∨ (¬ goodT tab ∧ vf = .non ∧ H8 lk = some (.lst (bL (dueX "NoTable"))))), ?_, ?_⟩
  ·walk_at "s"
   refine ⟨a, ts, tab, rfl, s1 _ _ hA, hT.more s1, hl, hrl, fun hg l us H8 s8 hl8 hT8 => ?_, fun hn H8 s8 => ?_⟩
   ·exact ⟨.ref l, l1, _, rfl, s1.trans s8, .inl ⟨hg, s8 _ _ e1, l, us, rfl, hl8, hT8⟩⟩
   ·refine ⟨Z.e_NoTable, fun e he => ?_⟩
    walk_at "s"
    refine ⟨e, _, _, _, _, _, _, _, _, _, _, _, _, _, rfl, upd_same, kin_T Z, fun lk H9 s9 hk => ?_⟩
    exact ⟨.non, lk, _, rfl, (s1.trans s8).trans ((same_upd he).trans s9), .inr ⟨hn, rfl, by rw [due_T]; exact hk⟩⟩
  rintro σ H8 ⟨vf, lk, u, rfl, s8, hc⟩
  walk_at "s"
  intro t9 h9
  have s9 : Same H8 _ := same_upd (o := .tup [vf, .ref lk]) h9
  rcases hc with ⟨hg, hk, l, us, rfl, hl8, hT8⟩ | ⟨hn, rfl, hk⟩
  ·exact k hg t9 l lk us _ (s8.trans s9) upd_same (s9 _ _ hl8) (SwT.more hT8 s9) (s9 _ _ hk)
  ·exact kx hn t9 lk _ (s8.trans s9) upd_same (s9 _ _ hk)
theorem ixN_pos {n : Nat} {k : Int} (h0 : 0 ≤ k) (h1 : k < n) : ixN n k = some k.toNat := by
 unfold ixN
 rw [if_pos h0, if_pos h1]
structure TOk (H H2 : Hp) (n m : Nat) (lt : Addr) (us : List Addr) (tab : List (List Int)) : Prop where
 sm : Same H H2
 fr : H lt = none
 at_ : H2 lt = some (.lst (us.map V.ref))
 tb : TabAt H2 us tab
 nd : us.Nodup
 fu : ∀ u ∈ us, H u = none
 ln : tab.length = n
 rl : ∀ r ∈ tab, r.length ≤ m
theorem TOk.more {H H2 H3 : Hp} {n m : Nat} {lt : Addr} {us : List Addr} {tab : List (List Int)} (t : TOk H H2 n m lt us tab) (s : Same H2 H3) : TOk H H3 n m lt us tab := ⟨t.sm.trans s, t.fr, s _ _ t.at_, t.tb.more s, t.nd, t.fu, t.ln, t.rl⟩
theorem TOk.up {H H2 : Hp} {n m m' : Nat} {lt : Addr} {us : List Addr} {tab : List (List Int)} (t : TOk H H2 n m lt us tab) (h : m ≤ m') : TOk H H2 n m' lt us tab := ⟨t.sm, t.fr, t.at_, t.tb, t.nd, t.fu, t.ln, fun r hr => Nat.le_trans (t.rl r hr) h⟩
theorem TOk.ulen {H H2 : Hp} {n m : Nat} {lt : Addr} {us : List Addr} {tab : List (List Int)} (t : TOk H H2 n m lt us tab) : us.length = n := by rw [← t.ln]; exact t.tb.length
theorem TOk.snoc {H H2 : Hp} {n m : Nat} {lt : Addr} {us : List Addr} {tab : List (List Int)} (t : TOk H H2 n m lt us tab) {u : Addr} {r : List Int} (hu : H2 u = some (.lst (iL r))) (fu : H u = none) (nu : u ∉ us) (ne : u ≠ lt) (hr : r.length ≤ m) : TOk H (upd H2 lt (.lst ((us ++ [u]).map V.ref))) (n + 1) m lt (us ++ [u]) (tab ++ [r]) := by
 have hne := tab_ne t.at_ t.tb
 refine ⟨fun b o z => by rw [upd_ne (ne_of_none z t.fr)]; exact t.sm b o z, t.fr, upd_same, ?_, ?_, fun z hz => ?_, by simp [t.ln], fun z hz => ?_⟩
 ·refine Paired.snoc (Paired.mapP' t.tb fun z m r e => ?_) ?_
  ·rw [upd_ne (hne z m)]; exact e
  ·rw [upd_ne ne]; exact hu
 ·rw [List.nodup_append]
  exact ⟨t.nd, by simp, fun a ha b hb => by simp at hb; subst hb; intro e; subst e; exact nu ha⟩
 ·rcases List.mem_append.mp hz with q | q
  ·exact t.fu z q
  ·simp at q; subst q; exact fu
 ·rcases List.mem_append.mp hz with q | q
  ·exact t.rl z q
  ·simp at q; subst q; exact hr
theorem paired_set {α β : Type} {F : α → β → Prop} {a : α} {b : β} (h : F a b) : ∀ {as : List α} {bs : List β} (i : Nat), Paired F as bs → Paired F (as.set i a) (bs.set i b)
 | _, _, _, .nil => .nil
 | _, _, 0, .cons _ t => .cons h t
 | _, _, i + 1, .cons r t => .cons r (paired_set h i t)
theorem nd_ix {us : List Addr} (h : us.Nodup) {i j : Nat} {u : Addr} (h1 : us[i]? = some u) (h2 : us[j]? = some u) : i = j := by
 obtain ⟨b1, c1⟩ := List.getElem?_eq_some_iff.mp h1
 obtain ⟨b2, c2⟩ := List.getElem?_eq_some_iff.mp h2
 exact (List.getElem_inj h).mp (c1.trans c2.symm)
theorem TOk.chg {H H2 : Hp} {n m : Nat} {lt : Addr} {us : List Addr} {tab : List (List Int)} (t : TOk H H2 n m lt us tab) {i : Nat} {u : Addr} {r : List Int} (hu : us[i]? = some u) (hr : r.length ≤ m) : TOk H (upd H2 u (.lst (iL r))) n m lt us (tab.set i r) := by
 have hne := tab_ne t.at_ t.tb
 have hm := List.mem_of_getElem? hu
 refine ⟨fun b o z => by rw [upd_ne (ne_of_none z (t.fu u hm))]; exact t.sm b o z, t.fr, by rw [upd_ne (Ne.symm (hne u hm))]; exact t.at_, ?_, t.nd, t.fu, by simp [t.ln], fun z hz => (List.mem_or_eq_of_mem_set hz).elim (t.rl z) (fun q => by subst q; exact hr)⟩
 have go : ∀ {as : List Addr} {bs : List (List Int)} (k : Nat), Paired (fun u (r : List Int) => H2 u = some (.lst (iL r))) as bs → (∀ j a, as[j]? = some a → (a = u ↔ k + j = i)) → Paired (fun z (q : List Int) => upd H2 u (.lst (iL r)) z = some (.lst (iL q))) as (if k ≤ i then bs.set (i - k) r else bs) := by
  intro as bs k p
  induction p generalizing k with
  | nil => intro _; split <;> exact .nil
  | @cons a b as bs e p ih =>
    intro hj
    have h0 := hj 0 a rfl
    have ih' := ih (k + 1) fun j z hz => by rw [hj (j + 1) z (by simpa using hz)]; lia
    by_cases q : k = i
    ·subst q
     rw [if_pos (Nat.le_refl _), Nat.sub_self]
     rw [if_neg (by lia)] at ih'
     have : a = u := h0.mpr rfl
     subst this
     exact .cons upd_same ih'
    ·have na : a ≠ u := fun z => q (by have := h0.mp z; lia)
     by_cases q2 : k ≤ i
     ·rw [if_pos q2]
      rw [if_pos (by lia)] at ih'
      obtain ⟨d, hd⟩ : ∃ d, i - k = d + 1 := ⟨i - k - 1, by lia⟩
      rw [hd, List.set_cons_succ, show d = i - (k + 1) by lia]
      exact .cons (by rw [upd_ne na]; exact e) ih'
     ·rw [if_neg q2]
      rw [if_neg (by lia)] at ih'
      exact .cons (by rw [upd_ne na]; exact e) ih'
 have := go 0 t.tb fun j a ha => ⟨fun e => by subst e; rw [Nat.zero_add]; exact nd_ix t.nd ha hu, fun e => by rw [Nat.zero_add] at e; subst e; rw [ha] at hu; exact Option.some.inj hu⟩
 rw [if_pos (Nat.zero_le _), Nat.sub_zero] at this
 exact this
theorem nodup_set {u : Addr} : ∀ {us : List Addr}, us.Nodup → u ∉ us → ∀ i, (us.set i u).Nodup
 | [], h, _, _ => h
 | x :: us, h, nu, 0 => List.nodup_cons.mpr ⟨fun z => nu (List.mem_cons_of_mem _ z), (List.nodup_cons.mp h).2⟩
 | x :: us, h, nu, i + 1 => by
   obtain ⟨h1, h2⟩ := List.nodup_cons.mp h
   rw [List.set_cons_succ]
   exact List.nodup_cons.mpr ⟨fun z => (List.mem_or_eq_of_mem_set z).elim h1 fun e => nu (by rw [← e]; exact List.mem_cons_self), nodup_set h2 (fun z => nu (List.mem_cons_of_mem _ z)) i⟩
theorem TOk.put {H H2 : Hp} {n m : Nat} {lt : Addr} {us : List Addr} {tab : List (List Int)} (t : TOk H H2 n m lt us tab) {u : Addr} {r : List Int} (hu : H2 u = some (.lst (iL r))) (fu : H u = none) (nu : u ∉ us) (ne : u ≠ lt) (hr : r.length ≤ m) (i : Nat) : TOk H (upd H2 lt (.lst ((us.set i u).map V.ref))) n m lt (us.set i u) (tab.set i r) := by
 have hne := tab_ne t.at_ t.tb
 have hne2 : ∀ z ∈ us.set i u, z ≠ lt := fun z hz => (List.mem_or_eq_of_mem_set hz).elim (hne z) (fun q => by subst q; exact ne)
 refine ⟨fun b o z => by rw [upd_ne (ne_of_none z t.fr)]; exact t.sm b o z, t.fr, upd_same, ?_, ?_, fun z hz => (List.mem_or_eq_of_mem_set hz).elim (t.fu z) (fun q => by subst q; exact fu), by simp [t.ln], fun z hz => (List.mem_or_eq_of_mem_set hz).elim (t.rl z) (fun q => by subst q; exact hr)⟩
 ·have p : Paired (fun u (r : List Int) => H2 u = some (.lst (iL r))) (us.set i u) (tab.set i r) := paired_set (F := fun u (r : List Int) => H2 u = some (.lst (iL r))) hu i t.tb
  exact Paired.mapP' p fun z m r e => by rw [upd_ne (hne2 z m)]; exact e
 ·exact nodup_set t.nd nu i
theorem cutV_iL (ns : List Int) (lo hi : Option Int) : ∃ ms : List Int, cutV (iL ns) lo hi = iL ms ∧ ms.length ≤ ns.length := by
 refine ⟨(ns.drop (HT.sIx ns.length 0 lo)).take (HT.sIx ns.length ns.length hi - HT.sIx ns.length 0 lo), ?_, ?_⟩
 ·unfold cutV iL
  rw [List.length_map, ← List.map_drop, ← List.map_take]
 ·rw [List.length_take, List.length_drop]
  lia
def spATable (K : PySem.W.Frag) : Sp := fun vs H Q _ => ∃ (a : Addr) (ns : List Int), vs = [.ref a] ∧ SqL K H a (iL ns) ∧ ∀ (l : Addr) (us : List Addr) (tab : List (List Int)) (H' : Hp), Same H H' → H' l = some (.lst (us.map V.ref)) → TabAt H' us tab → tab.length ≤ 100 → (∀ r ∈ tab, r.length ≤ 100) → Q (.ref l) H'
theorem ok_law_a_table (T : Txt mg) (D : Def K mg "_law_a_table" s_law_a_table) (C_law_draws : Callee P w K mg base "_law_draws" 1 spDraws) (C_law_cell_at : Callee P w K mg base "_law_cell_at" 1 (spCellAt K)) : Callee P w K mg base "_law_a_table" 2 (spATable K) := by
 refine D.ok sc_law_a_table bd_law_a_table (fun vs H Q E h => ?len) (fun f cdv A outer s H vs Q E hr h => ?body)
 case len => obtain ⟨a, ns, rfl, _⟩ := h; rfl
 case body =>
  obtain ⟨a, ns, rfl, hS, k⟩ := h
  have hu := hr.units
  refine ⟨_, (pss_cons (ps_set (i := 1) sc_law_a_table.nd rfl (Or.inr rfl) (pe_callN C_law_draws (hr.mono (by decide)) (by rfl) (pa_cons (pe_callN C_law_cell_at (hr.mono (by decide)) (by rfl) (pa_cons (pv 0) (pa_cons pe_int pa_nil))) (pa_cons pe_int (pa_cons (pe_powK (r := 1000000) (by decide)) pa_nil)))))
 (pss_cons (ps_set (i := 2) sc_law_a_table.nd rfl (Or.inl rfl) (pe_op op_addP pe_int (pe_op op_mod (pe_ix (ix_K K) (pv 1) pe_int (by exact fun _ _ => rfl)) pe_int)))
 (pss_cons (ps_set (i := 3) sc_law_a_table.nd rfl (Or.inr rfl) (pe_menu (pa_cons pe_int (pa_cons pe_int (pa_cons (pe_powK (r := 1000000000000000000000000000000) (by decide)) pa_nil))) (pe_op op_mod (pe_ix (ix_K K) (pv 1) pe_int (by exact fun _ _ => rfl)) pe_int) (by exact fun _ _ => rfl)))
 (pss_cons (ps_set (i := 4) sc_law_a_table.nd rfl (Or.inl rfl) (pe_lst pa_nil))
 (pss_cons (ps_for PassesOwn.never rfl (pi_range1 (by rfl) T.z_range (pa_cons (pe_op op_addP (pv 2) pe_int) pa_nil)) (pg_name (i := 5) sc_law_a_table.nd rfl (Or.inr rfl))
 (pss_one (ps_expr (pe_bmK K PySem.F.plainAttrs_list PySem.F.slot_list_append PySem.F.type_list_append mt_append (pv 4) (pa_cons (pe_op op_addP (pe_lst (pa_cons pe_int pa_nil)) (by exact pe_comp (N := ["low", "scale", "picks", "high"]) (fr := [none, some 3, some 1, some 5]) ⟨by rfl, by decide +kernel, by decide +kernel, (show ∀ y ∈ (_ : List (Str × NameKind)), y.2 = NameKind.free → (defScope s_law_a_table).names.lookup y.1 = some .cell ∨ (defScope s_law_a_table).names.lookup y.1 = some .free by decide +kernel), (fr_none (fr_some (by rfl) (by first | exact Or.inl rfl | exact Or.inr rfl) (by rfl) (fr_some (by rfl) (by first | exact Or.inl rfl | exact Or.inr rfl) (by rfl) (fr_some (by rfl) (by first | exact Or.inl rfl | exact Or.inr rfl) (by rfl) fr_nil))))⟩ (by rfl) (pi_range1 (by rfl) T.z_range (pa_cons (pv 5) pa_nil)) (fun _ _ _ _ => (pg_name (i := 0) (show List.Nodup (["low", "scale", "picks", "high"] : List Str) by decide) (by rfl) (by first | exact Or.inl rfl | exact Or.inr rfl))) (fun _ _ _ _ => pifs_nil) (fun _ _ _ _ => (pe_op op_mulP (pe_op op_sub (pe_op op_mod (pe_ix (ix_K K) (pv 2) (pe_op op_addP pe_int (pe_op op_mod (pe_op op_addP (pe_op op_mulP (pv 3) pe_int) (pv 0)) pe_int)) (by exact fun _ _ => rfl)) pe_int) pe_int) (pv 1))) (gw_name (by rfl)))) pa_nil)))))
 (pss_cons (ps_set (i := 6) sc_law_a_table.nd rfl (Or.inl rfl) (pe_op op_mod (pe_ix (ix_K K) (pv 1) pe_int (by exact fun _ _ => rfl)) pe_int))
 (pss_cons (ps_set (i := 7) sc_law_a_table.nd rfl (Or.inl rfl) (pe_op op_mod (pe_op op_fdiv (pe_ix (ix_K K) (pv 1) pe_int (by exact fun _ _ => rfl)) pe_int) (pe_op op_addP (pv 2) pe_int)))
 (pss_join (ps_if (pt_cmpR (op_eqK K hu) (pv 6) pe_int (nomark _))
 (pss_one (ps_asg (pe_op op_addP pe_int (pe_op op_mod (pe_ix (ix_K K) (pv 1) pe_int (by exact fun _ _ => rfl)) pe_int)) (pg_sub (pe_ix (ix_K K) (pv 4) (pv 7) (by exact fun _ _ => rfl)) pe_int set_list)))
 pss_nil)
 (pss_join (ps_if (pt_cmpR (op_eqK K hu) (pv 6) pe_int (nomark _))
 (pss_one (ps_asg (pe_op op_addP (pe_ix (ix_K K) (pv 4) (pv 7) (by exact fun _ _ => rfl)) (pe_lst (pa_cons pe_int pa_nil))) (pg_sub (pv 4) (pv 7) set_list)))
 pss_nil)
 (pss_join (ps_if (pt_cmpR (op_eqK K hu) (pv 6) pe_int (nomark _))
 (pss_one (ps_asg (pe_slice (sl_listK K) (pe_ix (ix_K K) (pv 4) (pv 7) (by exact fun _ _ => rfl)) po_none (po_some (pe_negK (r := -1) (by decide)))) (pg_sub (pv 4) (pv 7) set_list)))
 pss_nil)
 (pss_join (ps_if (pt_cmpR (op_eqK K hu) (pv 6) pe_int (nomark _))
 (pss_one (ps_set (i := 4) sc_law_a_table.nd rfl (Or.inl rfl) (pe_menu (pa_cons (pe_slice (sl_listK K) (pv 4) po_none (po_some pe_int)) (pa_cons (pe_op op_addP (pv 4) (pe_op op_mulP (pe_lst (pa_cons (pe_op op_mulP (pe_lst (pa_cons pe_int pa_nil)) (pe_op op_addP (pv 2) pe_int)) pa_nil)) (pe_op op_sub pe_int (pv 2)))) pa_nil)) (pe_op op_mod (pe_ix (ix_K K) (pv 1) pe_int (by exact fun _ _ => rfl)) pe_int) (by exact fun _ _ => rfl))))
 pss_nil)
 (pss_one (ps_ret (pv 4)))))))))))))), ?_⟩
  walk_at "un"
  try clear hu
  walk_at "s"
  refine ⟨a, ns, 2, rfl, hS, by decide, fun c2 => ?_⟩
  walk_at "s"
  refine ⟨c2, 160, 1000000, rfl, by decide, by decide, by decide, by decide, fun lp H1 pk N1 l1 b1 => ?_⟩
  have it : ∀ {HH : Hp} {Q' : VK} {j : Int}, Same H1 HH → 0 ≤ j → j < 160 → (∀ v, 0 ≤ v → v < 1000000 → Q' (.int v) HH) → rIxP K (.ref lp) (.int j) HH Q' := fun sh h0 h1 q => i_ixL (SqL.of (sh _ _ N1.at_)) h0 (by lia) fun v _ m => q v (b1 v m).1 (b1 v m).2
  walk_at "s"
  refine it (Same.refl _) (by lia) (by lia) (fun v0 p0 q0 => ?_)
  have r0 := Int.emod_nonneg v0 (show (16 : Int) ≠ 0 by decide)
  have r1 := Int.emod_lt_of_pos v0 (show (0 : Int) < 16 by decide)
  walk_at "s"
  generalize htv : 1 + v0 % 16 = top at *
  have t1 : 1 ≤ top := by lia
  have t2 : top ≤ 16 := by lia
  clear htv r0 r1
  refine it (Same.refl _) (by lia) (by lia) (fun v1 p1 q1 => ?_)
  walk_at "s"
  refine i_menu3 (Int.emod_nonneg _ (by decide)) (Int.emod_lt_of_pos _ (by decide)) (fun scale _ => ?_)
  walk_at "s"
  intro lt ht
  have s2 : Same H1 _ := same_upd (o := .lst []) ht
  have e2 : upd H1 lt (.lst []) lt = some (.lst []) := upd_same
  generalize upd H1 lt (.lst []) = H2 at *
  have t0 : TOk H1 H2 0 30 lt [] [] := ⟨s2, ht, e2, .nil, .nil, by simp, rfl, by simp⟩
  clear s2 e2 ht
  walk_at "s"
  refine ⟨by lia, by lia, lp_range (fun i σ H3 => ∃ (u5 : Option V) (us : List Addr) (tab : List (List Int)), σ = [some (.ref a), some (.ref lp), some (.int top), some (.int scale), some (.ref lt), u5, none, none] ∧ TOk H1 H3 i 30 lt us tab ∧ ∀ r ∈ tab, 0 < r.length) ⟨_, _, _, rfl, t0, by simp⟩ ?_ ?_⟩
  ·rintro i σ H3 hi ⟨u5, us, tab, rfl, t, hpos⟩
   have hi2 : i ≤ 16 := by lia
   walk_at "s"
   refine ⟨.inl ⟨rfl, _, SqL.of t.at_⟩, ?_⟩
   walk_at "s"
   intro lz hz
   have s4 : Same H3 _ := same_upd (o := .lst [.int 0]) hz
   have e4 : upd H3 lz (.lst [.int 0]) lz = some (.lst [.int 0]) := upd_same
   generalize upd H3 lz (.lst [.int 0]) = H4 at *
   have T4 := t.more s4
   walk_at "s"
   refine ⟨by lia, by lia, cp_range (fun j ys H5 => ∃ ms : List Int, ys = iL ms ∧ ms.length = j ∧ j ≤ i ∧ H4 = H5) ⟨[], rfl, rfl, Nat.zero_le _, rfl⟩ ?_ (szlt (by lia)) ?_ ?_⟩
   ·rintro j ys H5 ⟨ms, rfl, hm, _⟩
    simp [iL]; lia
   ·rintro j ys H5 hj ⟨ms, rfl, hm, hji, rfl⟩
    walk_at "s"
    refine i_mulI (cmul_l (by lia) (by lia)) ?_
    walk_at "s"
    have w1 := Int.emod_nonneg ((0 + (i : Int)) * 17 + (0 + (j : Int))) (show (150 : Int) ≠ 0 by decide)
    have w2 := Int.emod_lt_of_pos ((0 + (i : Int)) * 17 + (0 + (j : Int))) (show (0 : Int) < 150 by decide)
    refine it T4.sm (by lia) (by lia) (fun v2 p2 q2 => ?_)
    walk_at "s"
    have w3 := Int.emod_nonneg v2 (show (9 : Int) ≠ 0 by decide)
    have w4 := Int.emod_lt_of_pos v2 (show (0 : Int) < 9 by decide)
    refine i_mulI (cmul_l (by lia) (by lia)) ?_
    exact ⟨ms ++ [(v2 % 9 - 4) * scale], by simp [iL], by simp; lia, by lia, rfl⟩
   ·rintro l5 ys H5 ⟨ms, rfl, hm, hji, rfl⟩ h5
    have s5 : Same H4 _ := same_upd (o := .lst (iL ms)) h5
    have e5 : upd H4 l5 (.lst (iL ms)) l5 = some (.lst (iL ms)) := upd_same
    generalize upd H4 l5 (.lst (iL ms)) = H5 at *
    have T5 := T4.more s5
    refine i_addL (s5 _ _ e4) e5 (szl (by simp [iL]; lia)) (fun l6 h6 => ?_)
    have s6 : Same H5 _ := same_upd (o := .lst ([.int 0] ++ iL ms)) h6
    have e6 : upd H5 l6 (.lst ([.int 0] ++ iL ms)) l6 = some (.lst (iL (0 :: ms))) := upd_same
    have T6 := T5.more s6
    generalize upd H5 l6 (.lst ([.int 0] ++ iL ms)) = H6 at *
    walk_at "s"
    refine i_app T6.at_ (szlt (by have := t.ulen; simp; lia)) ?_
    rw [show (us.map V.ref ++ [V.ref l6]) = (us ++ [l6]).map V.ref by simp]
    refine ⟨_, _, _, rfl, T6.snoc e6 (T5.sm.free h6) (fun m => ?_) (fun e => ?_) (by simp; lia), fun z hz => ?_⟩
    ·obtain ⟨r, hr'⟩ := paired_mem T5.tb m
     rw [h6] at hr'
     cases hr'
    ·subst e; rw [T5.at_] at h6; cases h6
    ·rcases List.mem_append.mp hz with q | q
     ·exact hpos z q
     ·simp at q; subst q; simp
  rintro σ H3 ⟨u5, us, tab, rfl, t, hpos⟩
  generalize hn : (top + 1).toNat = n at t
  have hnn : (n : Int) = top + 1 := by lia
  walk_at "s"
  refine it t.sm (by lia) (by lia) (fun v2 p2 q2 => ?_)
  walk_at "s"
  refine it t.sm (by lia) (by lia) (fun v3 p3 q3 => ?_)
  walk_at "s"
  have f1 := Int.emod_nonneg (v3 / 8) (show top + 1 ≠ 0 by lia)
  have f2 := Int.emod_lt_of_pos (v3 / 8) (show (0 : Int) < top + 1 by lia)
  generalize v3 / 8 % (top + 1) = at_ at *
  generalize v2 % 8 = form at *
  obtain ⟨an, rfl⟩ : ∃ an : Nat, at_ = (an : Int) := ⟨at_.toNat, by lia⟩
  have han : an < n := by lia
  have ix : ∀ {HH : Hp} {us : List Addr} {tab : List (List Int)} {m : Nat} {Q' : VK}, TOk H1 HH n m lt us tab → (∀ u r, us[an]? = some u → tab[an]? = some r → HH u = some (.lst (iL r)) → r.length ≤ m → Q' (.ref u) HH) → rIxP K (.ref lt) (.int (an : Int)) HH Q' := fun {HH us tab m Q'} t q => by
   obtain ⟨u, hui⟩ : ∃ u, us[an]? = some u := ⟨_, List.getElem?_eq_getElem (by rw [t.ulen]; exact han)⟩
   obtain ⟨r, hri, hR⟩ := paired_getL t.tb hui
   refine i_ixN (SqL.of t.at_) (by lia) (v := .ref u) (by rw [List.getElem?_map, show ((an : Nat) : Int).toNat = an by lia, hui]; rfl) (q u r hui hri hR (t.rl r (List.mem_of_getElem? hri)))
  walk_at "s"
  refine ⟨fun σ H4 => ∃ (us : List Addr) (tab : List (List Int)), σ = [some (.ref a), some (.ref lp), some (.int top), some (.int scale), some (.ref lt), u5, some (.int form), some (.int (an : Int))] ∧ TOk H1 H4 n 30 lt us tab, ?_, ?_⟩
  ·walk_at "s"
   refine i_if (fun g => ?_) (fun g => ⟨_, _, rfl, t.up (by lia)⟩)
   walk_at "s"
   refine it t.sm (by lia) (by lia) (fun v4 p4 q4 => ?_)
   walk_at "s"
   refine ix t (fun u r hui hri hR hrl => ?_)
   walk_at "s"
   have hp0 := hpos r (List.mem_of_getElem? hri)
   refine ⟨u, _, _, 0, rfl, rfl, hR, by rw [ixN_pos (by lia) (by simp [iL]; lia)]; rfl, ?_⟩
   rw [show (iL r).set 0 (V.int (1 + v4 % 3)) = iL (r.set 0 (1 + v4 % 3)) by simp [iL, List.map_set]]
   exact ⟨us, _, rfl, t.chg hui (by simpa using hrl)⟩
  clear t
  rintro σ H4 ⟨us, tab, rfl, t⟩
  walk_at "s"
  walk_at "z18"
  ·walk_at "s"
   refine i_if (fun g => ?_) (fun g => ⟨_, _, rfl, t.up (by lia)⟩)
   walk_at "s"
   refine ix t (fun u r hui hri hR hrl => ?_)
   walk_at "s"
   intro l5 h5
   have s5 : Same H4 _ := same_upd (o := .lst [.int 0]) h5
   have e5 : upd H4 l5 (.lst [.int 0]) l5 = some (.lst [.int 0]) := upd_same
   generalize upd H4 l5 (.lst [.int 0]) = H5 at *
   have T5 := t.more s5
   refine i_addL (s5 _ _ hR) e5 (szl (by simp [iL]; lia)) (fun l6 h6 => ?_)
   have s6 : Same H5 _ := same_upd (o := .lst (iL r ++ [.int 0])) h6
   have e6 : upd H5 l6 (.lst (iL r ++ [.int 0])) l6 = some (.lst (iL (r ++ [0]))) := by rw [upd_same]; simp [iL]
   have T6 := T5.more s6
   generalize upd H5 l6 (.lst (iL r ++ [.int 0])) = H6 at *
   walk_at "s"
   refine ⟨lt, _, _, an, rfl, rfl, T6.at_, by rw [ixN_pos (by lia) (by have := t.ulen; simp; lia)]; exact congrArg some (by lia), ?_⟩
   rw [← List.map_set]
   refine ⟨_, _, rfl, (T6.up (by lia)).put e6 (T5.sm.free h6) (fun m => ?_) (fun e => ?_) (by simp; lia) an⟩
   ·obtain ⟨r, hr'⟩ := paired_mem T5.tb m
    rw [h6] at hr'
    cases hr'
   ·subst e; rw [T5.at_] at h6; cases h6
  clear t
  rintro σ H5 ⟨us, tab, rfl, t⟩
  walk_at "s"
  walk_at "z18"
  ·walk_at "s"
   refine i_if (fun g => ?_) (fun g => ⟨_, _, rfl, t.up (by lia)⟩)
   walk_at "s"
   refine ix t (fun u r hui hri hR hrl => ?_)
   walk_at "s"
   refine ⟨u, _, rfl, SqL.of hR, fun l6 h6 => ?_⟩
   obtain ⟨ms, hms, hml⟩ := cutV_iL r none (some (-1))
   rw [hms]
   have s6 : Same H5 _ := same_upd (o := .lst (iL ms)) h6
   have e6 : upd H5 l6 (.lst (iL ms)) l6 = some (.lst (iL ms)) := upd_same
   have T6 := t.more s6
   generalize upd H5 l6 (.lst (iL ms)) = H6 at *
   walk_at "s"
   refine ⟨lt, _, _, an, rfl, rfl, T6.at_, by rw [ixN_pos (by lia) (by have := t.ulen; simp; lia)]; exact congrArg some (by lia), ?_⟩
   rw [← List.map_set]
   refine ⟨_, _, rfl, T6.put e6 (t.sm.free h6) (fun m => ?_) (fun e => ?_) (by lia) an⟩
   ·obtain ⟨r, hr'⟩ := paired_mem t.tb m
    rw [h6] at hr'
    cases hr'
   ·subst e; rw [t.at_] at h6; cases h6
  clear t
  rintro σ H6 ⟨us, tab, rfl, t⟩
  walk_at "s"
  refine ⟨fun σ H4 => ∃ (u6 u7 : Option V) (l : Addr) (us : List Addr) (tab : List (List Int)), σ = [some (.ref a), some (.ref lp), some (.int top), some (.int scale), some (.ref l), u5, u6, u7] ∧ Same H H4 ∧ H4 l = some (.lst (us.map V.ref)) ∧ TabAt H4 us tab ∧ tab.length ≤ 100 ∧ ∀ r ∈ tab, r.length ≤ 100, ?_, ?_⟩
  ·walk_at "s"
   refine i_if (fun g => ?_) (fun g => ⟨_, _, lt, us, tab, rfl, N1.sm.trans t.sm, t.at_, t.tb, by rw [t.ln]; lia, fun r hr' => Nat.le_trans (t.rl r hr') (by lia)⟩)
   walk_at "s"
   refine ⟨lt, _, rfl, SqL.of t.at_, fun l7 h7 => ?_⟩
   rw [cut_to (by lia), ← List.map_take]
   have s7 : Same H6 _ := same_upd (o := .lst ((us.take (1 : Int).toNat).map V.ref)) h7
   have e7 : upd H6 l7 (.lst ((us.take (1 : Int).toNat).map V.ref)) l7 = some (.lst ((us.take (1 : Int).toNat).map V.ref)) := upd_same
   generalize upd H6 l7 (.lst ((us.take (1 : Int).toNat).map V.ref)) = H7 at *
   have T7 := t.more s7
   walk_at "s"
   intro l8 h8
   have s8 : Same H7 _ := same_upd (o := .lst [.int 0]) h8
   have e8 : upd H7 l8 (.lst [.int 0]) l8 = some (.lst [.int 0]) := upd_same
   generalize upd H7 l8 (.lst [.int 0]) = H8 at *
   walk_at "s"
   refine .inr ⟨l8, _, _, rfl, rfl, e8, by lia, by lia, szl (by simp; lia), fun l9 h9 => ?_⟩
   have hrep : ∀ (x : V) (q : Nat), (List.replicate q [x]).flatten = List.replicate q x := fun x q => by
    induction q with
    | zero => rfl
    | succ q ih => rw [List.replicate_succ, List.flatten_cons, ih]; rfl
   rw [hrep, show List.replicate (top + 2).toNat (V.int 0) = iL (List.replicate (top + 2).toNat 0) by simp [iL]]
   have s9 : Same H8 _ := same_upd (o := .lst (iL (List.replicate (top + 2).toNat 0))) h9
   have e9 : upd H8 l9 (.lst (iL (List.replicate (top + 2).toNat 0))) l9 = some (.lst (iL (List.replicate (top + 2).toNat 0))) := upd_same
   generalize upd H8 l9 (.lst (iL (List.replicate (top + 2).toNat 0))) = H9 at *
   walk_at "s"
   intro l10 h10
   have s10 : Same H9 _ := same_upd (o := .lst [.ref l9]) h10
   have e10 : upd H9 l10 (.lst [.ref l9]) l10 = some (.lst [.ref l9]) := upd_same
   generalize upd H9 l10 (.lst [.ref l9]) = H10 at *
   walk_at "s"
   refine .inr ⟨l10, _, _, rfl, rfl, e10, by lia, by lia, szl (by simp; lia), fun l11 h11 => ?_⟩
   rw [hrep, show List.replicate (17 - top).toNat (V.ref l9) = (List.replicate (17 - top).toNat l9).map V.ref by simp]
   have s11 : Same H10 _ := same_upd (o := .lst ((List.replicate (17 - top).toNat l9).map V.ref)) h11
   have e11 : upd H10 l11 (.lst ((List.replicate (17 - top).toNat l9).map V.ref)) l11 = some (.lst ((List.replicate (17 - top).toNat l9).map V.ref)) := upd_same
   generalize upd H10 l11 (.lst ((List.replicate (17 - top).toNat l9).map V.ref)) = H11 at *
   have T11 := T7.more (s8.trans (s9.trans (s10.trans s11)))
   have hul := t.ulen
   refine i_addL T11.at_ e11 (szl (by simp; lia)) (fun l12 h12 => ?_)
   rw [← List.map_append]
   have s12 : Same H11 _ := same_upd (o := .lst ((us ++ List.replicate (17 - top).toNat l9).map V.ref)) h12
   have e12 : upd H11 l12 (.lst ((us ++ List.replicate (17 - top).toNat l9).map V.ref)) l12 = some (.lst ((us ++ List.replicate (17 - top).toNat l9).map V.ref)) := upd_same
   generalize upd H11 l12 (.lst ((us ++ List.replicate (17 - top).toNat l9).map V.ref)) = H12 at *
   have T12 := T11.more s12
   have E9 := s12 _ _ (s11 _ _ (s10 _ _ e9))
   have E7 := s12 _ _ (s11 _ _ (s10 _ _ (s9 _ _ (s8 _ _ e7))))
   walk_at "s"
   refine it T12.sm (by lia) (by lia) (fun v5 p5 q5 => ?_)
   walk_at "s"
   have y1 := Int.emod_nonneg v5 (show (2 : Int) ≠ 0 by decide)
   have y2 := Int.emod_lt_of_pos v5 (show (0 : Int) < 2 by decide)
   have take_tab : ∀ {HH : Hp} {us : List Addr} {tab : List (List Int)} (i : Nat), TabAt HH us tab → TabAt HH (us.take i) (tab.take i) := by
    intro HH us tab i p
    induction p generalizing i with
    | nil => cases i <;> exact .nil
    | cons e _ ih => cases i with
      | zero => exact .nil
      | succ i => exact .cons e (ih i)
   have app_tab : ∀ {HH : Hp} {us vs : List Addr} {tab tac : List (List Int)}, TabAt HH us tab → TabAt HH vs tac → TabAt HH (us ++ vs) (tab ++ tac) := by
    intro HH us vs tab tac p q
    induction p with
    | nil => exact q
    | cons e _ ih => exact .cons e ih
   have rep_tab : ∀ {HH : Hp} {u : Addr} {r : List Int} (q : Nat), HH u = some (.lst (iL r)) → TabAt HH (List.replicate q u) (List.replicate q r) := by
    intro HH u r q e
    induction q with
    | zero => exact .nil
    | succ q ih => rw [List.replicate_succ, List.replicate_succ]; exact .cons e ih
   refine i_menu (xs := [.ref l7, .ref l12]) y1 (by simpa using y2) (fun v hv => ?_)
   rcases (show v5 % 2 = 0 ∨ v5 % 2 = 1 by lia) with z | z
   ·rw [z] at hv
    cases hv
    refine ⟨_, _, l7, _, _, rfl, N1.sm.trans T12.sm, E7, take_tab _ T12.tb, ?_, fun r hr' => ?_⟩
    ·have := t.ln; rw [List.length_take]; lia
    ·exact Nat.le_trans (t.rl r (List.mem_of_mem_take hr')) (by lia)
   ·rw [z] at hv
    cases hv
    refine ⟨_, _, l12, _, _, rfl, N1.sm.trans T12.sm, e12, app_tab T12.tb (rep_tab _ E9), ?_, fun r hr' => ?_⟩
    ·have := t.ln; rw [List.length_append, List.length_replicate]; lia
    ·rcases List.mem_append.mp hr' with q | q
     ·exact Nat.le_trans (t.rl r q) (by lia)
     ·rw [(List.mem_replicate.mp q).2, List.length_replicate]; lia
  rintro σ H7 ⟨u6, u7, l, us, tab, rfl, sm, hL, hT, hl1, hl2⟩
  walk_at "s"
  exact k l us tab _ sm hL hT hl1 hl2
theorem wOf_wsum (sws : List Sw) (k : Int × Int) : wOf sws k = wsum sws k.1 k.2 := by
 unfold wOf wsum
 rw [← fsum_flt]
 congr 3
 funext s
 obtain ⟨a, b, c⟩ := s
 obtain ⟨x, y⟩ := k
 simp
def mergedOf (sws : List Sw) (ms : List (Int × Int)) : List Sw := (ms.filter fun k => decide (wOf sws k ≠ 0)).map fun k => (k.1, k.2, wOf sws k)
theorem wOf_mem {sws : List Sw} {k : Int × Int} (h : wOf sws k ≠ 0) : ∃ s ∈ sws, (s.1, s.2.1) = k := by
 refine Classical.byContradiction fun z => h ?_
 unfold wOf
 rw [List.filter_eq_nil_iff.mpr (fun u hu' => by simpa using fun y => z ⟨u, hu', y⟩)]
 rfl
theorem merged_told {top : Nat} {sws : List Sw} (ht : top ≤ 16) (hv : ∀ s ∈ sws, okS top s) {ms : List (Int × Int)} (nd : ms.Nodup) (me : ∀ k, k ∈ ms ↔ ∃ s ∈ sws, (s.1, s.2.1) = k) (pw : ms.Pairwise fun a b => 100 * a.1 + a.2 ≤ 100 * b.1 + b.2) : mergedOf sws ms = toldW (wsum sws) top := by
 have hk : (ms.filter fun k => decide (wOf sws k ≠ 0)) = (toldW (wsum sws) top).map fun s => (s.1, s.2.1) := by
  refine keys_same (nd.filter _) ?_ (fun k => ?_) (pw.filter _) ?_ (fun k hk => ?_)
  ·refine List.pairwise_map.mpr ((toldW_up (wsum sws) top).imp fun {a b} h e => ?_)
   simp only [Prod.mk.injEq] at e
   rcases h with z | ⟨_, z⟩ <;> lia
  ·rw [List.mem_filter, me]
   simp only [decide_eq_true_eq]
   constructor
   ·rintro ⟨⟨s, hs, rfl⟩, hn⟩
    obtain ⟨z1, z2, z3⟩ := hv s hs
    rw [wOf_wsum] at hn
    exact List.mem_map.mpr ⟨_, toldW_has z1 z2 z3 hn, rfl⟩
   ·intro z
    obtain ⟨s, hs, rfl⟩ := List.mem_map.mp z
    obtain ⟨w1, w2⟩ := toldW_mem hs
    have hn : wOf sws (s.1, s.2.1) ≠ 0 := by rw [wOf_wsum]; simp only; rw [← w1]; exact w2
    exact ⟨wOf_mem hn, hn⟩
  ·refine List.pairwise_map.mpr (List.Pairwise.imp_of_mem (fun {a b} ha hb h => ?_) (toldW_up (wsum sws) top))
   obtain ⟨a1, a2, a3⟩ := toldW_ok _ _ a ha
   obtain ⟨b1, b2, b3⟩ := toldW_ok _ _ b hb
   simp only
   rcases h with z | ⟨z1, z2⟩ <;> lia
  ·obtain ⟨s, hs, rfl⟩ := (me k).mp (List.mem_filter.mp hk).1
   obtain ⟨y1, y2, y3⟩ := hv s hs
   exact ⟨by simp only; lia, by simp only; lia⟩
 unfold mergedOf
 rw [hk, toldW_keys, List.map_map, List.map_map]
 refine List.map_congr_left fun s hs => ?_
 simp only [Function.comp]
 rw [wOf_wsum]
theorem pd_bls {H : Hp} {l : Addr} {bs : List Bool} {n : Nat} (h : H l = some (.lst (bL bs))) : PdAt K H (n + 1) (.list (bs.map PyData.bool)) (.ref l) := by
 refine pd_lst (SqL.of h) ?_
 clear h
 induction bs with
 | nil => exact .nil
 | cons b bs ih => exact .cons pd_bl ih
theorem ok_law {f : Addr} {fd : FuncData} (F : Fun K "law" "law" s_law f fd) (T : Txt mg) (Z : Cls K mg) (Y : Own K mg) (C_law_box : Callee P w K mg base "_law_box" 2 (spLawBox K)) (C_law_so_returns_of : Callee P w K mg base "_law_so_returns_of" 8 spSoRet) (C_law_returns : Callee P w K mg base "_law_returns" 1 spLawRet) (C_law_places : Callee P w K mg base "_law_places" 2 spPlaces)
 (C_law_so_weights_of : Callee P w K mg base "_law_so_weights_of" 4 (fun vs H Q _ => ∃ (a : Addr) (ts : List Addr) (tab : List (List Int)), vs = [.ref a] ∧ H a = some (.lst (ts.map V.ref)) ∧ TabAt H ts tab ∧ tab.length ≤ 1000 ∧ (∀ r ∈ tab, r.length ≤ 1000) ∧ goodT tab ∧ ∀ l us H', Same H H' → H' l = some (.lst (us.map V.ref)) → SwT H' us (toldW (WT tab) (tab.length - 1)) → Q (.ref l) H'))
 (C_law_merged : Callee P w K mg base "_law_merged" 1 spMerged) (C_law_sorted_right : Callee P w K mg base "_law_sorted_right" 3 spSortedR) (C_law_a_table : Callee P w K mg base "_law_a_table" 2 (spATable K)) (C_law_a_told : Callee P w K mg base "_law_a_told" 5 spTold) (C_law_good : Callee P w K mg base "_law_good" 1 spGood) (C_law_due_kin : Callee P w K mg base "_law_due_kin" 1 spDueKinG) :
 FnOk P w K mg base CX0 9 f fd ["script"] (spLaw K) := by
 refine F.ok sc_law (fun vs H Q E h => ?_) (fun cdv A outer s H vs Q E hr h => ?_)
 ·obtain ⟨a, ns, rfl, _⟩ := h
  rfl
 ·obtain ⟨a, ns, rfl, hS, hlen, k⟩ := h
  have hu := hr.units
  refine ⟨_, (pss_cons (ps_asg (pe_callN C_law_box (hr.mono (by decide)) (by rfl) (pa_cons (pv 0) (pa_cons pe_int pa_nil))) (pg_tupK K 2 (pgs_cons (pg_name (i := 1) sc_law.nd rfl (Or.inl rfl)) (pgs_cons (pg_name (i := 2) sc_law.nd rfl (Or.inl rfl)) pgs_nil))))
 (pss_cons (ps_set (i := 3) sc_law.nd rfl (Or.inl rfl) (pe_callTy (call_listK K) (by rfl) T.z_list bt_list (pa_cons (pv 2) pa_nil)))
 (pss_cons (ps_set (i := 4) sc_law.nd rfl (Or.inr rfl) (pe_callN C_law_so_returns_of (hr.mono (by decide)) (by rfl) (pa_cons (pv 1) (pa_cons (pv 3) pa_nil))))
 (pss_cons (ps_if (PW.pt (pw_or (pt_cmpR (op_neK K hu) (pv 3) (pv 2) (nomark _)) (pw_or1 (pt_not (pt_truthK K (pe_callB (call_isinstanceK K) (by rfl) T.z_isinstance bt_isinstance (pa_cons (pv 4) (pa_cons (pe_bltn (by rfl) T.z_list bt_list (show RelV (.ty "list") _ from rfl)) pa_nil))))))))
 (pss_one (ps_ret pe_bl))
 pss_nil)
 (pss_join (ps_if (pt_cmpR (op_neK K hu) (pv 4) (pe_callN C_law_returns (hr.mono (by decide)) (by rfl) (pa_cons (pv 1) (pa_cons (pv 2) pa_nil))) (nomark _))
 (pss_one (ps_ret pe_bl))
 pss_nil)
 (pss_cons (ps_if (pt_cmpR (op_neK K hu) (by exact pe_comp (N := ["k", "found"]) (fr := [none, some 4]) ⟨by rfl, by decide +kernel, by decide +kernel, (show ∀ y ∈ (_ : List (Str × NameKind)), y.2 = NameKind.free → (defScope s_law).names.lookup y.1 = some .cell ∨ (defScope s_law).names.lookup y.1 = some .free by decide +kernel), (fr_none (fr_some (by rfl) (by first | exact Or.inl rfl | exact Or.inr rfl) (by rfl) fr_nil))⟩ (by rfl) (pi_range1 (by rfl) T.z_range (pa_cons (pe_op op_addP (pv 1) pe_int) pa_nil)) (fun _ _ _ _ => (pg_name (i := 0) (show List.Nodup (["k", "found"] : List Str) by decide) (by rfl) (by first | exact Or.inl rfl | exact Or.inr rfl))) (fun _ _ _ _ => (pifs_one (pt_not (pt_truthK K (pe_callN C_law_places (hr.mono (by decide)) (by rfl) (pa_cons (pe_ix (ix_K K) (pv 1) (pv 0) (by exact fun _ _ => rfl)) (pa_cons (pe_op op_addP (pv 0) pe_int) pa_nil))))))) (fun _ _ _ _ => (pv 0)) (gw_name (by rfl))) (pe_lst pa_nil) (nomark _))
 (pss_one (ps_ret pe_bl))
 pss_nil)
 (pss_cons (ps_set (i := 5) sc_law.nd rfl (Or.inl rfl) (pe_callN C_law_so_weights_of (hr.mono (by decide)) (by rfl) (pa_cons (pv 4) pa_nil)))
 (pss_cons (ps_if (PW.pt (pw_or (pt_not (pt_truthK K (pe_callB (call_isinstanceK K) (by rfl) T.z_isinstance bt_isinstance (pa_cons (pv 5) (pa_cons (pe_bltn (by rfl) T.z_list bt_list (show RelV (.ty "list") _ from rfl)) pa_nil))))) (pw_or1 (pt_cmpR (op_neK K hu) (pv 5) (pe_callN C_law_merged (hr.mono (by decide)) (by rfl) (pa_cons (pv 2) pa_nil)) (nomark _)))))
 (pss_one (ps_ret pe_bl))
 pss_nil)
 (pss_join (ps_if (pt_not (pt_truthK K (pe_callN C_law_sorted_right (hr.mono (by decide)) (by rfl) (pa_cons (pv 5) (pa_cons (pv 1) pa_nil)))))
 (pss_one (ps_ret pe_bl))
 pss_nil)
 (pss_cons (ps_set (i := 6) sc_law.nd rfl (Or.inl rfl) (pe_callN C_law_a_table (hr.mono (by decide)) (by rfl) (pa_cons (pv 0) pa_nil)))
 (pss_cons (by exact ps_setC (i := 7) sc_law.nd rfl (Or.inl rfl) (N := ["row"]) (fr := [none]) ⟨by rfl, by decide +kernel, by decide +kernel, (show ∀ y ∈ (_ : List (Str × NameKind)), y.2 = NameKind.free → (defScope s_law).names.lookup y.1 = some .cell ∨ (defScope s_law).names.lookup y.1 = some .free by decide +kernel), (fr_none fr_nil)⟩ (by rfl) (pi_listK K (pv 6)) (fun _ _ _ _ => (pg_name (i := 0) (show List.Nodup (["row"] : List Str) by decide) (by rfl) (by first | exact Or.inl rfl | exact Or.inr rfl))) (fun _ _ _ _ => pifs_nil) (fun _ _ _ _ => (pe_callTy (call_listK K) (by rfl) T.z_list bt_list (pa_cons (pv 0) pa_nil))) (gw_name (by rfl)))
 (pss_cons (ps_asg (pe_callN C_law_a_told (hr.mono (by decide)) (by rfl) (pa_cons (pv 7) pa_nil)) (pg_tupK K 2 (pgs_cons (pg_name (i := 5) sc_law.nd rfl (Or.inl rfl)) (pgs_cons (pg_name (i := 8) sc_law.nd rfl (Or.inl rfl)) pgs_nil))))
 (pss_cons (ps_if (pt_cmpR (op_neK K hu) (pv 7) (pv 6) (nomark _))
 (pss_one (ps_ret pe_bl))
 pss_nil)
 (pss_cons (ps_if (pt_not (pt_truthK K (pe_callN C_law_good (hr.mono (by decide)) (by rfl) (pa_cons (pv 6) pa_nil))))
 (pss_one (ps_ret (pe_cmpR (op_eqK K hu) (pv 8) (pe_callN C_law_due_kin (hr.mono (by decide)) (by rfl) (pa_cons pe_str pa_nil)) (nomark _))))
 pss_nil)
 (pss_cons (ps_if (PW.pt (pw_or (pt_cmpR (op_neK K hu) (pv 8) (pe_lst pa_nil) (nomark _)) (pw_or (pt_not (pt_truthK K (pe_callB (call_isinstanceK K) (by rfl) T.z_isinstance bt_isinstance (pa_cons (pv 5) (pa_cons (pe_bltn (by rfl) T.z_list bt_list (show RelV (.ty "list") _ from rfl)) pa_nil))))) (pw_or1 (pt_not (pt_truthK K (pe_callN C_law_sorted_right (hr.mono (by decide)) (by rfl) (pa_cons (pv 5) (pa_cons (pe_op op_sub (pe_callB (call_lenK K) (by rfl) T.z_len bt_len (pa_cons (pv 6) pa_nil)) pe_int) pa_nil)))))))))
 (pss_one (ps_ret pe_bl))
 pss_nil)
 (pss_cons (ps_if (pt_cmpR (op_neK K hu) (pe_callN C_law_returns (hr.mono (by decide)) (by rfl) (pa_cons (pe_op op_sub (pe_callB (call_lenK K) (by rfl) T.z_len bt_len (pa_cons (pv 6) pa_nil)) pe_int) (pa_cons (pv 5) pa_nil))) (pv 6) (nomark _))
 (pss_one (ps_ret pe_bl))
 pss_nil)
 (pss_one (ps_ret (pe_cmpR (op_eqK K hu) (pe_callN C_law_so_returns_of (hr.mono (by decide)) (by rfl) (pa_cons (pe_op op_sub (pe_callB (call_lenK K) (by rfl) T.z_len bt_len (pa_cons (pv 6) pa_nil)) pe_int) (pa_cons (pv 5) pa_nil))) (pv 6) (nomark _)))))))))))))))))))), ?_⟩
  walk_at "un"
  try clear hu
  walk_at "s"
  refine ⟨a, ns, 0, rfl, hS, by decide, fun t0 lsw ts sws top H1 s1 ht0 hL hT ht1 ht2 hsl hv => ?_⟩
  walk_at "s"
  refine ⟨_, _, rfl, SqT.of ht0, rfl, _, _, rfl, _, _, rfl, rfl, ?_⟩
  walk_at "z37"
  obtain ⟨tn, rfl⟩ : ∃ tn : Nat, top = (tn : Int) := ⟨top.toNat, by lia⟩
  have hv' : ∀ s ∈ sws, okS (tn : Int) s := fun s hs => hv s hs
  walk_at "s"
  refine i_listL (SqL.of hL) (fun l5 hl5 => ?_)
  have s5 : Same H1 _ := same_upd (o := .lst (ts.map V.ref)) hl5
  have e5 : upd H1 l5 (.lst (ts.map V.ref)) l5 = some (.lst (ts.map V.ref)) := upd_same
  generalize upd H1 l5 (.lst (ts.map V.ref)) = H5 at *
  replace hL := s5 _ _ hL
  replace hT := hT.more s5
  walk_at "s"
  refine ⟨l5, ts, sws, tn, rfl, e5, hT, by lia, by lia, by lia, hv', fun lf uf H6 s6 hF hTf => ?_⟩
  replace hL := s6 _ _ hL
  replace hT := hT.more s6
  replace e5 := s6 _ _ e5
  walk_at "s"
  refine i_neSame (.list (sws.map fun s => .tuple [.int s.1, .int s.2.1, .int s.2.2])) (pd_sws e5 hT) (pd_sws hL hT) ?_
  walk_at "s"
  refine i_isiLL hF ?_
  walk_at "s"
  refine ⟨fun σ H7 => σ = [some (.ref a), some (.int tn), some (.ref lsw), some (.ref l5), some (.ref lf), none, none, none, none] ∧ Same H6 H7, ?_, ?_⟩
  ·walk_at "s"
   refine ⟨lsw, ts, sws, tn, rfl, hL, hT, by lia, by lia, fun lr ur H7 s7 hR hTr => ?_⟩
   walk_at "s"
   refine i_neSame (.list ((tabOf sws (tn + 1)).map pL)) (pd_tab (s7 _ _ hF) (hTf.more s7)) (pd_tab hR hTr) ?_
   walk_at "s"
   exact ⟨rfl, s7⟩
  rintro σ H7 ⟨rfl, s7⟩
  replace hL := s7 _ _ hL
  replace hT := hT.more s7
  replace hF := s7 _ _ hF
  replace hTf := hTf.more s7
  walk_at "s"
  refine ⟨by lia, by lia, cp_range (fun i ys H8 => ys = [] ∧ Same H7 H8) ⟨rfl, Same.refl _⟩ ?_ (szlt (by lia)) ?_ ?_⟩
  ·rintro i ys H8 ⟨rfl, _⟩
   simp
  ·rintro i ys H8 hi ⟨rfl, sm⟩
   obtain ⟨u, hui, hU⟩ := paired_get hTf (tabOf_get sws (n := tn + 1) (h := i) (by lia))
   walk_at "s"
   refine i_ixN (SqL.of (sm _ _ hF)) (by lia) (v := .ref u) (by rw [List.getElem?_map, show (0 + (i : Int)).toNat = i by lia, hui]; rfl) ?_
   walk_at "s"
   refine ⟨u, _, _, rfl, sm _ _ hU, by rw [tabRow_len]; lia, by rw [tabRow_len]; lia, fun H9 s9 => ?_⟩
   walk_at "s"
   exact ⟨rfl, sm.trans s9⟩
  rintro l8 ys H8 ⟨rfl, s8⟩ hl8
  have s8' : Same H8 _ := same_upd (o := .lst []) hl8
  have e8 : upd H8 l8 (.lst []) l8 = some (.lst []) := upd_same
  generalize upd H8 l8 (.lst []) = H8b at *
  walk_at "s"
  intro l9 h9
  have s9 : Same H8b _ := same_upd (o := .lst []) h9
  have e9 : upd H8b l9 (.lst []) l9 = some (.lst []) := upd_same
  generalize upd H8b l9 (.lst []) = H9 at *
  refine i_neL (xs := []) (ys := []) (SqL.of (s9 _ _ e8)) (SqL.of e9) ?_
  have S9 := s8.trans (s8'.trans s9)
  replace hL := S9 _ _ hL
  replace hT := hT.more S9
  replace hF := S9 _ _ hF
  replace hTf := hTf.more S9
  rw [decide_eq_true rfl]
  walk_at "s"
  refine ⟨lf, uf, _, rfl, hF, hTf, by rw [tabOf_len]; lia, fun r hr' => ?_, good_tabOf hv' (by lia) (by lia), fun lw uw H10 s10 hW hTw => ?_⟩
  ·obtain ⟨i, hi, rfl⟩ := List.getElem_of_mem hr'
   rw [tabOf_len] at hi
   have := tabOf_get sws hi
   rw [List.getElem?_eq_getElem (by rw [tabOf_len]; exact hi)] at this
   rw [Option.some.inj this, tabRow_len]
   lia
  rw [tabOf_len, Nat.add_sub_cancel, told_tabOf hv'] at hTw
  replace hL := s10 _ _ hL
  replace hT := hT.more s10
  have hwl : uw.length ≤ 256 := by rw [hTw.length]; exact toldW_len _ _ (by lia)
  walk_at "s"
  refine i_isiLL hW ?_
  walk_at "s"
  refine ⟨lsw, ts, sws, rfl, hL, hT, by lia, fun s hs => ?_, fun lm tm m H11 s11 hM hTm nd me pw => ?_⟩
  ·obtain ⟨z1, z2, z3⟩ := hv' s hs
   exact ⟨by lia, by lia⟩
  have hme := merged_told (by lia) hv' nd me pw
  have hTm' : SwT H11 tm (mergedOf sws m) := hTm
  rw [hme] at hTm'
  replace hW := s11 _ _ hW
  replace hTw := SwT.more hTw s11
  walk_at "s"
  refine i_neSame (.list ((toldW (wsum sws) tn).map fun s => .tuple [.int s.1, .int s.2.1, .int s.2.2])) (pd_sws hW hTw) (pd_sws hM hTm') ?_
  walk_at "s"
  have S11 := s1.trans (s5.trans (s6.trans (s7.trans (S9.trans (s10.trans s11)))))
  refine ⟨fun σ H12 => ∃ u1 u2 u3 u4 u5 : Option V, σ = [some (.ref a), u1, u2, u3, u4, u5, none, none, none] ∧ Same H H12, ?_, ?_⟩
  ·walk_at "s"
   refine ⟨lw, uw, _, tn, rfl, hW, hTw, by rw [← hTw.length]; lia, fun s hs => ⟨toldW_ok _ _ s hs, (toldW_mem hs).2⟩, toldW_up _ _, fun H12 s12 => ?_⟩
   walk_at "s"
   exact ⟨_, _, _, _, _, rfl, S11.trans s12⟩
  rintro σ H12 ⟨u1, u2, u3, u4, u5, rfl, S12⟩
  clear S11 hTm hTm' hM hTw hW hTf hF hT hL hme nd me pw s5 s6 s7 s8 s8' s9 s10 s11 S9 e5 e8 e9
  walk_at "s"
  refine ⟨a, ns, rfl, S12.seq hS, fun lt ut tab H13 s13 hTa hTb hl1 hl2 => ?_⟩
  have hutl : ut.length = tab.length := hTb.length
  walk_at "s"
  refine ⟨⟨_, SqL.of hTa⟩, cp_list (xs := ut.map V.ref) (fun i ys H14 => ∃ us : List Addr, ys = us.map V.ref ∧ us.length = i ∧ Same H13 H14 ∧ TabAt H14 us (tab.take i)) ⟨[], rfl, rfl, Same.refl _, .nil⟩ ?_ (szlt (by simp; lia)) ?_ ?_⟩
  ·rintro i ys H14 ⟨us, rfl, hul, sm, _⟩
   exact ⟨SqL.of (sm _ _ hTa), by simp; lia⟩
  ·rintro i x ys H14 hx ⟨us, rfl, hul, sm, hU⟩
   walk_at "z11"
   walk_at "z9"
   obtain ⟨r, hri, hTs⟩ := paired_getL hTb hti
   walk_at "s"
   refine i_listL (SqL.of (sm _ _ hTs)) (fun l15 h15 => ?_)
   have s15 := same_upd (o := .lst (iL r)) h15
   refine ⟨us ++ [l15], by simp, by simp; lia, sm.trans s15, ?_⟩
   rw [take_snoc_get hri]
   exact Paired.snoc (TabAt.more hU s15) upd_same
  rintro lk ys H14 ⟨uk, rfl, hkl, s14, hK⟩ hlk
  rw [List.take_of_length_le (by simp; lia)] at hK
  have s14' : Same H14 _ := same_upd (o := .lst (uk.map V.ref)) hlk
  have e14 : upd H14 lk (.lst (uk.map V.ref)) lk = some (.lst (uk.map V.ref)) := upd_same
  generalize upd H14 lk (.lst (uk.map V.ref)) = H15 at *
  replace hK := hK.more s14'
  replace hTa := s14' _ _ (s14 _ _ hTa)
  replace hTb := hTb.more (s14.trans s14')
  walk_at "s"
  refine ⟨lk, uk, tab, rfl, e14, hK, by lia, fun r hr' => Nat.le_trans (hl2 r hr') (by lia), fun hg t16 l16 k16 u16 H16 s16 h16 hl16 hT16 hk16 => ?_, fun hn t16 k16 H16 s16 h16 hk16 => ?_⟩
  ·replace hTa := s16 _ _ hTa
   replace hTb := hTb.more s16
   replace e14 := s16 _ _ e14
   replace hK := hK.more s16
   walk_at "s"
   refine ⟨_, _, rfl, SqT.of h16, rfl, _, _, rfl, _, _, rfl, rfl, ?_⟩
   walk_at "s"
   refine i_neSame (.list (tab.map pL)) (pd_tab e14 hK) (pd_tab hTa hTb) ?_
   walk_at "s"
   refine ⟨lt, ut, tab, rfl, hTa, hTb, by lia, fun b hb => ?_⟩
   rw [hb.mpr hg]
   obtain ⟨g1, g2, g3⟩ := id hg
   walk_at "s"
   intro l17 h17
   have s17 : Same H16 _ := same_upd (o := .lst []) h17
   have e17 : upd H16 l17 (.lst []) l17 = some (.lst []) := upd_same
   generalize upd H16 l17 (.lst []) = H17 at *
   replace hTa := s17 _ _ hTa
   replace hTb := hTb.more s17
   replace hl16 := s17 _ _ hl16
   replace hT16 := SwT.more hT16 s17
   refine i_neL (xs := []) (ys := []) (SqL.of (s17 _ _ hk16)) (SqL.of e17) ?_
   rw [decide_eq_true rfl]
   walk_at "s"
   refine i_isiLL hl16 ?_
   walk_at "s"
   refine i_len (SqL.of hTa) ?_
   have hul16 : u16.length ≤ 256 := by rw [hT16.length]; exact toldW_len _ _ (by lia)
   walk_at "s"
   obtain ⟨top, htop⟩ : ∃ top, top + 1 = tab.length := ⟨tab.length - 1, by lia⟩
   have e0 : ((ut.map V.ref).length : Int) - 1 = (top : Int) := by simp; lia
   rw [show tab.length - 1 = top by lia] at hT16
   have hag := tab_again hg
   rw [show tab.length - 1 = top by lia, ← htop] at hag
   have hok : ∀ s ∈ toldW (WT tab) top, okS (top : Int) s := fun s hs => toldW_ok _ _ s hs
   rw [e0]
   refine ⟨l16, u16, _, top, rfl, hl16, hT16, by rw [← hT16.length]; lia, fun s hs => ⟨hok s hs, (toldW_mem hs).2⟩, toldW_up _ _, fun H18 s18 => ?_⟩
   replace hTa := s18 _ _ hTa
   replace hTb := hTb.more s18
   replace hl16 := s18 _ _ hl16
   replace hT16 := SwT.more hT16 s18
   walk_at "s"
   refine i_len (SqL.of hTa) ?_
   walk_at "s"
   rw [e0]
   refine ⟨l16, u16, _, top, rfl, hl16, hT16, by rw [← hT16.length]; lia, by lia, fun l19 u19 H19 s19 h19 hT19 => ?_⟩
   rw [hag] at hT19
   replace hTa := s19 _ _ hTa
   replace hTb := hTb.more s19
   replace hl16 := s19 _ _ hl16
   replace hT16 := SwT.more hT16 s19
   walk_at "s"
   refine i_neSame (.list (tab.map pL)) (pd_tab h19 hT19) (pd_tab hTa hTb) ?_
   walk_at "s"
   refine i_len (SqL.of hTa) ?_
   walk_at "s"
   rw [e0]
   refine ⟨l16, u16, _, top, rfl, hl16, hT16, by rw [← hT16.length]; lia, by lia, by lia, hok, fun l20 u20 H20 s20 h20 hT20 => ?_⟩
   rw [hag] at hT20
   walk_at "s"
   refine i_eqSame (.list (tab.map pL)) (pd_tab h20 hT20) (pd_tab (s20 _ _ hTa) (hTb.more s20)) ?_
   exact k _
  ·replace hTa := s16 _ _ hTa
   replace hTb := hTb.more s16
   replace e14 := s16 _ _ e14
   replace hK := hK.more s16
   walk_at "s"
   refine ⟨_, _, rfl, SqT.of h16, rfl, _, _, rfl, _, _, rfl, rfl, ?_⟩
   walk_at "s"
   refine i_neSame (.list (tab.map pL)) (pd_tab e14 hK) (pd_tab hTa hTb) ?_
   walk_at "s"
   refine ⟨lt, ut, tab, rfl, hTa, hTb, by lia, fun b hb => ?_⟩
   obtain rfl : b = false := by cases b with | false => rfl | true => exact absurd (hb.mp rfl) hn
   walk_at "s"
   refine ⟨"NoTable", rfl, by decide +kernel, fun ld H17 s17 hd => ?_⟩
   walk_at "s"
   refine i_eqSame (.list ((dueX "NoTable").map PyData.bool)) (pd_bls (s17 _ _ hk16)) (pd_bls hd) ?_
   exact k _
end
theorem all_mk {l : PySem.W.OpenLaw} {w : World} {K : PySem.W.Frag} {h : Heap} {mg : Str → Option Value} {fa : Addr} (X : K.In h) (G : h.Ns mainGlobals mg) (hfa : mg "law" = some (.ref fa))
 {c_Switch : Addr}
 {c_Box : Addr}
 {f0 : Addr} {o0 n0 : Option Addr} {s0 : Array (Option Value)} {q0 k0 d0 p0 e0 t0 : Value}
 {f1 : Addr} {o1 n1 : Option Addr} {s1 : Array (Option Value)} {q1 k1 d1 p1 e1 t1 : Value}
 {f2 : Addr} {o2 n2 : Option Addr} {s2 : Array (Option Value)} {q2 k2 d2 p2 e2 t2 : Value}
 {f3 : Addr} {o3 n3 : Option Addr} {s3 : Array (Option Value)} {q3 k3 d3 p3 e3 t3 : Value}
 {f4 : Addr} {o4 n4 : Option Addr} {s4 : Array (Option Value)} {q4 k4 d4 p4 e4 t4 : Value}
 {f5 : Addr} {o5 n5 : Option Addr} {s5 : Array (Option Value)} {q5 k5 d5 p5 e5 t5 : Value}
 {f6 : Addr} {o6 n6 : Option Addr} {s6 : Array (Option Value)} {q6 k6 d6 p6 e6 t6 : Value}
 {f7 : Addr} {o7 n7 : Option Addr} {s7 : Array (Option Value)} {q7 k7 d7 p7 e7 t7 : Value}
 {f8 : Addr} {o8 n8 : Option Addr} {s8 : Array (Option Value)} {q8 k8 d8 p8 e8 t8 : Value}
 {f9 : Addr} {o9 n9 : Option Addr} {s9 : Array (Option Value)} {q9 k9 d9 p9 e9 t9 : Value}
 {f10 : Addr} {o10 n10 : Option Addr} {s10 : Array (Option Value)} {q10 k10 d10 p10 e10 t10 : Value}
 {f11 : Addr} {o11 n11 : Option Addr} {s11 : Array (Option Value)} {q11 k11 d11 p11 e11 t11 : Value}
 {f12 : Addr} {o12 n12 : Option Addr} {s12 : Array (Option Value)} {q12 k12 d12 p12 e12 t12 : Value}
 {f13 : Addr} {o13 n13 : Option Addr} {s13 : Array (Option Value)} {q13 k13 d13 p13 e13 t13 : Value}
 {f14 : Addr} {o14 n14 : Option Addr} {s14 : Array (Option Value)} {q14 k14 d14 p14 e14 t14 : Value}
 {f15 : Addr} {o15 n15 : Option Addr} {s15 : Array (Option Value)} {q15 k15 d15 p15 e15 t15 : Value}
 {f16 : Addr} {o16 n16 : Option Addr} {s16 : Array (Option Value)} {q16 k16 d16 p16 e16 t16 : Value}
 {f17 : Addr} {o17 n17 : Option Addr} {s17 : Array (Option Value)} {q17 k17 d17 p17 e17 t17 : Value}
 {f18 : Addr} {o18 n18 : Option Addr} {s18 : Array (Option Value)} {q18 k18 d18 p18 e18 t18 : Value}
 {f19 : Addr} {o19 n19 : Option Addr} {s19 : Array (Option Value)} {q19 k19 d19 p19 e19 t19 : Value}
 {f20 : Addr} {o20 n20 : Option Addr} {s20 : Array (Option Value)} {q20 k20 d20 p20 e20 t20 : Value}
 {f21 : Addr} {o21 n21 : Option Addr} {s21 : Array (Option Value)} {q21 k21 d21 p21 e21 t21 : Value}
 {f22 : Addr} {o22 n22 : Option Addr} {s22 : Array (Option Value)} {q22 k22 d22 p22 e22 t22 : Value}
 {f23 : Addr} {o23 n23 : Option Addr} {s23 : Array (Option Value)} {q23 k23 d23 p23 e23 t23 : Value}
 {f24 : Addr} {o24 n24 : Option Addr} {s24 : Array (Option Value)} {q24 k24 d24 p24 e24 t24 : Value}
 {f25 : Addr} {o25 n25 : Option Addr} {s25 : Array (Option Value)} {q25 k25 d25 p25 e25 t25 : Value}
 {f26 : Addr} {o26 n26 : Option Addr} {s26 : Array (Option Value)} {q26 k26 d26 p26 e26 t26 : Value}
 {f27 : Addr} {o27 n27 : Option Addr} {s27 : Array (Option Value)} {q27 k27 d27 p27 e27 t27 : Value}
 {f28 : Addr} {o28 n28 : Option Addr} {s28 : Array (Option Value)} {q28 k28 d28 p28 e28 t28 : Value}
 {f29 : Addr} {o29 n29 : Option Addr} {s29 : Array (Option Value)} {q29 k29 d29 p29 e29 t29 : Value}
 {f30 : Addr} {o30 n30 : Option Addr} {s30 : Array (Option Value)} {q30 k30 d30 p30 e30 t30 : Value}
 {f31 : Addr} {o31 n31 : Option Addr} {s31 : Array (Option Value)} {q31 k31 d31 p31 e31 t31 : Value}
 {f32 : Addr} {o32 n32 : Option Addr} {s32 : Array (Option Value)} {q32 k32 d32 p32 e32 t32 : Value}
 {t_MOST_TOP : Tok}
 {c_TrainError : Addr}
 {c_NoTrain : Addr}
 {c_NoStand : Addr}
 {c_NoPaper : Addr}
 {c_NoBox : Addr}
 {c_NoSwitch : Addr}
 {c_NoPlace : Addr}
 {c_NoTable : Addr}
 {c_NoText : Addr}
 {c_NoRow : Addr}
 {c_NoPiece : Addr}
 {c_NothingLeft : Addr}
 {c_TooMany : Addr}
 (a0 : W.findIn K (.ref c_Switch) "__init__" = some (some (.ref f0))) (i0 : W.isFn K (.ref f0) = true) (l0 : K.lookup f0 = some ⟨q0, o0, .func (W.fnOf "__init__" "Switch.__init__" (defArgs s_Switch___init__) (defBody s_Switch___init__) (defScope s_Switch___init__) .none k0 d0 p0 n0 e0 t0), s0⟩) (c0 : W.codeIn K e0 "Switch.__init__" = true) (b0 : W.keepIn K (.ref f0) = true)
 (a1 : W.findIn K (.ref c_Switch) "turn" = some (some (.ref f1))) (i1 : W.isFn K (.ref f1) = true) (l1 : K.lookup f1 = some ⟨q1, o1, .func (W.fnOf "turn" "Switch.turn" (defArgs s_Switch_turn) (defBody s_Switch_turn) (defScope s_Switch_turn) .none k1 d1 p1 n1 e1 t1), s1⟩) (c1 : W.codeIn K e1 "Switch.turn" = true) (b1 : W.keepIn K (.ref f1) = true)
 (a2 : W.findIn K (.ref c_Switch) "on" = some (some (.ref f2))) (i2 : W.isFn K (.ref f2) = true) (l2 : K.lookup f2 = some ⟨q2, o2, .func (W.fnOf "on" "Switch.on" (defArgs s_Switch_on) (defBody s_Switch_on) (defScope s_Switch_on) .none k2 d2 p2 n2 e2 t2), s2⟩) (c2 : W.codeIn K e2 "Switch.on" = true) (b2 : W.keepIn K (.ref f2) = true)
 (a3 : W.nsIn K mainGlobals "switch_within" = some (some (.ref f3))) (l3 : K.lookup f3 = some ⟨q3, o3, .func (W.fnOf "switch_within" "switch_within" (defArgs s_switch_within) (defBody s_switch_within) (defScope s_switch_within) .none k3 d3 p3 n3 e3 t3), s3⟩) (c3 : W.codeIn K e3 "switch_within" = true) (b3 : W.keepIn K (.ref f3) = true)
 (a4 : W.nsIn K mainGlobals "refuse_no_top" = some (some (.ref f4))) (l4 : K.lookup f4 = some ⟨q4, o4, .func (W.fnOf "refuse_no_top" "refuse_no_top" (defArgs s_refuse_no_top) (defBody s_refuse_no_top) (defScope s_refuse_no_top) .none k4 d4 p4 n4 e4 t4), s4⟩) (c4 : W.codeIn K e4 "refuse_no_top" = true) (b4 : W.keepIn K (.ref f4) = true)
 (a5 : W.nsIn K mainGlobals "refuse_no_place" = some (some (.ref f5))) (l5 : K.lookup f5 = some ⟨q5, o5, .func (W.fnOf "refuse_no_place" "refuse_no_place" (defArgs s_refuse_no_place) (defBody s_refuse_no_place) (defScope s_refuse_no_place) .none k5 d5 p5 n5 e5 t5), s5⟩) (c5 : W.codeIn K e5 "refuse_no_place" = true) (b5 : W.keepIn K (.ref f5) = true)
 (a6 : W.findIn K (.ref c_Box) "__init__" = some (some (.ref f6))) (i6 : W.isFn K (.ref f6) = true) (l6 : K.lookup f6 = some ⟨q6, o6, .func (W.fnOf "__init__" "Box.__init__" (defArgs s_Box___init__) (defBody s_Box___init__) (defScope s_Box___init__) .none k6 d6 p6 n6 e6 t6), s6⟩) (c6 : W.codeIn K e6 "Box.__init__" = true) (b6 : W.keepIn K (.ref f6) = true)
 (a7 : W.findIn K (.ref c_Box) "lit" = some (some (.ref f7))) (i7 : W.isFn K (.ref f7) = true) (l7 : K.lookup f7 = some ⟨q7, o7, .func (W.fnOf "lit" "Box.lit" (defArgs s_Box_lit) (defBody s_Box_lit) (defScope s_Box_lit) .none k7 d7 p7 n7 e7 t7), s7⟩) (c7 : W.codeIn K e7 "Box.lit" = true) (b7 : W.keepIn K (.ref f7) = true)
 (a8 : W.findIn K (.ref c_Box) "answer" = some (some (.ref f8))) (i8 : W.isFn K (.ref f8) = true) (l8 : K.lookup f8 = some ⟨q8, o8, .func (W.fnOf "answer" "Box.answer" (defArgs s_Box_answer) (defBody s_Box_answer) (defScope s_Box_answer) .none k8 d8 p8 n8 e8 t8), s8⟩) (c8 : W.codeIn K e8 "Box.answer" = true) (b8 : W.keepIn K (.ref f8) = true)
 (a9 : W.findIn K (.ref c_Box) "turn" = some (some (.ref f9))) (i9 : W.isFn K (.ref f9) = true) (l9 : K.lookup f9 = some ⟨q9, o9, .func (W.fnOf "turn" "Box.turn" (defArgs s_Box_turn) (defBody s_Box_turn) (defScope s_Box_turn) .none k9 d9 p9 n9 e9 t9), s9⟩) (c9 : W.codeIn K e9 "Box.turn" = true) (b9 : W.keepIn K (.ref f9) = true)
 (a10 : W.nsIn K mainGlobals "_law_cell_at" = some (some (.ref f10))) (l10 : K.lookup f10 = some ⟨q10, o10, .func (W.fnOf "_law_cell_at" "_law_cell_at" (defArgs s_law_cell_at) (defBody s_law_cell_at) (defScope s_law_cell_at) .none k10 d10 p10 n10 e10 t10), s10⟩) (c10 : W.codeIn K e10 "_law_cell_at" = true) (b10 : W.keepIn K (.ref f10) = true)
 (a11 : W.nsIn K mainGlobals "_law_draws" = some (some (.ref f11))) (l11 : K.lookup f11 = some ⟨q11, o11, .func (W.fnOf "_law_draws" "_law_draws" (defArgs s_law_draws) (defBody s_law_draws) (defScope s_law_draws) .none k11 d11 p11 n11 e11 t11), s11⟩) (c11 : W.codeIn K e11 "_law_draws" = true) (b11 : W.keepIn K (.ref f11) = true)
 (a12 : W.nsIn K mainGlobals "_law_whole" = some (some (.ref f12))) (l12 : K.lookup f12 = some ⟨q12, o12, .func (W.fnOf "_law_whole" "_law_whole" (defArgs s_law_whole) (defBody s_law_whole) (defScope s_law_whole) .none k12 d12 p12 n12 e12 t12), s12⟩) (c12 : W.codeIn K e12 "_law_whole" = true) (b12 : W.keepIn K (.ref f12) = true)
 (a13 : W.nsIn K mainGlobals "_law_places" = some (some (.ref f13))) (l13 : K.lookup f13 = some ⟨q13, o13, .func (W.fnOf "_law_places" "_law_places" (defArgs s_law_places) (defBody s_law_places) (defScope s_law_places) .none k13 d13 p13 n13 e13 t13), s13⟩) (c13 : W.codeIn K e13 "_law_places" = true) (b13 : W.keepIn K (.ref f13) = true)
 (a14 : W.nsIn K mainGlobals "_law_box" = some (some (.ref f14))) (l14 : K.lookup f14 = some ⟨q14, o14, .func (W.fnOf "_law_box" "_law_box" (defArgs s_law_box) (defBody s_law_box) (defScope s_law_box) .none k14 d14 p14 n14 e14 t14), s14⟩) (c14 : W.codeIn K e14 "_law_box" = true) (b14 : W.keepIn K (.ref f14) = true)
 (a15 : W.findIn K (.ref c_Box) "anew" = some (some (.ref f15))) (i15 : W.isFn K (.ref f15) = true) (l15 : K.lookup f15 = some ⟨q15, o15, .func (W.fnOf "anew" "Box.anew" (defArgs s_Box_anew) (defBody s_Box_anew) (defScope s_Box_anew) .none k15 d15 p15 n15 e15 t15), s15⟩) (c15 : W.codeIn K e15 "Box.anew" = true) (b15 : W.keepIn K (.ref f15) = true)
 (a16 : W.nsIn K mainGlobals "first_return" = some (some (.ref f16))) (l16 : K.lookup f16 = some ⟨q16, o16, .func (W.fnOf "first_return" "first_return" (defArgs s_first_return) (defBody s_first_return) (defScope s_first_return) .none k16 d16 p16 n16 e16 t16), s16⟩) (c16 : W.codeIn K e16 "first_return" = true) (b16 : W.keepIn K (.ref f16) = true)
 (a17 : W.nsIn K mainGlobals "returns_of" = some (some (.ref f17))) (l17 : K.lookup f17 = some ⟨q17, o17, .func (W.fnOf "returns_of" "returns_of" (defArgs s_returns_of) (defBody s_returns_of) (defScope s_returns_of) .none k17 d17 p17 n17 e17 t17), s17⟩) (c17 : W.codeIn K e17 "returns_of" = true) (b17 : W.keepIn K (.ref f17) = true)
 (a18 : W.nsIn K mainGlobals "_law_merged" = some (some (.ref f18))) (l18 : K.lookup f18 = some ⟨q18, o18, .func (W.fnOf "_law_merged" "_law_merged" (defArgs s_law_merged) (defBody s_law_merged) (defScope s_law_merged) .none k18 d18 p18 n18 e18 t18), s18⟩) (c18 : W.codeIn K e18 "_law_merged" = true) (b18 : W.keepIn K (.ref f18) = true)
 (a19 : W.nsIn K mainGlobals "_law_returns" = some (some (.ref f19))) (l19 : K.lookup f19 = some ⟨q19, o19, .func (W.fnOf "_law_returns" "_law_returns" (defArgs s_law_returns) (defBody s_law_returns) (defScope s_law_returns) .none k19 d19 p19 n19 e19 t19), s19⟩) (c19 : W.codeIn K e19 "_law_returns" = true) (b19 : W.keepIn K (.ref f19) = true)
 (a20 : W.nsIn K mainGlobals "_law_a_kin" = some (some (.ref f20))) (l20 : K.lookup f20 = some ⟨q20, o20, .func (W.fnOf "_law_a_kin" "_law_a_kin" (defArgs s_law_a_kin) (defBody s_law_a_kin) (defScope s_law_a_kin) .none k20 d20 p20 n20 e20 t20), s20⟩) (c20 : W.codeIn K e20 "_law_a_kin" = true) (b20 : W.keepIn K (.ref f20) = true)
 (a21 : W.nsIn K mainGlobals "_law_due_kin" = some (some (.ref f21))) (l21 : K.lookup f21 = some ⟨q21, o21, .func (W.fnOf "_law_due_kin" "_law_due_kin" (defArgs s_law_due_kin) (defBody s_law_due_kin) (defScope s_law_due_kin) .none k21 d21 p21 n21 e21 t21), s21⟩) (c21 : W.codeIn K e21 "_law_due_kin" = true) (b21 : W.keepIn K (.ref f21) = true)
 (a22 : W.nsIn K mainGlobals "is_table" = some (some (.ref f22))) (l22 : K.lookup f22 = some ⟨q22, o22, .func (W.fnOf "is_table" "is_table" (defArgs s_is_table) (defBody s_is_table) (defScope s_is_table) .none k22 d22 p22 n22 e22 t22), s22⟩) (c22 : W.codeIn K e22 "is_table" = true) (b22 : W.keepIn K (.ref f22) = true)
 (a23 : W.nsIn K mainGlobals "weight_at" = some (some (.ref f23))) (l23 : K.lookup f23 = some ⟨q23, o23, .func (W.fnOf "weight_at" "weight_at" (defArgs s_weight_at) (defBody s_weight_at) (defScope s_weight_at) .none k23 d23 p23 n23 e23 t23), s23⟩) (c23 : W.codeIn K e23 "weight_at" = true) (b23 : W.keepIn K (.ref f23) = true)
 (a24 : W.nsIn K mainGlobals "weights_of" = some (some (.ref f24))) (l24 : K.lookup f24 = some ⟨q24, o24, .func (W.fnOf "weights_of" "weights_of" (defArgs s_weights_of) (defBody s_weights_of) (defScope s_weights_of) .none k24 d24 p24 n24 e24 t24), s24⟩) (c24 : W.codeIn K e24 "weights_of" = true) (b24 : W.keepIn K (.ref f24) = true)
 (a25 : W.nsIn K mainGlobals "_law_own" = some (some (.ref f25))) (l25 : K.lookup f25 = some ⟨q25, o25, .func (W.fnOf "_law_own" "_law_own" (defArgs s_law_own) (defBody s_law_own) (defScope s_law_own) .none k25 d25 p25 n25 e25 t25), s25⟩) (c25 : W.codeIn K e25 "_law_own" = true) (b25 : W.keepIn K (.ref f25) = true)
 (a26 : W.nsIn K mainGlobals "_law_so_returns_of" = some (some (.ref f26))) (l26 : K.lookup f26 = some ⟨q26, o26, .func (W.fnOf "_law_so_returns_of" "_law_so_returns_of" (defArgs s_law_so_returns_of) (defBody s_law_so_returns_of) (defScope s_law_so_returns_of) .none k26 d26 p26 n26 e26 t26), s26⟩) (c26 : W.codeIn K e26 "_law_so_returns_of" = true) (b26 : W.keepIn K (.ref f26) = true)
 (a27 : W.nsIn K mainGlobals "_law_so_weights_of" = some (some (.ref f27))) (l27 : K.lookup f27 = some ⟨q27, o27, .func (W.fnOf "_law_so_weights_of" "_law_so_weights_of" (defArgs s_law_so_weights_of) (defBody s_law_so_weights_of) (defScope s_law_so_weights_of) .none k27 d27 p27 n27 e27 t27), s27⟩) (c27 : W.codeIn K e27 "_law_so_weights_of" = true) (b27 : W.keepIn K (.ref f27) = true)
 (a28 : W.nsIn K mainGlobals "_law_sorted_right" = some (some (.ref f28))) (l28 : K.lookup f28 = some ⟨q28, o28, .func (W.fnOf "_law_sorted_right" "_law_sorted_right" (defArgs s_law_sorted_right) (defBody s_law_sorted_right) (defScope s_law_sorted_right) .none k28 d28 p28 n28 e28 t28), s28⟩) (c28 : W.codeIn K e28 "_law_sorted_right" = true) (b28 : W.keepIn K (.ref f28) = true)
 (a29 : W.nsIn K mainGlobals "_law_good" = some (some (.ref f29))) (l29 : K.lookup f29 = some ⟨q29, o29, .func (W.fnOf "_law_good" "_law_good" (defArgs s_law_good) (defBody s_law_good) (defScope s_law_good) .none k29 d29 p29 n29 e29 t29), s29⟩) (c29 : W.codeIn K e29 "_law_good" = true) (b29 : W.keepIn K (.ref f29) = true)
 (a30 : W.nsIn K mainGlobals "_law_a_told" = some (some (.ref f30))) (l30 : K.lookup f30 = some ⟨q30, o30, .func (W.fnOf "_law_a_told" "_law_a_told" (defArgs s_law_a_told) (defBody s_law_a_told) (defScope s_law_a_told) .none k30 d30 p30 n30 e30 t30), s30⟩) (c30 : W.codeIn K e30 "_law_a_told" = true) (b30 : W.keepIn K (.ref f30) = true)
 (a31 : W.nsIn K mainGlobals "_law_a_table" = some (some (.ref f31))) (l31 : K.lookup f31 = some ⟨q31, o31, .func (W.fnOf "_law_a_table" "_law_a_table" (defArgs s_law_a_table) (defBody s_law_a_table) (defScope s_law_a_table) .none k31 d31 p31 n31 e31 t31), s31⟩) (c31 : W.codeIn K e31 "_law_a_table" = true) (b31 : W.keepIn K (.ref f31) = true)
 (a32 : W.nsIn K mainGlobals "law" = some (some (.ref f32))) (l32 : K.lookup f32 = some ⟨q32, o32, .func (W.fnOf "law" "law" (defArgs s_law) (defBody s_law) (defScope s_law) .none k32 d32 p32 n32 e32 t32), s32⟩) (c32 : W.codeIn K e32 "law" = true) (b32 : W.keepIn K (.ref f32) = true)
 (z_ValueError : PySem.W.nsIn K mainGlobals "ValueError" = some none)
 (z_all : PySem.W.nsIn K mainGlobals "all" = some none)
 (z_bool : PySem.W.nsIn K mainGlobals "bool" = some none)
 (z_dict : PySem.W.nsIn K mainGlobals "dict" = some none)
 (z_enumerate : PySem.W.nsIn K mainGlobals "enumerate" = some none)
 (z_int : PySem.W.nsIn K mainGlobals "int" = some none)
 (z_isinstance : PySem.W.nsIn K mainGlobals "isinstance" = some none)
 (z_len : PySem.W.nsIn K mainGlobals "len" = some none)
 (z_list : PySem.W.nsIn K mainGlobals "list" = some none)
 (z_min : PySem.W.nsIn K mainGlobals "min" = some none)
 (z_range : PySem.W.nsIn K mainGlobals "range" = some none)
 (z_sorted : PySem.W.nsIn K mainGlobals "sorted" = some none)
 (z_str : PySem.W.nsIn K mainGlobals "str" = some none)
 (z_sum : PySem.W.nsIn K mainGlobals "sum" = some none)
 (z_tuple : PySem.W.nsIn K mainGlobals "tuple" = some none)
 (g_MOST_TOP : PySem.W.nsIn K mainGlobals "MOST_TOP" = some (some (.int 16 t_MOST_TOP)))
 (w_Switch : PySem.W.nsIn K mainGlobals "Switch" = some (some (.ref c_Switch)))
 (w_Box : PySem.W.nsIn K mainGlobals "Box" = some (some (.ref c_Box)))
 (pg_Switch : PySem.W.plainGet K c_Switch Str.empty = true)
 (hd_Switch : PySem.W.hasDictIn K c_Switch = true)
 (po_Switch : PySem.W.plainOver K c_Switch = true)
 (sa_Switch : PySem.W.findIn K (.ref c_Switch) "__setattr__" = some (some (.builtin "object.__setattr__")))
 (mk_Switch : PySem.W.makesIn K c_Switch = true)
 (kc_Switch : PySem.W.keepIn K (.ref c_Switch) = true)
 (na_Switch_low : PySem.W.findIn K (.ref c_Switch) "low" = some none)
 (na_Switch_high : PySem.W.findIn K (.ref c_Switch) "high" = some none)
 (na_Switch_is_on : PySem.W.findIn K (.ref c_Switch) "is_on" = some none)
 (pg_Box : PySem.W.plainGet K c_Box Str.empty = true)
 (hd_Box : PySem.W.hasDictIn K c_Box = true)
 (po_Box : PySem.W.plainOver K c_Box = true)
 (sa_Box : PySem.W.findIn K (.ref c_Box) "__setattr__" = some (some (.builtin "object.__setattr__")))
 (mk_Box : PySem.W.makesIn K c_Box = true)
 (kc_Box : PySem.W.keepIn K (.ref c_Box) = true)
 (na_Box_top : PySem.W.findIn K (.ref c_Box) "top" = some none)
 (na_Box_switches : PySem.W.findIn K (.ref c_Box) "switches" = some none)
 (na_Box_weights : PySem.W.findIn K (.ref c_Box) "weights" = some none)
 (na_Box_at : PySem.W.findIn K (.ref c_Box) "at" = some none)
 (n_TrainError : PySem.W.nsIn K mainGlobals "TrainError" = some (some (.ref c_TrainError)))
 (n_NoTrain : PySem.W.nsIn K mainGlobals "NoTrain" = some (some (.ref c_NoTrain)))
 (n_NoStand : PySem.W.nsIn K mainGlobals "NoStand" = some (some (.ref c_NoStand)))
 (n_NoPaper : PySem.W.nsIn K mainGlobals "NoPaper" = some (some (.ref c_NoPaper)))
 (n_NoBox : PySem.W.nsIn K mainGlobals "NoBox" = some (some (.ref c_NoBox)))
 (n_NoSwitch : PySem.W.nsIn K mainGlobals "NoSwitch" = some (some (.ref c_NoSwitch)))
 (n_NoPlace : PySem.W.nsIn K mainGlobals "NoPlace" = some (some (.ref c_NoPlace)))
 (n_NoTable : PySem.W.nsIn K mainGlobals "NoTable" = some (some (.ref c_NoTable)))
 (n_NoText : PySem.W.nsIn K mainGlobals "NoText" = some (some (.ref c_NoText)))
 (n_NoRow : PySem.W.nsIn K mainGlobals "NoRow" = some (some (.ref c_NoRow)))
 (n_NoPiece : PySem.W.nsIn K mainGlobals "NoPiece" = some (some (.ref c_NoPiece)))
 (n_NothingLeft : PySem.W.nsIn K mainGlobals "NothingLeft" = some (some (.ref c_NothingLeft)))
 (n_TooMany : PySem.W.nsIn K mainGlobals "TooMany" = some (some (.ref c_TooMany)))
 (x_NoTable : PySem.W.excIn K c_NoTable [.type "ValueError", .type "Exception", .type "BaseException", .type "object"] "ValueError.__new__" = true)
 (e_NoTable : PySem.W.exmOne K (.ref c_NoTable) (.ref c_TrainError) = some true)
 (i_NoTable_ga : PySem.W.findIn K (.ref c_NoTable) "__getattribute__" = some (some (.builtin "BaseException.__getattribute__")))
 (i_NoTable_gt : PySem.W.findIn K (.ref c_NoTable) "__getattr__" = some none)
 (i_NoTable_mb : PySem.W.mroIn K c_NoTable (.type "BaseException") = some true)
 (i_NoTable_hd : PySem.W.hasDictIn K c_NoTable = true)
 (i_NoTable_ca : PySem.W.findIn K (.ref c_NoTable) "__class__" = some (some (.builtin "object.__class__")))
 (i_NoTable_sp : PySem.W.specialIn K (.builtin "object.__class__") "__get__" = some (some (.builtin "getset_descriptor.__get__")))
 (i_NoTable_tk : PySem.W.takesIn K (.builtin "object.__class__") = some true)
 (i_NoTable_mr : PySem.W.mroIn K c_NoTable (.type "object") = some true)
 (k_NoTable_NoTrain : PySem.W.kitOne K (.ref c_NoTable) (.ref c_NoTrain) = some false)
 (k_NoTable_NoStand : PySem.W.kitOne K (.ref c_NoTable) (.ref c_NoStand) = some false)
 (k_NoTable_NoPaper : PySem.W.kitOne K (.ref c_NoTable) (.ref c_NoPaper) = some false)
 (k_NoTable_NoBox : PySem.W.kitOne K (.ref c_NoTable) (.ref c_NoBox) = some false)
 (k_NoTable_NoSwitch : PySem.W.kitOne K (.ref c_NoTable) (.ref c_NoSwitch) = some false)
 (k_NoTable_NoPlace : PySem.W.kitOne K (.ref c_NoTable) (.ref c_NoPlace) = some false)
 (k_NoTable_NoTable : PySem.W.kitOne K (.ref c_NoTable) (.ref c_NoTable) = some true)
 (k_NoTable_NoText : PySem.W.kitOne K (.ref c_NoTable) (.ref c_NoText) = some false)
 (k_NoTable_NoRow : PySem.W.kitOne K (.ref c_NoTable) (.ref c_NoRow) = some false)
 (k_NoTable_NoPiece : PySem.W.kitOne K (.ref c_NoTable) (.ref c_NoPiece) = some false)
 (k_NoTable_NothingLeft : PySem.W.kitOne K (.ref c_NoTable) (.ref c_NothingLeft) = some false)
 (k_NoTable_TooMany : PySem.W.kitOne K (.ref c_NoTable) (.ref c_TooMany) = some false)
 (k_NoTable_ValueError : PySem.W.kitOne K (.ref c_NoTable) (.type "ValueError") = some true) :
 ∃ fd : FuncData, (∀ (s : Shared) (v : Value), BindsTo s fd ⟨[v], []⟩ [("script", v)]) ∧ ∀ base : Heap, K.In base → base.Ns mainGlobals mg → FnOk l.prog w K mg base CX0 9 fa fd ["script"] (spLaw K) := by
 have e := hfa.symm.trans (PySem.W.mg_of X G a32)
 cases e
 have T : Txt mg := ⟨PySem.W.mg_none_of X G z_ValueError, PySem.W.mg_none_of X G z_all, PySem.W.mg_none_of X G z_bool, PySem.W.mg_none_of X G z_dict, PySem.W.mg_none_of X G z_enumerate, PySem.W.mg_none_of X G z_int, PySem.W.mg_none_of X G z_isinstance, PySem.W.mg_none_of X G z_len, PySem.W.mg_none_of X G z_list, PySem.W.mg_none_of X G z_min, PySem.W.mg_none_of X G z_range, PySem.W.mg_none_of X G z_sorted, PySem.W.mg_none_of X G z_str, PySem.W.mg_none_of X G z_sum, PySem.W.mg_none_of X G z_tuple, ⟨_, PySem.W.mg_of X G g_MOST_TOP⟩⟩
 let Z : Cls K mg := ⟨c_TrainError, c_NoTrain, c_NoStand, c_NoPaper, c_NoBox, c_NoSwitch, c_NoPlace, c_NoTable, c_NoText, c_NoRow, c_NoPiece, c_NothingLeft, c_TooMany, PySem.W.mg_of X G n_TrainError, PySem.W.mg_of X G n_NoTrain, PySem.W.mg_of X G n_NoStand, PySem.W.mg_of X G n_NoPaper, PySem.W.mg_of X G n_NoBox, PySem.W.mg_of X G n_NoSwitch, PySem.W.mg_of X G n_NoPlace, PySem.W.mg_of X G n_NoTable, PySem.W.mg_of X G n_NoText, PySem.W.mg_of X G n_NoRow, PySem.W.mg_of X G n_NoPiece, PySem.W.mg_of X G n_NothingLeft, PySem.W.mg_of X G n_TooMany, x_NoTable, e_NoTable, i_NoTable_ga, i_NoTable_gt, i_NoTable_mb, i_NoTable_hd, i_NoTable_ca, i_NoTable_sp, i_NoTable_tk, i_NoTable_mr, k_NoTable_NoTrain, k_NoTable_NoStand, k_NoTable_NoPaper, k_NoTable_NoBox, k_NoTable_NoSwitch, k_NoTable_NoPlace, k_NoTable_NoTable, k_NoTable_NoText, k_NoTable_NoRow, k_NoTable_NoPiece, k_NoTable_NothingLeft, k_NoTable_TooMany, k_NoTable_ValueError⟩
 let Y : Own K mg := ⟨c_Switch, c_Box, PySem.W.mg_of X G w_Switch, PySem.W.mg_of X G w_Box, pg_Switch, hd_Switch, po_Switch, sa_Switch, mk_Switch, kc_Switch, na_Switch_low, na_Switch_high, na_Switch_is_on, pg_Box, hd_Box, po_Box, sa_Box, mk_Box, kc_Box, na_Box_top, na_Box_switches, na_Box_weights, na_Box_at⟩
 have F_Switch___init__ := fun_mk (st := s_Switch___init__) l0 c0 b0
 have D_Switch___init__ : DefM K Y.c_Switch "__init__" "Switch.__init__" s_Switch___init__ := ⟨_, _, F_Switch___init__, ⟨a0, i0, b0⟩⟩
 have F_Switch_turn := fun_mk (st := s_Switch_turn) l1 c1 b1
 have D_Switch_turn : DefM K Y.c_Switch "turn" "Switch.turn" s_Switch_turn := ⟨_, _, F_Switch_turn, ⟨a1, i1, b1⟩⟩
 have F_Switch_on := fun_mk (st := s_Switch_on) l2 c2 b2
 have D_Switch_on : DefM K Y.c_Switch "on" "Switch.on" s_Switch_on := ⟨_, _, F_Switch_on, ⟨a2, i2, b2⟩⟩
 have F_switch_within := fun_mk (st := s_switch_within) l3 c3 b3
 have D_switch_within : Def K mg "switch_within" s_switch_within := ⟨_, _, F_switch_within, W.mg_of X G a3⟩
 have F_refuse_no_top := fun_mk (st := s_refuse_no_top) l4 c4 b4
 have D_refuse_no_top : Def K mg "refuse_no_top" s_refuse_no_top := ⟨_, _, F_refuse_no_top, W.mg_of X G a4⟩
 have F_refuse_no_place := fun_mk (st := s_refuse_no_place) l5 c5 b5
 have D_refuse_no_place : Def K mg "refuse_no_place" s_refuse_no_place := ⟨_, _, F_refuse_no_place, W.mg_of X G a5⟩
 have F_Box___init__ := fun_mk (st := s_Box___init__) l6 c6 b6
 have D_Box___init__ : DefM K Y.c_Box "__init__" "Box.__init__" s_Box___init__ := ⟨_, _, F_Box___init__, ⟨a6, i6, b6⟩⟩
 have F_Box_lit := fun_mk (st := s_Box_lit) l7 c7 b7
 have D_Box_lit : DefM K Y.c_Box "lit" "Box.lit" s_Box_lit := ⟨_, _, F_Box_lit, ⟨a7, i7, b7⟩⟩
 have F_Box_answer := fun_mk (st := s_Box_answer) l8 c8 b8
 have D_Box_answer : DefM K Y.c_Box "answer" "Box.answer" s_Box_answer := ⟨_, _, F_Box_answer, ⟨a8, i8, b8⟩⟩
 have F_Box_turn := fun_mk (st := s_Box_turn) l9 c9 b9
 have D_Box_turn : DefM K Y.c_Box "turn" "Box.turn" s_Box_turn := ⟨_, _, F_Box_turn, ⟨a9, i9, b9⟩⟩
 have F_law_cell_at := fun_mk (st := s_law_cell_at) l10 c10 b10
 have D_law_cell_at : Def K mg "_law_cell_at" s_law_cell_at := ⟨_, _, F_law_cell_at, W.mg_of X G a10⟩
 have F_law_draws := fun_mk (st := s_law_draws) l11 c11 b11
 have D_law_draws : Def K mg "_law_draws" s_law_draws := ⟨_, _, F_law_draws, W.mg_of X G a11⟩
 have F_law_whole := fun_mk (st := s_law_whole) l12 c12 b12
 have D_law_whole : Def K mg "_law_whole" s_law_whole := ⟨_, _, F_law_whole, W.mg_of X G a12⟩
 have F_law_places := fun_mk (st := s_law_places) l13 c13 b13
 have D_law_places : Def K mg "_law_places" s_law_places := ⟨_, _, F_law_places, W.mg_of X G a13⟩
 have F_law_box := fun_mk (st := s_law_box) l14 c14 b14
 have D_law_box : Def K mg "_law_box" s_law_box := ⟨_, _, F_law_box, W.mg_of X G a14⟩
 have F_Box_anew := fun_mk (st := s_Box_anew) l15 c15 b15
 have D_Box_anew : DefM K Y.c_Box "anew" "Box.anew" s_Box_anew := ⟨_, _, F_Box_anew, ⟨a15, i15, b15⟩⟩
 have F_first_return := fun_mk (st := s_first_return) l16 c16 b16
 have D_first_return : Def K mg "first_return" s_first_return := ⟨_, _, F_first_return, W.mg_of X G a16⟩
 have F_returns_of := fun_mk (st := s_returns_of) l17 c17 b17
 have D_returns_of : Def K mg "returns_of" s_returns_of := ⟨_, _, F_returns_of, W.mg_of X G a17⟩
 have F_law_merged := fun_mk (st := s_law_merged) l18 c18 b18
 have D_law_merged : Def K mg "_law_merged" s_law_merged := ⟨_, _, F_law_merged, W.mg_of X G a18⟩
 have F_law_returns := fun_mk (st := s_law_returns) l19 c19 b19
 have D_law_returns : Def K mg "_law_returns" s_law_returns := ⟨_, _, F_law_returns, W.mg_of X G a19⟩
 have F_law_a_kin := fun_mk (st := s_law_a_kin) l20 c20 b20
 have D_law_a_kin : Def K mg "_law_a_kin" s_law_a_kin := ⟨_, _, F_law_a_kin, W.mg_of X G a20⟩
 have F_law_due_kin := fun_mk (st := s_law_due_kin) l21 c21 b21
 have D_law_due_kin : Def K mg "_law_due_kin" s_law_due_kin := ⟨_, _, F_law_due_kin, W.mg_of X G a21⟩
 have F_is_table := fun_mk (st := s_is_table) l22 c22 b22
 have D_is_table : Def K mg "is_table" s_is_table := ⟨_, _, F_is_table, W.mg_of X G a22⟩
 have F_weight_at := fun_mk (st := s_weight_at) l23 c23 b23
 have D_weight_at : Def K mg "weight_at" s_weight_at := ⟨_, _, F_weight_at, W.mg_of X G a23⟩
 have F_weights_of := fun_mk (st := s_weights_of) l24 c24 b24
 have D_weights_of : Def K mg "weights_of" s_weights_of := ⟨_, _, F_weights_of, W.mg_of X G a24⟩
 have F_law_own := fun_mk (st := s_law_own) l25 c25 b25
 have D_law_own : Def K mg "_law_own" s_law_own := ⟨_, _, F_law_own, W.mg_of X G a25⟩
 have F_law_so_returns_of := fun_mk (st := s_law_so_returns_of) l26 c26 b26
 have D_law_so_returns_of : Def K mg "_law_so_returns_of" s_law_so_returns_of := ⟨_, _, F_law_so_returns_of, W.mg_of X G a26⟩
 have F_law_so_weights_of := fun_mk (st := s_law_so_weights_of) l27 c27 b27
 have D_law_so_weights_of : Def K mg "_law_so_weights_of" s_law_so_weights_of := ⟨_, _, F_law_so_weights_of, W.mg_of X G a27⟩
 have F_law_sorted_right := fun_mk (st := s_law_sorted_right) l28 c28 b28
 have D_law_sorted_right : Def K mg "_law_sorted_right" s_law_sorted_right := ⟨_, _, F_law_sorted_right, W.mg_of X G a28⟩
 have F_law_good := fun_mk (st := s_law_good) l29 c29 b29
 have D_law_good : Def K mg "_law_good" s_law_good := ⟨_, _, F_law_good, W.mg_of X G a29⟩
 have F_law_a_told := fun_mk (st := s_law_a_told) l30 c30 b30
 have D_law_a_told : Def K mg "_law_a_told" s_law_a_told := ⟨_, _, F_law_a_told, W.mg_of X G a30⟩
 have F_law_a_table := fun_mk (st := s_law_a_table) l31 c31 b31
 have D_law_a_table : Def K mg "_law_a_table" s_law_a_table := ⟨_, _, F_law_a_table, W.mg_of X G a31⟩
 have F_law := fun_mk (st := s_law) l32 c32 b32
 have D_law : Def K mg "law" s_law := ⟨_, _, F_law, W.mg_of X G a32⟩
 refine ⟨PySem.W.fnOf "law" "law" (defArgs s_law) (defBody s_law) (defScope s_law) .none k32 d32 p32 n32 e32 t32, fun s v => .of_eq rfl, fun base _ _ => ?_⟩
 have C_Switch___init__ := ok_Switch___init__ (P := l.prog) (w := w) (base := base) T Y D_Switch___init__
 have C_Switch := CalleeM.made (x := "Switch") C_Switch___init__ Y.mk_Switch Y.kc_Switch Y.m_Switch
 have C_Switch_turn := ok_Switch_turn (P := l.prog) (w := w) (base := base) T Y D_Switch_turn
 have C_Switch_on := ok_Switch_on (P := l.prog) (w := w) (base := base) T Y D_Switch_on
 have C_switch_within := ok_switch_within (P := l.prog) (w := w) (base := base) T Y D_switch_within (C_Switch := C_Switch)
 have C_refuse_no_top := ok_refuse_no_top (P := l.prog) (w := w) (base := base) T D_refuse_no_top
 have C_refuse_no_place := ok_refuse_no_place (P := l.prog) (w := w) (base := base) T D_refuse_no_place
 have C_Box___init__ := ok_Box___init__ (P := l.prog) (w := w) (base := base) T Y D_Box___init__ (C_refuse_no_top := C_refuse_no_top) (C_switch_within := C_switch_within)
 have C_Box := CalleeM.made (x := "Box") C_Box___init__ Y.mk_Box Y.kc_Box Y.m_Box
 have C_Box_lit := ok_Box_lit (P := l.prog) (w := w) (base := base) T Y D_Box_lit (C_Switch_on := C_Switch_on)
 have C_Box_answer := ok_Box_answer (P := l.prog) (w := w) (base := base) T Y D_Box_answer (C_Box_lit := C_Box_lit)
 have C_Box_turn := ok_Box_turn (P := l.prog) (w := w) (base := base) T Y D_Box_turn (C_refuse_no_place := C_refuse_no_place) (C_Switch_turn := C_Switch_turn) (C_Box_answer := C_Box_answer)
 have C_law_cell_at := ok_law_cell_at (P := l.prog) (w := w) (base := base) T D_law_cell_at
 have C_law_draws := ok_law_draws (P := l.prog) (w := w) (base := base) T D_law_draws
 have C_law_whole := ok_law_whole (P := l.prog) (w := w) (base := base) T D_law_whole
 have C_law_places := ok_law_places (P := l.prog) (w := w) (base := base) T D_law_places (C_law_whole := C_law_whole)
 have C_law_box := ok_law_box (P := l.prog) (w := w) (base := base) T D_law_box (C_law_draws := C_law_draws) (C_law_cell_at := C_law_cell_at)
 have C_Box_anew := ok_Box_anew (P := l.prog) (w := w) (base := base) T Y D_Box_anew (C_Box_turn := C_Box_turn)
 have C_first_return := ok_first_return (P := l.prog) (w := w) (base := base) T Y D_first_return (C_Box_anew := C_Box_anew) (C_Box_turn := C_Box_turn)
 have C_returns_of := ok_returns_of (P := l.prog) (w := w) (base := base) T Y D_returns_of (C_Box := C_Box) (C_first_return := C_first_return)
 have C_law_merged := ok_law_merged (P := l.prog) (w := w) (base := base) T D_law_merged
 have C_law_returns := ok_law_returns (P := l.prog) (w := w) (base := base) T D_law_returns
 have C_law_a_kin := ok_law_a_kin (P := l.prog) (w := w) (base := base) T Z D_law_a_kin
 have C_law_due_kin := ok_law_due_kin (P := l.prog) (w := w) (base := base) T D_law_due_kin
 have C_is_table := ok_is_table (P := l.prog) (w := w) (base := base) T D_is_table
 have C_weight_at := ok_weight_at (P := l.prog) (w := w) (base := base) T D_weight_at
 have C_weights_of := ok_weights_of (P := l.prog) (w := w) (base := base) T Z D_weights_of (C_is_table := C_is_table) (C_weight_at := C_weight_at)
 have C_law_own := ok_law_own (P := l.prog) (w := w) (base := base) T D_law_own
 have C_law_so_returns_of := ok_law_so_returns_of (P := l.prog) (w := w) (base := base) T Y D_law_so_returns_of (C_law_own := C_law_own) (C_returns_of := C_returns_of)
 have C_law_so_weights_of := ok_law_so_weights_of (P := l.prog) (w := w) (base := base) T Z D_law_so_weights_of (C_law_own := C_law_own) (C_weights_of := C_weights_of)
 have C0_law_so_weights_of := calm_law_so_weights_of C_law_so_weights_of
 have C_law_sorted_right := ok_law_sorted_right (P := l.prog) (w := w) (base := base) T D_law_sorted_right (C_law_places := C_law_places)
 have C_law_good := ok_law_good (P := l.prog) (w := w) (base := base) T D_law_good
 have C_law_a_told := ok_law_a_told (P := l.prog) (w := w) (base := base) T Z D_law_a_told (C_law_so_weights_of := C_law_so_weights_of) (C_law_a_kin := C_law_a_kin)
 have C_law_a_table := ok_law_a_table (P := l.prog) (w := w) (base := base) T D_law_a_table (C_law_draws := C_law_draws) (C_law_cell_at := C_law_cell_at)
 exact ok_law F_law T Z Y (C_law_box := C_law_box) (C_law_so_returns_of := C_law_so_returns_of) (C_law_returns := C_law_returns) (C_law_places := C_law_places) (C_law_so_weights_of := C0_law_so_weights_of) (C_law_merged := C_law_merged) (C_law_sorted_right := C_law_sorted_right) (C_law_a_table := C_law_a_table) (C_law_a_told := C_law_a_told) (C_law_good := C_law_good) (C_law_due_kin := C_law_due_kin)
theorem walk {l : PySem.W.OpenLaw} {q : Program} {loose : List Str} {XP : (Str → Option Value) → Heap → Prop} {YP : World → Heap → Prop} {d : DefRec} {K : Params → PySem.W.Frag} (hn : l.most = some 63) (hdf : d.params.defaults = [])
 (hY : ∀ (w : World) (h : Heap), YP w h → (K w.params).In h)
 (F : ∀ (w : World) (mg : Str → Option Value) (fa : Addr) (h : Heap), (K w.params).In h → h.Ns mainGlobals mg → mg d.name = some (.ref fa) →
  ∃ fd : FuncData, (∀ (s : Shared) (u : Value), BindsTo s fd ⟨[u], []⟩ [("script", u)]) ∧ ∀ base : Heap, (K w.params).In base → base.Ns mainGlobals mg → FnOk l.prog w (K w.params) mg base CX0 9 fa fd ["script"] (spLaw (K w.params))) :
 PySem.W.WalkO q loose XP YP l.row.toRowW d [] (fun f vs => PySem.call f vs) :=
 L2.walk_of (n := 63) (k := 9) (x := "script") (CX := fun _ => CX0) (sp := fun w => spLaw (K w.params)) hn (by decide) hdf ⟨rfl, by decide, by decide⟩ hY F (fun _ _ a ns hl _ hS => ⟨a, ns, rfl, hS, hl, fun _ => rfl⟩) fun _ _ _ _ _ z => z
end My
inductive PySem.W.Fast : Prop where
| tw10457953092757589261
| tw15806448017427824835
| tw813163847944202958
| tw14068170221413043627
| tw5991753589640367533
| tw4868948332424162706
| tw13335532118904038326
| tw5334776566120681856
| tw9672387259470952694
| tw15928852477366491827
| tw6061746997604085163
| tw9733207588542915099
| tw7372632199320368470
| tw7585192377789703877
| tw1713750598340076784
| tw5084155090021245114
| tw1977360886592756347
| tw18390045762715294971
| tw13605164937277808842
| tw1397898377446986153
| tw15512213701658529176
| tw16881583955458206671
| tw15617942883173165947
| tw17014449275515569931
| tw8037109320916953229
| tw10826333838507760839
| tw8644656534622637536
| tw9074623112945616569
| tw14235729040170384274
| tw2907676872536649032
| tw3477045614693743355
| tw11955356193110481862
| tw10711509738217806646
| tw4535380422387950631
| tw12273422137459384488
| tw10814600092925976613
| tw3248977660915019350
| tw3271068400093504580
| tw15443177469869384521
| tw10351420439763991800
| tw4841508171210938152
| tw3144958567568847084
| tw9330713091879377341
| tw6023135972154295431
| tw14728059563019755224
| tw12891393501185534120
| tw1825567369911278604
| tw8262819001759219938
| tw1924289120430567777
| tw5616797837343721363
| tw7423185356376858758
| tw7537283115882348292
| tw10017759466783854422
| tw3835736743154589785
| tw7143631569116714275
| tw15150854618022403350
| tw12922355601321222364
| tw16820042643527854912
| tw8400742510264783353
| tw2668406744225025770
| tw4635384632621509082
| tw12696673289470197350
| tw1649011405326532827
| tw14420481815890229846
| tw18322659343801305422
| tw13588037681289592483
| tw16033093502092160601
| tw10607355399677666765
| tw12571393084471777488
| tw15318072369896872826
| tw3228674781054566794
| tw3691820754889978403
| tw12503331940920909471
| tw13525721521157057789
| tw7873485060738032507
| tw17705149071684150171
| tw102193486826868327
| tw14110240614657492587
| tw6979261474637655867
| tw7072067439921469798
| tw7808503544469192811
| tw4710321616958501042
| tw6422643258370802736
| tw13411141352678610846
| tw16154578878138120925
| tw4718295513936474238
| tw15501492624964011334
| tw1855944460489119309
| tw16606568115407413473
| tw18236121907356300945
| tw2462983592728331409
| tw8062089520804216180
| tw3210285713491378700
| tw15158241590698305114
| tw11714938383190193654
| tw1370956118917953291
| tw12778980872897381718
| tw4664710367921222205
| tw14626966869273683739
| tw15985621756003116156
| tw10134313205135436033
| tw9456330371732983604
| tw7844329876441632780
| tw9331981934431906441
| tw18369268724355442813
| tw964369076629890923
| tw18374826639477873903
| tw14970516810265357426
| tw74678340602100130
| tw1671013899535420033
| tw1875889029344208370
| tw15190946610982734413
| tw16441036313833444045
| tw11086202451297219761
| tw10868254235979996165
| tw9759171168723153633
| tw5568550088690092963
| tw17762957033321495298
| tw7400696738184398452
| tw8476775419868516141
| tw13113033250054591620
| tw2581501033560430851
| tw12938187897354682907
| tw3098572414652620067
| tw828819078987344387
| tw5723743821660861455
| tw10481974428613526525
| tw2482143377347514738
| tw11156044897157968789
| tw97368077685475803
| tw7735188352124315485
| tw13376519730392191029
| tw16978346022225891690
| tw9308934703437417857
| tw6309281206299865525
| tw6234182502486027937
| tw4203352029156076473
| tw12477159327337810085
| tw2038544477389459012
| tw5267224577482773174
| tw1476619840924211352
| tw8601732539131075623
| tw11144801144873990848
| tw7455622221904791408
| tw2102858696942196936
| tw625292508625375448
| tw685636920460814163
| tw12814113107707920615
| tw5266831542526845237
| tw11219043783247753822
| tw14605319752121272160
| tw9056843206009257691
| tw15392675821636426858
| tw8351402191825497662
| tw6385532001975564050
| tw5094799253804772396
| tw5480878984736273902
| tw14561583479769117053
| tw15095191676078979366
| tw2422765138277483783
| tw16273285375118440008
| tw470667420698400373
| tw8220755059315670040
| tw14676149526686593736
| tw2667969565510187577
| tw3919843619520924467
| tw10561724995615369902
| tw1400097325508466033
| tw9227729957382464911
| tw13798357184431093419
| tw8978761326042814478
| tw6477583372750299612
| tw9724686765780172386
| tw16783932410540978098
| tw12298227843718963707
| tw1497216412502761041
| tw11194873771025341011
| tw6427856532052336938
| tw14584792808068379033
| tw7533467335310017886
| tw413014945771042939
| tw10745816854928266921
| tw11296053750391889660
| tw16547911137016881125
| tw6379805706338951494
| tw17375254960985655678
| tw13182215819771538290
| tw1917497410337960845
| tw16772673928928468344
| tw18445834793777311277
| tw1616003252180111714
| tw13914241554097389938
| tw9224474055725661628
| tw12310706744106240470
| tw8627600048051436776
| tw10291210856652124685
| tw12057216239638495983
| tw5117824114827953371
| tw16240129113655175146
| tw11415567453561020429
| tw14677151037616202859
| tw14403759192811501720
| tw8462195540834333938
| tw14804986420166056404
| tw16938572507067599529
| tw2685714335706870242
| tw10268689457314652788
| tw7267044449701999603
| tw5198944758510595601
| tw4634268312895837597
| tw8229086467617076885
| tw12151872339450134604
| tw5245933420154033581
| tw4113771920563159254
| tw13464714841891629922
| tw6431144722413001959
| tw9651246735204193930
| tw5996267037989386921
| tw10157237874922717828
| tw6349683677139505895
| tw11205012844505062366
| tw12753228522258499385
| tw17682324267776594484
| tw5885620977777024615
| tw3878995087864745636
| tw15508830640168799532
| tw6085701176326170220
| tw2026424765983882871
| tw1067483795996239682
| tw4268792199549603364
| tw12249624630039685329
| tw2017207626066262991
| tw6174657275599252570
| tw13002008862159554757
| tw15303145921348843508
| tw1720725908728197574
| tw13011941535872955738
| tw9527564075079213005
| tw17121688434546048372
| tw38045192848455554
| tw17066820882029334203
| tw6032724969725941192
| tw10760396831628832443
| tw15153597502777617466
| tw18404319918168504145
| tw15136716183704817229
| tw16407394174940697253
| tw1669405528868290246
| tw12092686764168351053
| tw16054273696703389541
| tw4700517772413562595
| tw11157586042069614933
| tw6620526056778574634
| tw4380835838204939319
| tw1205552060714568563
| tw629256402461247715
| tw18113481023456036118
| tw10298068758551656308
| tw10507243985972824934
| tw14969523427054376585
| tw13226840995946363842
| tw7817566198566122367
| tw613168240600914085
| tw10991990147909449486
| tw737965249216151498
| tw15975093069269279060
| tw5498107083093367927
| tw11460526028768191523
| tw12588414699247473821
| tw15196463662535530035
| tw16595407839867003976
| tw9270348635899568386
| tw8829222334651808734
| tw9746695034392614330
| tw10639569023277946649
| tw9433493149370234535
| tw11172563756272541888
| tw10716949215831377635
| tw637436075890328514
| tw10717171900481939412
| tw15951651533391259908
| tw6749416341831062646
| tw6591088345280685012
| tw10430789033869817552
| tw6516982006280110588
| tw17477916107221412918
| tw14157510871205714139
| tw90780256629564506
| tw3300906730903831560
| tw10365983242524984099
| tw3531326775069749991
| tw18175603591113325990
| tw10186412245710333928
| tw16266992615413329069
| tw7303274319490624003
| tw13168192952492613643
| tw2675084665070823691
| tw2659819480377446407
| tw5276585021377081103
| tw2781911086871670371
| tw5843440220332599443
| tw15031755664334450854
| tw7778468343535612537
| tw3107781075516381597
| tw10820042070388695424
| tw16187147253328927839
| tw16475677574519642203
| tw11043735135442958203
| tw8022038401609404425
| tw16177239878653508718
| tw3811670203835594425
| tw6681774865502509490
| tw6785700667947286740
| tw390533912470862101
| tw2548999578511361670
| tw4107092125178120994
| tw11739582605525633774
| tw9540161282076832307
| tw7973438828224965019
| tw17976136432653404080
| tw12206720618566981653
| tw18281733182898938973
| tw16788373825822462856
| tw6684222782397907403
| tw10336290639762488165
| tw14408464208412923533
| tw3027135773758683908
| tw1818164977544216922
| tw1641462531595036411
| tw17122075174146654407
| tw8732135118916424972
| tw7283271354502115303
| tw7914364193844043842
| tw9574174207897230105
| tw391473174350156001
| tw14216375238277403725
| tw5164502090593093823
| tw18205112196464275587
| tw6072028917560484764
| tw3149017082277249723
| tw5388120135741779905
| tw8683588191224111427
| tw661407974630762868
| tw4033459214732236166
| tw3683950787434218762
| tw11575523652536304102
| tw1134186429059311303
| tw7367860617090794515
| tw997033355936306070
| tw12063834324789203987
| tw1217029846784520802
| tw9549692613319272523
| tw14333061974885061701
| tw7762906172400382803
| tw1646392129583028223
| tw919871861012391675
| tw5773441076254968952
| tw16792758801119367928
| tw3221788966708281461
| tw5196942233248938364
| tw11356222073429077132
| tw5859132457041527309
| tw6557026747371032691
| tw11021486034779391017
| tw11670054984468167560
| tw1371669821729280617
| tw11965942186234502337
| tw4507205919617446576
| tw14321185670027907407
| tw18273550334861805984
| tw3969413469646615783
| tw12007174894700514440
| tw11107715766713319916
| tw10518356792252767629
| tw11219527961714524262
| tw10648971563107708890
| tw8684908411440585854
| tw1619782059270793142
| tw15976184423728030025
| tw17598205903482662391
| tw12494987092729469182
| tw280337188409200614
| tw14616359578803362842
| tw4623804909800570886
| tw18342834102778581048
| tw17487163137876986540
| tw3410265793463508642
| tw16784823802802697245
| tw8629925479367563119
| tw1048469422789916192
| tw17808426898305147039
| tw14204245376178096364
| tw2266026619288752992
| tw10734097465185068663
| tw17429958756978998371
| tw1572495986208604875
| tw15447224614624696219
| tw16321373207852452442
| tw13548385658530931168
| tw18232214153505128104
| tw15371172159680716141
| tw3131644209832377640
| tw9788777408664818371
| tw1888605481814570300
| tw16445355359690849643
| tw7794228685629811662
| tw17808951368551668338
| tw9264681468494544667
| tw3426536500492613417
| tw5320169925586080023
| tw850543232896739505
| tw13012555412723326681
| tw10643943652647248398
| tw14928583975212383095
| tw12364611435580929352
| tw8921500852303385125
| tw4583698405576798670
| tw7179000327959894424
| tw770512203507537426
| tw12143044400779848260
| tw2132741134967513817
| tw16592145985841120409
open PySem PySem.W PyProof.Rows
set_option maxRecDepth 100000 in
set_option maxHeartbeats 0 in
theorem PySem.Challenge.cw_lugtrain_k23_first_returns_and_weights_holds : PySem.Challenge.rw_lugtrain_k23_first_returns_and_weights.Holds := by
 w_on; o_law; k_head; (case hw => w_witness2)
 k_fill
 refine My.walk (l := PySem.Challenge.rw_lugtrain_k23_first_returns_and_weights) rfl rfl (fun w h Y => PySem.W.kIn_of Y) ?F
 case F =>
  intro w mg fa h KX G hmg
  refine' My.all_mk KX G hmg ?a0 ?i0 ?l0 ?c0 ?b0 ?a1 ?i1 ?l1 ?c1 ?b1 ?a2 ?i2 ?l2 ?c2 ?b2 ?a3 ?l3 ?c3 ?b3 ?a4 ?l4 ?c4 ?b4 ?a5 ?l5 ?c5 ?b5 ?a6 ?i6 ?l6 ?c6 ?b6 ?a7 ?i7 ?l7 ?c7 ?b7 ?a8 ?i8 ?l8 ?c8 ?b8 ?a9 ?i9 ?l9 ?c9 ?b9 ?a10 ?l10 ?c10 ?b10 ?a11 ?l11 ?c11 ?b11 ?a12 ?l12 ?c12 ?b12 ?a13 ?l13 ?c13 ?b13 ?a14 ?l14 ?c14 ?b14 ?a15 ?i15 ?l15 ?c15 ?b15 ?a16 ?l16 ?c16 ?b16 ?a17 ?l17 ?c17 ?b17 ?a18 ?l18 ?c18 ?b18 ?a19 ?l19 ?c19 ?b19 ?a20 ?l20 ?c20 ?b20 ?a21 ?l21 ?c21 ?b21 ?a22 ?l22 ?c22 ?b22 ?a23 ?l23 ?c23 ?b23 ?a24 ?l24 ?c24 ?b24 ?a25 ?l25 ?c25 ?b25 ?a26 ?l26 ?c26 ?b26 ?a27 ?l27 ?c27 ?b27 ?a28 ?l28 ?c28 ?b28 ?a29 ?l29 ?c29 ?b29 ?a30 ?l30 ?c30 ?b30 ?a31 ?l31 ?c31 ?b31 ?a32 ?l32 ?c32 ?b32 ?z_ValueError ?z_all ?z_bool ?z_dict ?z_enumerate ?z_int ?z_isinstance ?z_len ?z_list ?z_min ?z_range ?z_sorted ?z_str ?z_sum ?z_tuple ?g_MOST_TOP ?w_Switch ?w_Box ?pg_Switch ?hd_Switch ?po_Switch ?sa_Switch ?mk_Switch ?kc_Switch ?na_Switch_low ?na_Switch_high ?na_Switch_is_on ?pg_Box ?hd_Box ?po_Box ?sa_Box ?mk_Box ?kc_Box ?na_Box_top ?na_Box_switches ?na_Box_weights ?na_Box_at ?n_TrainError ?n_NoTrain ?n_NoStand ?n_NoPaper ?n_NoBox ?n_NoSwitch ?n_NoPlace ?n_NoTable ?n_NoText ?n_NoRow ?n_NoPiece ?n_NothingLeft ?n_TooMany ?x_NoTable ?e_NoTable ?i_NoTable_ga ?i_NoTable_gt ?i_NoTable_mb ?i_NoTable_hd ?i_NoTable_ca ?i_NoTable_sp ?i_NoTable_tk ?i_NoTable_mr ?k_NoTable_NoTrain ?k_NoTable_NoStand ?k_NoTable_NoPaper ?k_NoTable_NoBox ?k_NoTable_NoSwitch ?k_NoTable_NoPlace ?k_NoTable_NoTable ?k_NoTable_NoText ?k_NoTable_NoRow ?k_NoTable_NoPiece ?k_NoTable_NothingLeft ?k_NoTable_TooMany ?k_NoTable_ValueError
  (case w_Switch => k_is)
  (case w_Box => k_is)
  (case a0 => k_is)
  (case i0 => k_is)
  (case l0 => k_is)
  (case c0 => k_is)
  (case b0 => k_is)
  (case a1 => k_is)
  (case i1 => k_is)
  (case l1 => k_is)
  (case c1 => k_is)
  (case b1 => k_is)
  (case a2 => k_is)
  (case i2 => k_is)
  (case l2 => k_is)
  (case c2 => k_is)
  (case b2 => k_is)
  (case a3 => k_is)
  (case l3 => k_is)
  (case c3 => k_is)
  (case b3 => k_is)
  (case a4 => k_is)
  (case l4 => k_is)
  (case c4 => k_is)
  (case b4 => k_is)
  (case a5 => k_is)
  (case l5 => k_is)
  (case c5 => k_is)
  (case b5 => k_is)
  (case a6 => k_is)
  (case i6 => k_is)
  (case l6 => k_is)
  (case c6 => k_is)
  (case b6 => k_is)
  (case a7 => k_is)
  (case i7 => k_is)
  (case l7 => k_is)
  (case c7 => k_is)
  (case b7 => k_is)
  (case a8 => k_is)
  (case i8 => k_is)
  (case l8 => k_is)
  (case c8 => k_is)
  (case b8 => k_is)
  (case a9 => k_is)
  (case i9 => k_is)
  (case l9 => k_is)
  (case c9 => k_is)
  (case b9 => k_is)
  (case a10 => k_is)
  (case l10 => k_is)
  (case c10 => k_is)
  (case b10 => k_is)
  (case a11 => k_is)
  (case l11 => k_is)
  (case c11 => k_is)
  (case b11 => k_is)
  (case a12 => k_is)
  (case l12 => k_is)
  (case c12 => k_is)
  (case b12 => k_is)
  (case a13 => k_is)
  (case l13 => k_is)
  (case c13 => k_is)
  (case b13 => k_is)
  (case a14 => k_is)
  (case l14 => k_is)
  (case c14 => k_is)
  (case b14 => k_is)
  (case a15 => k_is)
  (case i15 => k_is)
  (case l15 => k_is)
  (case c15 => k_is)
  (case b15 => k_is)
  (case a16 => k_is)
  (case l16 => k_is)
  (case c16 => k_is)
  (case b16 => k_is)
  (case a17 => k_is)
  (case l17 => k_is)
  (case c17 => k_is)
  (case b17 => k_is)
  (case a18 => k_is)
  (case l18 => k_is)
  (case c18 => k_is)
  (case b18 => k_is)
  (case a19 => k_is)
  (case l19 => k_is)
  (case c19 => k_is)
  (case b19 => k_is)
  (case a20 => k_is)
  (case l20 => k_is)
  (case c20 => k_is)
  (case b20 => k_is)
  (case a21 => k_is)
  (case l21 => k_is)
  (case c21 => k_is)
  (case b21 => k_is)
  (case a22 => k_is)
  (case l22 => k_is)
  (case c22 => k_is)
  (case b22 => k_is)
  (case a23 => k_is)
  (case l23 => k_is)
  (case c23 => k_is)
  (case b23 => k_is)
  (case a24 => k_is)
  (case l24 => k_is)
  (case c24 => k_is)
  (case b24 => k_is)
  (case a25 => k_is)
  (case l25 => k_is)
  (case c25 => k_is)
  (case b25 => k_is)
  (case a26 => k_is)
  (case l26 => k_is)
  (case c26 => k_is)
  (case b26 => k_is)
  (case a27 => k_is)
  (case l27 => k_is)
  (case c27 => k_is)
  (case b27 => k_is)
  (case a28 => k_is)
  (case l28 => k_is)
  (case c28 => k_is)
  (case b28 => k_is)
  (case a29 => k_is)
  (case l29 => k_is)
  (case c29 => k_is)
  (case b29 => k_is)
  (case a30 => k_is)
  (case l30 => k_is)
  (case c30 => k_is)
  (case b30 => k_is)
  (case a31 => k_is)
  (case l31 => k_is)
  (case c31 => k_is)
  (case b31 => k_is)
  (case a32 => k_is)
  (case l32 => k_is)
  (case c32 => k_is)
  (case b32 => k_is)
  (case z_ValueError => k_is)
  (case z_all => k_is)
  (case z_bool => k_is)
  (case z_dict => k_is)
  (case z_enumerate => k_is)
  (case z_int => k_is)
  (case z_isinstance => k_is)
  (case z_len => k_is)
  (case z_list => k_is)
  (case z_min => k_is)
  (case z_range => k_is)
  (case z_sorted => k_is)
  (case z_str => k_is)
  (case z_sum => k_is)
  (case z_tuple => k_is)
  (case g_MOST_TOP => k_is)
  (case pg_Switch => k_is)
  (case hd_Switch => k_is)
  (case po_Switch => k_is)
  (case sa_Switch => k_is)
  (case mk_Switch => k_is)
  (case kc_Switch => k_is)
  (case na_Switch_low => k_is)
  (case na_Switch_high => k_is)
  (case na_Switch_is_on => k_is)
  (case pg_Box => k_is)
  (case hd_Box => k_is)
  (case po_Box => k_is)
  (case sa_Box => k_is)
  (case mk_Box => k_is)
  (case kc_Box => k_is)
  (case na_Box_top => k_is)
  (case na_Box_switches => k_is)
  (case na_Box_weights => k_is)
  (case na_Box_at => k_is)
  (case n_TrainError => k_is)
  (case n_NoTrain => k_is)
  (case n_NoStand => k_is)
  (case n_NoPaper => k_is)
  (case n_NoBox => k_is)
  (case n_NoSwitch => k_is)
  (case n_NoPlace => k_is)
  (case n_NoTable => k_is)
  (case n_NoText => k_is)
  (case n_NoRow => k_is)
  (case n_NoPiece => k_is)
  (case n_NothingLeft => k_is)
  (case n_TooMany => k_is)
  (case x_NoTable => k_exc)
  (case e_NoTable => kts_exm)
  (case i_NoTable_ga => k_is)
  (case i_NoTable_gt => k_is)
  (case i_NoTable_mb => k_is)
  (case i_NoTable_hd => k_is)
  (case i_NoTable_ca => k_is)
  (case i_NoTable_sp => k_is)
  (case i_NoTable_tk => k_is)
  (case i_NoTable_mr => k_is)
  (case k_NoTable_NoTrain => kit_is)
  (case k_NoTable_NoStand => kit_is)
  (case k_NoTable_NoPaper => kit_is)
  (case k_NoTable_NoBox => kit_is)
  (case k_NoTable_NoSwitch => kit_is)
  (case k_NoTable_NoPlace => kit_is)
  (case k_NoTable_NoTable => kit_is)
  (case k_NoTable_NoText => kit_is)
  (case k_NoTable_NoRow => kit_is)
  (case k_NoTable_NoPiece => kit_is)
  (case k_NoTable_NothingLeft => kit_is)
  (case k_NoTable_TooMany => kit_is)
  (case k_NoTable_ValueError => kit_is)
