import PyProof.Rows.All
import Wide.All
import OpenK.AllK
import Wide.FinOn
import Lean
import PyProof.EqAt
import PyProof.EqKinds
import PyProof.TupleCall
import PyProof.StationsW
import PyProof.ExcAttrAll.ValueError
import PySem.Challenge.RW_lugtrain_k32_whole_desk_rows
set_option hygiene false in
local macro_rules | `(tactic| walk_at"z0")=>`(tactic| (refine⟨p,dx,_,rfl,ep,sfl_no _ (by decide+kernel),p,ls,ts,ss,rfl,W,fun ts' t0 ss' s0 hts hss hsa hok=>?_,fun z=>by have:=kx _ (by rw [z,act_nil (by decide+kernel)]) H (Same.refl _); rwa [cls_R] at this⟩))
set_option hygiene false in
local macro_rules | `(tactic| walk_at"z1")=>`(tactic| refine⟨_,_,rfl,SqT.of hT,rfl,_,_,rfl,_,_,rfl,_,_,rfl,_,_,rfl,rfl,?_⟩)
set_option hygiene false in
local macro_rules | `(tactic| walk_at"z2")=>`(tactic| refine i_if (fun g=>?_) (fun g=>?_))
set_option hygiene false in
local macro_rules | `(tactic| walk_at"z3")=>`(tactic| intro pins s σ H Q I h)
set_option hygiene false in
local macro_rules | `(tactic| walk_at"z4")=>`(tactic| have hu:=hr.units)
set_option hygiene false in
local macro_rules | `(tactic| walk_at"z5")=>`(tactic| refine⟨_,_,rfl,⟨_,s1.seq hA⟩,⟨_,s1.seq hB⟩,lp_zip (xs:=iL ps) (ys:=iL xs) (fun i σ H2=>∃ (ah:Int) (u v:Option V) (dn:List Int),σ = [some (.ref a),some (.ref b),some (.int c),some (.ref l),some (.int ah),u,v]/\NewI H H2 l dn/\dn.length<=12/\dn.length=i/\dragAll ps xs c=dn++dragAll (ps.drop i) (xs.drop i) ah) ?_ ?_ ?_ ?_⟩)
set_option hygiene false in
local macro_rules | `(tactic| walk_at"z6")=>`(tactic| intro X hP hw hK hc i pins s σ H E I hf st hg)
set_option hygiene false in
local macro_rules | `(tactic| walk_at"z7")=>`(tactic| intro pins s σ H x y v u Q I rx ry h)
set_option hygiene false in
local macro_rules | `(tactic| walk_at"z8")=>`(tactic| refine⟨p,_,dx,_,_,rfl,ep,Y.cl_Desk,Y.jDg,sfl _,?_⟩)
set_option hygiene false in
local macro_rules | `(tactic| walk_at"z9")=>`(tactic| refine⟨_,_,rfl,SqT.of upd_same,rfl,_,_,rfl,_,_,rfl,rfl,?_⟩)
set_option hygiene false in
local macro_rules | `(tactic| walk_at"z10")=>`(tactic| simp only [List.mem_cons,List.not_mem_nil,or_false] at hc)
set_option hygiene false in
local macro_rules | `(tactic| walk_at"z11")=>`(tactic| exact absurd z (by decide+kernel))
set_option hygiene false in
local macro_rules | `(tactic| walk_at"z12")=>`(tactic| intro pins s σ H xs us Q I r h)
set_option hygiene false in
local macro_rules | `(tactic| walk_at"z13")=>`(tactic| obtain⟨t,rfl⟩:=rx)
set_option hygiene false in
local macro_rules | `(tactic| walk_at"z14")=>`(tactic| refine PySem.W.methodCall_KW (pl:=pl) (thn (he pins s σ H _ I h) fun u s1 ⟨x,H1,I1,rx,a,dx,fs,ex,ea,l,q⟩=>?_) ht)
set_option hygiene false in
local macro_rules | `(tactic| walk_at"z15")=>`(tactic| obtain⟨oc,od,kV,doc,pm,an,cdv,ct,osl,rfl,lk,hcd⟩:=F.ex)
set_option hygiene false in
local macro_rules | `(tactic| walk_at"z16")=>`(tactic| obtain⟨z,hz,rfl⟩:=Option.map_eq_some_iff.mp hx)
set_option hygiene false in
local macro_rules | `(tactic| walk_at"z17")=>`(tactic| obtain⟨f0,f1,f2,f3,f4,f5⟩:=hf it (by simp))
set_option Elab.async false
set_option linter.all false
set_option maxRecDepth 100000
namespace L2
open PySem PySem.Spec PyProof.Rows
abbrev Key:=Sum Int Str
def keyIs:Key->Value->Bool
 | .inl k,v=>Value.isInt k v
 | .inr x,v=>Value.isStrOf x v
def keyH (w:World):Key->Int
 | .inl k=>hashInt k
 | .inr x=>hashStr w x
theorem keyIs_shape:∀ {k:Key} {v:Value},keyIs k v=true->(∃ i t,k=Sum.inl i/\v=Value.int i t)\/(∃ x t,k=Sum.inr x/\v=Value.str x t)
 | .inl i,v,h=>by
   obtain⟨t,e⟩:=Value.isInt_shape (k:=i) (v:=v) h
   exact .inl ⟨i,t,rfl,e⟩
 | .inr x,v,h=>by
   obtain⟨t,e⟩:=Value.isStrOf_shape (x:=x) (v:=v) h
   exact .inr ⟨x,t,rfl,e⟩
theorem keyIs_int (i:Int) (t:Tok):keyIs (.inl i) (.int i t)=true:=by simp [keyIs,Value.isInt]
theorem keyIs_str (x:Str) (t:Tok):keyIs (.inr x) (.str x t)=true:=by simp [keyIs,Value.isStrOf]
theorem key_ll (a b:Int):decide ((Sum.inl a:Key)=Sum.inl b)=(a == b):=by
 by_cases e:a=b
 ·subst e; simp
 ·have h:¬ (Sum.inl a:Key)=Sum.inl b:=fun q=>e (Sum.inl.inj q)
  rw [decide_eq_false h]
  exact (beq_eq_false_iff_ne.mpr e).symm
theorem key_rr (a b:Str):decide ((Sum.inr a:Key)=Sum.inr b)=decide (a=b):=by
 by_cases e:a=b
 ·subst e; simp
 ·have h:¬ (Sum.inr a:Key)=Sum.inr b:=fun q=>e (Sum.inr.inj q)
  rw [decide_eq_false h,decide_eq_false e]
theorem key_lr (a:Int) (b:Str):decide ((Sum.inl a:Key)=Sum.inr b)=false:=decide_eq_false (fun q=>nomatch q)
theorem key_rl (a:Str) (b:Int):decide ((Sum.inr a:Key)=Sum.inl b)=false:=decide_eq_false (fun q=>nomatch q)
def mixKind (prog:Program) (w:World):PySem.KeyKind prog w Key where
 is:=keyIs
 hash:=keyH w
 inj:=fun v a b ha hb=>by
  rcases keyIs_shape ha with ⟨i,t,rfl,rfl⟩ | ⟨x,t,rfl,rfl⟩
  ·rcases keyIs_shape hb with ⟨j,u,rfl,e⟩ | ⟨y,u,rfl,e⟩
   ·injection e with e1 _; rw [e1]
   ·exact nomatch e
  ·rcases keyIs_shape hb with ⟨j,u,rfl,e⟩ | ⟨y,u,rfl,e⟩
   ·exact nomatch e
   ·injection e with e1 _; rw [e1]
 byValue:=fun k v h=>by
  rcases keyIs_shape h with ⟨i,t,rfl,rfl⟩ | ⟨x,t,rfl,rfl⟩ <;> rfl
 pyHash:=fun hv h=>by
  rcases keyIs_shape hv with ⟨i,t,rfl,rfl⟩ | ⟨x,t,rfl,rfl⟩
  ·exact wpAny_pyHash_int h
  ·exact wpAny_pyHash_str h
 eqBool:=fun hu hv h=>by
  rcases keyIs_shape hu with ⟨i,t,rfl,rfl⟩ | ⟨x,t,rfl,rfl⟩
  ·rcases keyIs_shape hv with ⟨j,u,rfl,rfl⟩ | ⟨y,u,rfl,rfl⟩
   ·rw [key_ll] at h; exact wpAny_eqBool_int h
   ·rw [key_lr] at h; exact SeqAt.EqAt.int_str i t y u _ _ _ _ h
  ·rcases keyIs_shape hv with ⟨j,u,rfl,rfl⟩ | ⟨y,u,rfl,rfl⟩
   ·rw [key_rl] at h; exact SeqAt.EqAt.str_int x t j u _ _ _ _ h
   ·rw [key_rr] at h; exact wpAny_eqBool_str h
 «strs»:=fun k x t v h=>by
  rcases keyIs_shape h with ⟨i,u,rfl,e⟩ | ⟨y,u,rfl,e⟩
  ·exact nomatch e
  ·injection e with e1 _
   subst e1
   cases v <;> rfl
theorem mixKind_int (prog:Program) (w:World) (i:Int) (t:Tok):(mixKind prog w).is (.inl i) (.int i t)=true:=keyIs_int i t
theorem mixKind_str (prog:Program) (w:World) (x:Str) (t:Tok):(mixKind prog w).is (.inr x) (.str x t)=true:=keyIs_str x t
end L2
namespace L2
open PySem PySem.Spec PyProof.Rows
inductive V where
 | non | bl (b:Bool) | int (i:Int) | str (x:Str) | byt (b:Array UInt8) | flt (b:UInt64) | ref (a:Addr) | ty (n:String)
 deriving DecidableEq
def RelV:V->Value->Prop
 | .non,u=>u=Value.none
 | .bl b,u=>u=Value.bool b
 | .int i,u=>∃ t,u=Value.int i t
 | .str x,u=>∃ t,u=Value.str x t
 | .byt b,u=>∃ t,u=Value.bytes b t
 | .flt b,u=>∃ t,u=Value.float b t
 | .ref a,u=>u=Value.ref a
 | .ty n,u=>u=Value.type n
abbrev Vals:List V->List Value->Prop:=Paired RelV
theorem Vals.length {xs:List V} {us:List Value} (r:Vals xs us):xs.length=us.length:=Paired.length r
theorem Vals.get:∀ {xs:List V} {us:List Value} {i:Nat} {x:V},Vals xs us->xs[i]? = some x->∃ u,us[i]? = some u/\RelV x u
 | _,_,_,_,.nil,e=>by simp at e
 | _,_,0,_,.cons r _,e=>by simp at e; subst e; exact⟨_,rfl,r⟩
 | _,_,i+1,x,.cons _ t,e=>by
   obtain⟨u,h1,h2⟩:=Vals.get (i:=i) (x:=x) t (by simpa using e)
   exact⟨u,by simpa using h1,h2⟩
theorem Vals.set {x:V} {u:Value} (r:RelV x u):∀ {xs:List V} {us:List Value} (i:Nat),Vals xs us->Vals (xs.set i x) (us.set i u)
 | _,_,_,.nil=>.nil
 | _,_,0,.cons _ t=>.cons r t
 | _,_,i+1,.cons q t=>.cons q (Vals.set r i t)
theorem Vals.append:∀ {xs ys:List V} {us ws:List Value},Vals xs us->Vals ys ws->Vals (xs++ys) (us++ws)
 | _,_,_,_,.nil,s=>s
 | _,_,_,_,.cons r t,s=>.cons r (Vals.append t s)
theorem Vals.take:∀ {xs:List V} {us:List Value} (n:Nat),Vals xs us->Vals (xs.take n) (us.take n)
 | _,_,0,_=>.nil
 | _,_,_+1,.nil=>.nil
 | _,_,n+1,.cons r t=>.cons r (Vals.take n t)
theorem Vals.drop:∀ {xs:List V} {us:List Value} (n:Nat),Vals xs us->Vals (xs.drop n) (us.drop n)
 | _,_,0,r=>r
 | _,_,_+1,.nil=>.nil
 | _,_,n+1,.cons _ t=>Vals.drop n t
def RelO:Option V->Option Value->Prop
 | some v,some u=>RelV v u
 | none,none=>True
 | _,_=>False
def KV {κ:Type}:List (κ×V)->List (κ×Value)->Prop:=Paired fun (p:κ×V) (q:κ×Value)=>p.1=q.1/\RelV p.2 q.2
def kV:Key->V
 | .inl i=>.int i
 | .inr x=>.str x
inductive HO where
 | lst (xs:List V)
 | tup (xs:List V)
 | dK (kvs:List (Key×V)) | dT (kvs:List (List Key×V))
 | set (S:Int->Bool) (n:Nat)
 | ins (C dx:Addr) (fs:List (Str×V))
 | own (x:Addr)
 | xd (fs:List (Str×V))
 | met (f x:Addr)
 | rng (lo hi:Int)
 | frz (o:Obj) (u:HO)
 | tbl (ps:Array Value)
 | ext (φ:Heap->Prop)
abbrev Hp:=Addr->Option HO
def upd (H:Hp) (a:Addr) (o:HO):Hp:=fun b=>if b=a then some o else H b
theorem upd_same {H:Hp} {a:Addr} {o:HO}:upd H a o a=some o:=by unfold upd; rw [if_pos rfl]
theorem upd_ne {H:Hp} {a b:Addr} {o:HO} (h:b≠a):upd H a o b=H b:=by unfold upd; rw [if_neg h]
theorem ne_of_none {H:Hp} {a b:Addr} {o:HO} (h:H a=some o) (h':H b=none):a≠b:=by
 intro e; subst e; rw [h] at h'; cases h'
section
variable (P:Program) (w:World)
def ObjOk (H:Hp) (h:Heap) (a:Addr):HO->Prop
 | .lst xs=>xs.length<=sizeLine/\∃ (its:List Value) (n:Nat),Vals xs its/\h.get? a=some { cls:=.type "list", data:=.seq its.toArray n }
 | .tup xs=>xs.length<=sizeLine/\∃ its:List Value,Vals xs its/\IsTup h a its.toArray
 | .dK kvs=>kvs.length<=sizeLine/\(a == sysModules)=false/\∃ vs,KV kvs vs/\h.DictOf (mixKind P w) a vs
 | .dT kvs=>kvs.length<=sizeLine/\(a == sysModules)=false/\∃ xs:List (List Key×Addr×Value),
  Paired (fun (p:List Key×V) (q:List Key×Addr×Value)=>p.1=q.1/\H q.2.1=some (.tup (p.1.map kV))/\RelV p.2 q.2.2) kvs xs /\
  ∃ o es ep,h.get? a=some o/\o.ExactDict/\o.data=.dict es ep/\es.toList=xs.map (entryOfKey (tupleKind (mixKind P w)))/\(xs.map (·.1)).Nodup
 | .set S n=>h.SetOf (intKind P w) a S n
 | .ins C dx fs=>H dx=some (.own a)/\fs.length<=1000/\dx≠a/\h.get? a=some (PySem.W.instObj C dx) /\
  ∃ mA,h.Ns1 dx mA/\(∀ f,RelO (fs.lookup f) (mA f))/\PySem.Within mA (fs.map (·.1))
 | .own _=>∃ o,h.get? a=some o
 | .xd fs=>∃ mA,h.Ns1 a mA/\∀ f,RelO (fs.lookup f) (mA f)
 | .rng lo hi=>∃ t u v,h.get? a=some { cls:=.type "range", data:=.fields #[.int lo t,.int hi u,.int 1 v] }
 | .frz o u=>h.get? a=some o/\ObjOk H h a u
 | .tbl ps=>h.get? a=some { cls:=.none,data:=.fields ps }
 | .met f x=>h.get? a=some (PySem.W.methodObj (.ref f) (.ref x))
 | .ext φ=>φ h/\(∃ o,h.get? a=some o)/\∀ h1 h2:Heap,φ h1->(∀ o,h1.get? a=some o->h2.get? a=some o)->φ h2
def HOk (H:Hp) (h:Heap):Prop:=∀ a o,H a=some o->ObjOk P w H h a o
end
section
variable {P:Program} {w:World} {H H':Hp} {h h':Heap} {a:Addr} {o:HO}
theorem ObjOk.lt (x:ObjOk P w H h a o):a<h.objs.size:=by
 cases o with
 | lst xs=>obtain⟨_,_,_,_,e⟩:=x; exact Heap.lt_size e
 | tup xs=>obtain⟨_,_,_,p⟩:=x; exact p.lt
 | dK kvs=>obtain⟨_,_,_,_,o,_,_,e,_⟩:=x; exact Heap.lt_size e
 | dT kvs=>obtain⟨_,_,_,_,o,_,_,e,_⟩:=x; exact Heap.lt_size e
 | set S n=>obtain⟨o,_,_,_,e,_⟩:=x; exact Heap.lt_size e
 | ins C dx fs=>obtain⟨_,_,_,e,_⟩:=x; exact Heap.lt_size e
 | own y=>obtain⟨_,e⟩:=x; exact Heap.lt_size e
 | xd fs=>obtain⟨_,⟨_,_,_,e,_⟩,_⟩:=x; exact Heap.lt_size e
 | rng lo hi=>obtain⟨_,_,_,e⟩:=x; exact Heap.lt_size e
 | frz ob u=>obtain⟨e,_⟩:=x; exact Heap.lt_size e
 | tbl ps=>exact Heap.lt_size (show h.get? a=some _ from x)
 | met f y=>exact Heap.lt_size (show h.get? a=some _ from x)
 | ext φ=>obtain⟨_,⟨_,e⟩,_⟩:=x; exact Heap.lt_size e
theorem Paired.mapP {α β:Type} {F G:α->β->Prop}:∀ {l₁:List α} {l₂:List β},Paired F l₁ l₂->(∀ a b,F a b->G a b)->Paired G l₁ l₂
 | _,_,.nil,_=>.nil
 | _,_,.cons r t,f=>.cons (f _ _ r) (Paired.mapP t f)
theorem ObjOk.stay (x:ObjOk P w H h a o) (k:∀ b u,(b=a\/H b=some (.own a))->h.get? b=some u->h'.get? b=some u)
 (ho:∀ b,H b=some (.own a)->H' b=some (.own a)) (ht:∀ b xs,H b=some (.tup xs)->H' b=some (.tup xs)):ObjOk P w H' h' a o:=by
 induction o with
 | lst xs=>obtain⟨z,its,n,r,e⟩:=x; exact⟨z,its,n,r,k _ _ (.inl rfl) e⟩
 | tup xs=>obtain⟨z,its,r,ob,e,c⟩:=x; exact⟨z,its,r,ob,k _ _ (.inl rfl) e,c⟩
 | dK kvs=>obtain⟨z,y,vs,r,ob,es,ep,e,c⟩:=x; exact⟨z,y,vs,r,ob,es,ep,k _ _ (.inl rfl) e,c⟩
 | dT kvs =>
   obtain⟨z,y,xs,r,ob,es,ep,e,c⟩:=x
   exact⟨z,y,xs,Paired.mapP r fun p q z=>⟨z.1,ht _ _ z.2.1,z.2.2⟩,ob,es,ep,k _ _ (.inl rfl) e,c⟩
 | set S n=>obtain⟨ob,es,ep,t,e,c⟩:=x; exact⟨ob,es,ep,t,k _ _ (.inl rfl) e,c⟩
 | ins C dx fs =>
   obtain⟨d,z,ne,e,mA,⟨od,es,ep,e2,c⟩,r⟩:=x
   exact⟨ho _ d,z,ne,k _ _ (.inl rfl) e,mA,⟨od,es,ep,k _ _ (.inr d) e2,c⟩,r⟩
 | own y=>obtain⟨ob,e⟩:=x; exact⟨ob,k _ _ (.inl rfl) e⟩
 | xd fs=>obtain⟨mA,⟨od,es,ep,e,c⟩,r⟩:=x; exact⟨mA,⟨od,es,ep,k _ _ (.inl rfl) e,c⟩,r⟩
 | rng lo hi=>obtain⟨t,u,v,e⟩:=x; exact⟨t,u,v,k _ _ (.inl rfl) e⟩
 | frz ob u ih=>obtain⟨e,q⟩:=x; exact⟨k _ _ (.inl rfl) e,ih q⟩
 | tbl ps =>
   have e:h.get? a=some { cls:=.none,data:=.fields ps }:=x
   show h'.get? a=some { cls:=.none,data:=.fields ps }
   exact k a _ (.inl rfl) e
 | met f y =>
   have e:h.get? a=some (PySem.W.methodObj (.ref f) (.ref y)):=x
   show h'.get? a=some (PySem.W.methodObj (.ref f) (.ref y))
   exact k a _ (.inl rfl) e
 | ext φ=>obtain⟨p,⟨o,e⟩,st⟩:=x; exact⟨st _ _ p fun o q=>k _ _ (.inl rfl) q,⟨o,k _ _ (.inl rfl) e⟩,st⟩
theorem HOk.lt (x:HOk P w H h) (e:H a=some o):a<h.objs.size:=(x a o e).lt
theorem HOk.fresh (x:HOk P w H h) (e:h.objs.size<=a):H a=none:=by
 cases q:H a with
 | none=>rfl
 | some u=>exact absurd (Nat.lt_of_lt_of_le (x.lt q) e) (Nat.lt_irrefl _)
theorem HOk.kept (x:HOk P w H h) (k:∀ b u,h.get? b=some u->h'.get? b=some u):HOk P w H h':=fun a o e =>
 (x a o e).stay (fun b u _ q=>k b u q) (fun _ q=>q) fun _ _ q=>q
theorem HOk.laid (x:HOk P w H h) (k:∀ b u,h.get? b=some u->h'.get? b=some u) (hp:h.objs.size<=a) (new:ObjOk P w (upd H a o) h' a o):HOk P w (upd H a o) h':=fun b u e=>by
 have hn:=x.fresh hp
 by_cases hb:b=a
 ·subst hb; rw [upd_same] at e; cases e; exact new
 ·rw [upd_ne hb] at e
  exact (x b u e).stay (fun c v _ q=>k c v q) (fun c q=>by rw [upd_ne (ne_of_none q hn)]; exact q) fun c xs q=>by rw [upd_ne (ne_of_none q hn)]; exact q
end
def Rd (H:Hp) (a:Addr) (u:HO):Prop:=H a=some u\/∃ o,H a=some (.frz o u)
theorem Rd.ok {P:Program} {w:World} {H:Hp} {h:Heap} {a:Addr} {u:HO} (r:Rd H a u) (x:HOk P w H h):ObjOk P w H h a u:=by
 rcases r with r | ⟨o,r⟩
 ·exact x a u r
 ·obtain⟨_,q⟩:=x a _ r
  exact q
def Mut:Option HO->Prop
 | some (.lst _)=>True
 | some (.dK _)=>True
 | some (.dT _)=>True
 | some (.set _ _)=>True
 | some (.ins _ _ _)=>True
 | some (.ext _)=>True
 | _=>False
section
variable {P:Program} {w:World} {H:Hp} {h h':Heap} {x e:Addr} {o':HO}
theorem HOk.write (ok:HOk P w H h) (mu:Mut (H x)) (he:e=x\/H e=some (.own x)) (k:∀ b u,b≠e->h.get? b=some u->h'.get? b=some u) (heo:∃ u,h'.get? e=some u)
 (new:ObjOk P w (upd H x o') h' x o'):HOk P w (upd H x o') h':=fun b u q=>by
 have nown:∀ c y,H c=some (.own y)->c≠x:=fun c y r z=>by subst z; rw [r] at mu; exact mu
 have ntup:∀ c xs,H c=some (.tup xs)->c≠x:=fun c xs r z=>by subst z; rw [r] at mu; exact mu
 by_cases hb:b=x
 ·subst hb; rw [upd_same] at q; cases q; exact new
 ·rw [upd_ne hb] at q
  by_cases hbe:b=e
  ·have q':H b=some (.own x):=by
    rcases he with z | z
    ·exact absurd (hbe.trans z) hb
    ·rw [hbe]; exact z
   rw [q] at q'; cases q'
   obtain⟨v,hv⟩:=heo
   exact⟨v,by rw [hbe]; exact hv⟩
  ·refine (ok b u q).stay (fun c v hc r=>k c v ?_ r) (fun c r=>by rw [upd_ne (nown c b r)]; exact r) fun c xs r=>by rw [upd_ne (ntup c xs r)]; exact r
   rcases hc with rfl | hc
   ·exact hbe
   ·rintro rfl
    rcases he with z | z
    ·exact nown c b hc z
    ·rw [hc] at z; cases z; exact hb rfl
end
structure Un (fs ex:List Addr) (H H':Hp) (h h':Heap):Prop where
 keep:∀ b o,h.get? b=some o->H b=none->b ∉ fs->b ∉ ex->h'.get? b=some o
 slot:∀ b o,h.get? b=some o->H b=none->b∈fs->b ∉ ex->∃ sl,h'.get? b=some { o with slots:=sl }
 free:∀ b o,h.get? b=some o->H b=none->b ∉ ex->H' b=none
 there:∀ b o,h.get? b=some o->b ∉ ex->∃ o',h'.get? b=some o'
 tups:∀ b xs,H b=some (.tup xs)->H' b=some (.tup xs)
 frzs:∀ b o u,H b=some (.frz o u)->H' b=some (.frz o u)
 tbls:∀ b ps,H b=some (.tbl ps)->∃ more,H' b=some (.tbl (ps++more))
section
variable {fs fs' ex ex':List Addr} {H H1 H2:Hp} {h h1 h2 h':Heap} {a x e:Addr} {o:HO}
theorem Un.any (u:Un fs ex H H1 h h1) {b:Addr} {ob:Obj} (q:h.get? b=some ob) (n:H b=none) (hx:b ∉ ex):∃ sl,h1.get? b=some { ob with slots:=sl }:=by
 by_cases hb:b∈fs
 ·exact u.slot b ob q n hb hx
 ·exact⟨ob.slots,u.keep b ob q n hb hx⟩
theorem Un.kept (k:∀ b u,h.get? b=some u->h'.get? b=some u):Un fs ex H H h h' :=
 ⟨fun b ob q _ _ _=>k b ob q,fun b ob q _ _ _=>⟨ob.slots,k b ob q⟩,fun _ _ _ n _=>n,fun b ob q _=>⟨ob,k b ob q⟩,fun _ _ q=>q,fun _ _ _ q=>q,fun _ ps q=>⟨#[],by rw [q]; simp⟩⟩
theorem Un.refl:Un fs ex H H h h:=Un.kept fun _ _ q=>q
theorem Un.laid (k:∀ b u,h.get? b=some u->h'.get? b=some u) (hp:h.objs.size<=a) (hn:H a=none):Un fs ex H (upd H a o) h h' where
 keep:=fun b u q _ _ _=>k b u q
 slot:=fun b u q _ _ _=>⟨u.slots,k b u q⟩
 free:=fun b u q n _=>by rw [upd_ne (Nat.ne_of_lt (Nat.lt_of_lt_of_le (Heap.lt_size q) hp))]; exact n
 there:=fun b u q _=>⟨u,k b u q⟩
 tups:=fun b xs q=>by rw [upd_ne (ne_of_none q hn)]; exact q
 frzs:=fun b u xs q=>by rw [upd_ne (ne_of_none q hn)]; exact q
 tbls:=fun b ps q=>⟨#[],by rw [upd_ne (ne_of_none q hn),q]; simp⟩
theorem Un.write (mu:Mut (H x)) (he:e=x\/H e=some (.own x)) (k:∀ b u,b≠e->h.get? b=some u->h'.get? b=some u) (heo:∃ u,h'.get? e=some u):Un fs ex H (upd H x o) h h':=by
 have hx:∀ b,H b=none->b≠x:=fun b n z=>by subst z; rw [n] at mu; exact mu
 have hb:∀ b,H b=none->b≠e:=fun b n z=>by
  subst z
  rcases he with r | r
  ·exact hx b n r
  ·rw [n] at r; cases r
 have hm:∀ b u,H b=some u->¬ Mut (some u)->b≠x:=fun b u q nm z=>by subst z; rw [q] at mu; exact nm mu
 refine⟨fun b u q n _ _=>k b u (hb b n) q,fun b u q n _ _=>⟨u.slots,k b u (hb b n) q⟩,fun b u q n _=>by rw [upd_ne (hx b n)]; exact n,fun b u q _=>?_,
  fun b xs q=>by rw [upd_ne (hm b _ q fun z=>z)]; exact q,fun b u xs q=>by rw [upd_ne (hm b _ q fun z=>z)]; exact q,fun b ps q=>⟨#[],by rw [upd_ne (hm b _ q fun z=>z),q]; simp⟩⟩
 by_cases hbe:b=e
 ·subst hbe; exact heo
 ·exact⟨u,k b u hbe q⟩
end
def trk (h:Heap) (H:Hp):List Addr:=(List.range h.objs.size).filter fun a=>(H a).isSome
def hidT (h:Heap) (H:Hp):Heap:=PySem.W.hideAll h (trk h H)
theorem hidT_size (h:Heap) (H:Hp):(hidT h H).objs.size=h.objs.size:=PySem.W.hideAll_size _ _
theorem hidT_get {h:Heap} {H:Hp} {b:Addr} {o:Obj} (e:h.get? b=some o) (n:H b=none):(hidT h H).get? b=some o :=
 PySem.W.hideAll_get _ e fun hm=>by
  have q:(H b).isSome=true:=(List.mem_filter.mp hm).2
  rw [n] at q; simp at q
theorem of_hidT {h:Heap} {H:Hp} {b:Addr} {o:Obj} (e:(hidT h H).get? b=some o):h.get? b=some o/\H b=none:=by
 have e':h.get? b=some o:=PySem.W.of_hideAll (trk h H) e
 refine⟨e',?_⟩
 cases q:H b with
 | none=>rfl
 | some x =>
   have hm:b∈trk h H:=List.mem_filter.mpr ⟨List.mem_range.mpr (Heap.lt_size e'),by simp [q]⟩
   have z:(hidT h H).get? b=none:=PySem.W.hideAll_none (trk h H) hm
   rw [z] at e; cases e
def allNews (g h:Heap) (L:Addr):List (Addr×Obj):=(List.range h.objs.size).filterMap fun a=>if a=L\/(g.get? a).isSome=true then none else (h.get? a).map fun o=>(a,o)
def rest (g h:Heap) (L d:Addr):List (Addr×Obj):=(allNews g h L).filter fun p=>decide (p.1≠d)
end L2
namespace L2
open PySem PySem.Spec PyProof.Rows
structure Mod (K:PySem.W.Frag) (mg:Str->Option Value) (base:Heap):Prop where
 kin:K.In base
 glob:base.Ns mainGlobals mg
 blt:∃ mb,base.Ns builtinsNs mb/\∀ x:Str,x ≠ "__name__" -> mb x=bootBuiltins x
 nolimit:base.NoLimit
structure Cx where
 prog:Program
 w:World
 K:PySem.W.Frag
 mg:Str->Option Value
 base:Heap
 A:Around
 N:List Str
 s₀:Shared
 H₀:Hp
 env:Env
 outer:List Env
 stack:List Env
 ex:List Addr
 fn:Str->Bool
 calm:Bool
 pn:List (Addr×Obj)
 xe:Value->Shared->Prop
def frs (l:List Env):List Addr:=l.filterMap (·.frame)
abbrev Cx.fs (X:Cx):List Addr:=frs X.outer
def Vis (sc:Scope) (x:Str):Prop:=sc.names.lookup x=some .local\/sc.names.lookup x=some .cell\/sc.names.lookup x=some .free
def Loc (sc:Scope) (x:Str):Prop:=sc.names.lookup x=some .local\/sc.names.lookup x=some .cell
def Look (env:Env) (h:Heap) (m:Str->Option Value) (x:Str) (u:Value):Prop :=
 (env.kindOf x=some .local/\m x=some u)\/((env.kindOf x=some .cell\/env.kindOf x=some .free)/\∃ c,env.cells.lookup x=some c/\h.IsCell c (some u))
structure Cx.Ok (X:Cx):Prop where
 mod:Mod X.K X.mg X.base
 kind:X.env.scope.kind=.function
 glob:X.env.globals=mainGlobals
 blt:X.env.builtins=builtinsNs
 above:X.s₀.heap.objs.size<=X.env.locals
 inj:∀ x y c,X.env.cells.lookup x=some c->X.env.cells.lookup y=some c->x=y
 has:∀ x,(X.env.kindOf x=some .cell\/X.env.kindOf x=some .free)->∃ c,X.env.cells.lookup x=some c
 cab:∀ x c,X.fn x=true->X.env.cells.lookup x=some c->X.s₀.heap.objs.size<=c
 hd:X.calm=true->X.A.handled=none
 frames:X.A.frames=some X.stack
 stk:X.stack=X.outer\/(X.stack=X.env :: X.outer/\X.env.frame=some X.env.locals)
 exf:∀ b∈X.ex,b≠X.env.locals/\∀ x c,X.env.cells.lookup x=some c->c≠b
 bs:∀ b o,X.base.get? b=some o->X.s₀.heap.get? b=some o/\X.H₀ b=none
 bsz:X.base.objs.size<=X.s₀.heap.objs.size
 noex:∀ b o,X.base.get? b=some o->b ∉ X.ex
 exfs:∀ b∈X.ex,b ∉ X.fs
 funs:X.s₀.heap.FunFrames X.base X.outer
 frf:∀ b∈X.fs,X.H₀ b=none
structure Inv (X:Cx) (pins:List (Addr×Obj)) (σ:List (Option V)) (H:Hp) (s:Shared):Prop where
 ok:X.Ok
 os:s.os=X.s₀.os
 bare:AllBare s.gens
 base:Un X.fs X.ex X.H₀ H X.s₀.heap s.heap
 loc:∃ m,s.heap.Ns X.env.locals m/\∀ (i:Nat) (x:Str) (v:V),X.N[i]? = some x->σ[i]? = some (some v)->Vis X.env.scope x->∃ u,RelV v u/\Look X.env s.heap m x u
 cell:∀ x c,X.env.cells.lookup x=some c->∃ v,s.heap.IsCell c v
 free:H X.env.locals=none
 freeC:∀ x c,X.env.cells.lookup x=some c->H c=none
 pin:∀ p∈X.pn++pins,s.heap.get? p.1=some p.2/\H p.1=none/\p.1≠X.env.locals/\p.1 ∉ X.fs/\∀ v,p.2.data≠.cell v
 hok:HOk X.prog X.w H s.heap
 len:σ.length=X.N.length
section
variable {X:Cx} {pins:List (Addr×Obj)} {σ:List (Option V)} {H H':Hp} {s:Shared} {h':Heap}
theorem Cx.Ok.nofr (ok:X.Ok) {b:Addr} {o:Obj} (e:X.base.get? b=some o):b ∉ X.fs:=fun hb=>by
 have:=(ok.funs.mem hb).1
 rw [e] at this; cases this
theorem Inv.bs (I:Inv X pins σ H s):∀ b o,X.base.get? b=some o->s.heap.get? b=some o/\H b=none:=fun b o e =>
 ⟨I.base.keep b o (I.ok.bs b o e).1 (I.ok.bs b o e).2 (I.ok.nofr e) (I.ok.noex b o e),I.base.free b o (I.ok.bs b o e).1 (I.ok.bs b o e).2 (I.ok.noex b o e)⟩
theorem Inv.bk (I:Inv X pins σ H s):∀ b o,X.base.get? b=some o->s.heap.get? b=some o:=fun b o e=>(I.bs b o e).1
theorem Inv.mod (I:Inv X pins σ H s):Mod X.K X.mg X.base:=I.ok.mod
theorem Inv.kIn (I:Inv X pins σ H s):X.K.In s.heap:=I.ok.mod.kin.keeps I.bk
theorem Inv.lt (I:Inv X pins σ H s):X.env.locals<s.heap.objs.size:=let ⟨_,hn,_⟩:=I.loc; hn.lt
theorem Inv.sz (I:Inv X pins σ H s):X.s₀.heap.objs.size<=s.heap.objs.size:=Nat.le_trans I.ok.above (Nat.le_of_lt I.lt)
theorem Inv.nofs (I:Inv X pins σ H s) {a:Addr} (h:s.heap.objs.size<=a):a ∉ X.fs:=fun hb=>by
 obtain⟨_,o,ho,_⟩:=I.ok.funs.mem hb
 exact absurd (Nat.lt_of_lt_of_le (Heap.lt_size ho) (Nat.le_trans I.sz h)) (Nat.lt_irrefl _)
theorem Inv.cne (I:Inv X pins σ H s):∀ x c,X.env.cells.lookup x=some c->c≠X.env.locals:=fun x c e z=>by
 obtain⟨v,o,ho,hd⟩:=I.cell x c e
 obtain⟨m,⟨o',es,ep,ho',hd',_⟩,_⟩:=I.loc
 rw [z,ho'] at ho; cases ho; rw [hd'] at hd; cases hd
theorem Inv.funs (I:Inv X pins σ H s):s.heap.FunFrames X.base X.outer:=by
 have all:∀ (l:List Env),(∀ b∈frs l,b∈X.fs)->X.s₀.heap.FunFrames X.base l->s.heap.FunFrames X.base l:=by
  intro l
  induction l with
  | nil=>intro _ _; trivial
  | cons env r ih =>
    intro hs hl
    obtain⟨hk,⟨L,o,hf,hn,ho,hd⟩,hr⟩:=hl
    have hL:L∈X.fs:=hs L (by unfold frs; rw [List.filterMap_cons,hf]; exact List.mem_cons_self)
    obtain⟨sl,e⟩:=I.base.slot L o ho (I.ok.frf L hL) hL fun z=>I.ok.exfs L z hL
    exact⟨hk,⟨L,_,hf,hn,e,hd⟩,ih (fun b hb=>hs b (by unfold frs; rw [List.filterMap_cons,hf]; exact List.mem_cons_of_mem _ hb)) hr⟩
 exact all X.outer (fun _ hb=>hb) I.ok.funs
theorem Inv.stack (I:Inv X pins σ H s):s.heap.FunFrames X.base X.stack:=by
 rcases I.ok.stk with e | ⟨e,hf⟩
 ·rw [e]; exact I.funs
 ·rw [e]
  obtain⟨m,hn,_⟩:=I.loc
  refine .cons (by rw [I.ok.kind]; decide) hf hn ?_ I.funs
  exact Heap.get?_none_of_le (Nat.le_trans I.ok.bsz I.ok.above)
theorem Inv.stkSub (I:Inv X pins σ H s):∀ b∈frs X.stack,b∈X.env.locals :: X.fs:=fun b hb=>by
 rcases I.ok.stk with e | ⟨e,hf⟩
 ·rw [e] at hb; exact List.mem_cons_of_mem _ hb
 ·rw [e] at hb
  unfold frs at hb
  rw [List.filterMap_cons,hf] at hb
  exact hb
theorem Inv.stkFree (I:Inv X pins σ H s):∀ b∈frs X.stack,H b=none:=fun b hb=>by
 rcases List.mem_cons.mp (I.stkSub b hb) with e | hb
 ·rw [e]; exact I.free
 ·obtain⟨_,o,ho,_⟩:=I.ok.funs.mem hb
  exact I.base.free b o ho (I.ok.frf b hb) fun z=>I.ok.exfs b z hb
theorem Inv.step {g':Array GenState} {t':Nat} {d':Drawn} {ch:List Addr} (I:Inv X pins σ H s)
 (hch:∀ b∈ch,(b∈X.ex\/X.s₀.heap.objs.size<=b)/\b≠X.env.locals/\(∀ x c,X.env.cells.lookup x=some c->c≠b)/\∀ p∈X.pn++pins,p.1≠b)
 (keep:∀ b o,b≠X.env.locals->b ∉ X.fs->b ∉ ch->s.heap.get? b=some o->H b=none->h'.get? b=some o)
 (slot:∀ b o,b≠X.env.locals->b∈X.fs->b ∉ ch->s.heap.get? b=some o->H b=none->∃ sl,h'.get? b=some { o with slots:=sl }) (free:∀ b o,b ∉ ch->s.heap.get? b=some o->H b=none->H' b=none)
 (there:∀ b o,b ∉ ch->s.heap.get? b=some o->∃ o',h'.get? b=some o')
 (tups:∀ b xs,H b=some (.tup xs)->H' b=some (.tup xs)) (frzs:∀ b o u,H b=some (.frz o u)->H' b=some (.frz o u)) (tbls:∀ b ps,H b=some (.tbl ps)->∃ more,H' b=some (.tbl (ps++more)))
 (ns:∀ m,s.heap.Ns X.env.locals m->h'.Ns X.env.locals m) (hok:HOk X.prog X.w H' h') (hg:AllBare g') :
 Inv X pins σ H' { s with heap:=h',gens:=g',drawn:=d',toks:=t' }:=by
 have neL:∀ b o,X.s₀.heap.get? b=some o->b≠X.env.locals:=fun b o e=>Nat.ne_of_lt (Nat.lt_of_lt_of_le (Heap.lt_size e) I.ok.above)
 have neC:∀ b o,X.s₀.heap.get? b=some o->b ∉ X.ex->b ∉ ch:=fun b o e hx hb=>by
  rcases (hch b hb).1 with z | z
  ·exact hx z
  ·exact absurd (Nat.lt_of_lt_of_le (Heap.lt_size e) z) (Nat.lt_irrefl _)
 have cellK:∀ x c,X.env.cells.lookup x=some c->∀ v,s.heap.IsCell c v->h'.IsCell c v:=fun x c e v ⟨o,ho,hd⟩=>by
  have nch:c ∉ ch:=fun z=>(hch c z).2.2.1 x c e rfl
  by_cases hc:c∈X.fs
  ·obtain⟨sl,q⟩:=slot c o (I.cne x c e) hc nch ho (I.freeC x c e)
   exact⟨_,q,hd⟩
  ·exact⟨o,keep c o (I.cne x c e) hc nch ho (I.freeC x c e),hd⟩
 refine⟨I.ok,I.os,hg,⟨fun b o e n hb hx=>?_,fun b o e n hb hx=>?_,fun b o e n hx=>?_,fun b o e hx=>?_,fun b xs e=>tups b xs (I.base.tups b xs e),fun b o xs e=>frzs b o xs (I.base.frzs b o xs e),fun b ps e=>?_⟩,?_,fun x c e=>?_,?_,fun x c e=>?_,fun p hp=>?_,hok,I.len⟩
 ·exact keep b o (neL b o e) hb (neC b o e hx) (I.base.keep b o e n hb hx) (I.base.free b o e n hx)
 ·obtain⟨sl,e1⟩:=I.base.slot b o e n hb hx
  obtain⟨sl',e2⟩:=slot b _ (neL b o e) hb (neC b o e hx) e1 (I.base.free b o e n hx)
  exact⟨sl',e2⟩
 ·obtain⟨o',e1⟩:=I.base.there b o e hx
  exact free b o' (neC b o e hx) e1 (I.base.free b o e n hx)
 ·obtain⟨o',e1⟩:=I.base.there b o e hx
  exact there b o' (neC b o e hx) e1
 ·obtain⟨m1,e1⟩:=I.base.tbls b ps e
  obtain⟨m2,e2⟩:=tbls b _ e1
  exact⟨m1++m2,by rw [e2,Array.append_assoc]⟩
 ·obtain⟨m,hn,hl⟩:=I.loc
  refine⟨m,ns m hn,fun i x v e1 e2 e3=>?_⟩
  obtain⟨u,r,l⟩:=hl i x v e1 e2 e3
  refine⟨u,r,?_⟩
  rcases l with l | ⟨k,c,e,z⟩
  ·exact .inl l
  ·exact .inr ⟨k,c,e,cellK x c e _ z⟩
 ·obtain⟨v,z⟩:=I.cell x c e
  exact⟨v,cellK x c e v z⟩
 ·obtain⟨m,⟨o,_,_,ho,_⟩,_⟩:=I.loc
  exact free _ o (fun z=>(hch _ z).2.1 rfl) ho I.free
 ·obtain⟨v,o,ho,hd⟩:=I.cell x c e
  exact free c o (fun z=>(hch c z).2.2.1 x c e rfl) ho (I.freeC x c e)
 ·obtain⟨e,n,ne,nf,d⟩:=I.pin p hp
  have nch:p.1 ∉ ch:=fun z=>(hch p.1 z).2.2.2 p hp rfl
  exact⟨keep p.1 p.2 ne nf nch e n,free p.1 p.2 nch e n,ne,nf,d⟩
theorem Inv.un {t':Nat} (I:Inv X pins σ H s) (u:Un X.fs [] H H' s.heap h') (hok:HOk X.prog X.w H' h'):Inv X pins σ H' { s with heap:=h',toks:=t' }:=by
 obtain⟨m,⟨o,es,ep,ho,r⟩,_⟩:=id I.loc
 obtain⟨sl,hL⟩:=u.any ho I.free (by simp)
 exact I.step (g':=s.gens) (d':=s.drawn) (ch:=[]) (fun _ z=>nomatch z) (fun b o _ hb _ e n=>u.keep b o e n hb (by simp)) (fun b o _ hb _ e n=>u.slot b o e n hb (by simp)) (fun b o _ e n=>u.free b o e n (by simp)) (fun b o _ e=>u.there b o e (by simp)) u.tups u.frzs u.tbls (fun m' hm=>by
  obtain⟨o',es',ep',ho',r'⟩:=hm
  rw [ho] at ho'; cases ho'
  exact⟨_,es',ep',hL,r'⟩) hok I.bare
theorem Inv.call {g':Array GenState} {t':Nat} {d':Drawn} {ch:List Addr} (I:Inv X pins σ H s) (u:Un (frs X.stack) ch H H' s.heap h') (hok:HOk X.prog X.w H' h') (hg:AllBare g')
 (hch:∀ b∈ch,(b∈X.ex\/X.s₀.heap.objs.size<=b)/\b≠X.env.locals/\(∀ x c,X.env.cells.lookup x=some c->c≠b)/\∀ p∈X.pn++pins,p.1≠b) :
 Inv X pins σ H' { s with heap:=h',gens:=g',drawn:=d',toks:=t' }:=by
 obtain⟨m,⟨o,es,ep,ho,r⟩,_⟩:=id I.loc
 obtain⟨sl,hL⟩:=u.any ho I.free fun z=>(hch _ z).2.1 rfl
 exact I.step (ch:=ch) hch (fun b o hL hb hc e n=>u.keep b o e n (fun z=>(List.mem_cons.mp (I.stkSub b z)).elim hL hb) hc) (fun b o _ _ hc e n=>u.any e n hc) (fun b o hc e n=>u.free b o e n hc) (fun b o hc e=>u.there b o e hc) u.tups u.frzs u.tbls (fun m' hm=>by
  obtain⟨o',es',ep',ho',r'⟩:=hm
  rw [ho] at ho'; cases ho'
  exact⟨_,es',ep',hL,r'⟩) hok hg
theorem Inv.turned {t':Nat} {it:Addr} (I:Inv X pins σ H s) (k:∀ b o,b≠it->s.heap.get? b=some o->h'.get? b=some o) (hn:H it=none) (hL:it≠X.env.locals)
 (h1:it∈X.ex\/X.s₀.heap.objs.size<=it) (h2:∀ x c,X.env.cells.lookup x=some c->c≠it) (h3:∀ p∈X.pn++pins,p.1≠it):Inv X pins σ H { s with heap:=h',toks:=t' }:=by
 have nit:∀ b u,H b=some u->b≠it:=fun b u e z=>by rw [z,hn] at e; cases e
 refine I.step (g':=s.gens) (d':=s.drawn) (ch:=[it]) (fun b hb=>?_) (fun b o _ _ hc e _=>k b o (fun z=>hc (by simp [z])) e) (fun b o _ _ hc e _=>⟨o.slots,k b o (fun z=>hc (by simp [z])) e⟩) (fun _ _ _ _ n=>n)
  (fun b o hc e=>⟨o,k b o (fun z=>hc (by simp [z])) e⟩) (fun _ _ e=>e) (fun _ _ _ e=>e) (fun b ps e=>⟨#[],by rw [e]; simp⟩) (fun m hm=>?_) (fun b u e=>?_) I.bare
 ·have e:b=it:=by simpa using hb
  subst e
  exact⟨h1,hL,h2,h3⟩
 ·obtain⟨o,es,ep,ho,r⟩:=hm
  exact⟨o,es,ep,k _ o (Ne.symm hL) ho,r⟩
 ·refine (I.hok b u e).stay (fun c v hc q=>k c v ?_ q) (fun _ q=>q) fun _ _ q=>q
  rcases hc with z | z
  ·rw [z]; exact nit b u e
  ·exact nit c _ z
theorem Inv.tok (I:Inv X pins σ H s) (t:Nat):Inv X pins σ H { s with toks:=t }:=I.un (h':=s.heap) (t':=t) Un.refl I.hok
theorem Inv.kept {t':Nat} (I:Inv X pins σ H s) (k:∀ b u,s.heap.get? b=some u->h'.get? b=some u):Inv X pins σ H { s with heap:=h',toks:=t' }:=I.un (Un.kept k) (I.hok.kept k)
theorem Inv.laid {a:Addr} {o:HO} {t':Nat} (I:Inv X pins σ H s) (k:∀ b u,s.heap.get? b=some u->h'.get? b=some u) (hp:s.heap.objs.size<=a) (new:ObjOk X.prog X.w (upd H a o) h' a o) :
 Inv X pins σ (upd H a o) { s with heap:=h',toks:=t' }:=I.un (Un.laid k hp (I.hok.fresh hp)) (I.hok.laid k hp new)
theorem Inv.write {x e:Addr} {o:HO} {t':Nat} (I:Inv X pins σ H s) (mu:Mut (H x)) (he:e=x\/H e=some (.own x)) (k:∀ b u,b≠e->s.heap.get? b=some u->h'.get? b=some u) (heo:∃ u,h'.get? e=some u)
 (new:ObjOk X.prog X.w (upd H x o) h' x o):Inv X pins σ (upd H x o) { s with heap:=h',toks:=t' }:=I.un (Un.write mu he k heo) (I.hok.write mu he k heo new)
theorem Inv.weak {σ':List (Option V)} (I:Inv X pins σ H s) (hl:σ'.length = σ.length) (w:∀ (i:Nat) v,σ'[i]? = some (some v)->σ[i]? = some (some v)):Inv X pins σ' H s :=
 ⟨I.ok,I.os,I.bare,I.base,let ⟨m,hn,hl'⟩:=I.loc; ⟨m,hn,fun i x v e1 e2 e3=>hl' i x v e1 (w i v e2) e3⟩,I.cell,I.free,I.freeC,I.pin,I.hok,hl.trans I.len⟩
theorem Inv.pins_of {pins':List (Addr×Obj)} (I:Inv X pins σ H s) (h:∀ p∈pins',s.heap.get? p.1=some p.2/\H p.1=none/\p.1≠X.env.locals/\p.1 ∉ X.fs/\∀ v,p.2.data≠.cell v):Inv X pins' σ H s :=
 ⟨I.ok,I.os,I.bare,I.base,I.loc,I.cell,I.free,I.freeC,fun p hp=>(List.mem_append.mp hp).elim (fun z=>I.pin p (List.mem_append_left _ z)) (h p),I.hok,I.len⟩
theorem nodup_ix {N:List Str} (hN:N.Nodup) {i j:Nat} {x:Str} (a:N[i]? = some x) (b:N[j]? = some x):i=j:=by
 obtain⟨h1,e1⟩:=List.getElem?_eq_some_iff.mp a
 obtain⟨h2,e2⟩:=List.getElem?_eq_some_iff.mp b
 exact (List.getElem_inj hN).mp (e1.trans e2.symm)
theorem store_ok2 {M:Model} {A:Around} {E:Value->Shared->Prop} {i:Nat} {x:Str} {v:V} {u:Value} {Q:Unit->Shared->Prop} (I:Inv X pins σ H s) (hN:X.N.Nodup) (hi:X.N[i]? = some x) (hx:Loc X.env.scope x) (r:RelV v u)
 (h:∀ s',Inv X pins (σ.set i (some v)) H s'->(∃ a,Heap.SameBut a s.heap s'.heap/\(a=X.env.locals\/X.env.cells.lookup x=some a))->Q () s') (hf:X.fn x=true\/X.env.scope.names.lookup x=some .local:=by first | exact .inl rfl | exact .inr rfl | assumption):wpAny M A (storeName X.env x u) Q E s:=by
 obtain⟨m,hn,hl⟩:=id I.loc
 have hcls:(X.env.scope.kind == .class || (X.env.scope.kind == .module && X.env.locals != X.env.globals))=false:=by rw [I.ok.kind]; rfl
 have hiσ:i<σ.length:=by rw [I.len]; exact (List.getElem?_eq_some_iff.mp hi).1
 have cne:=I.cne
 have tracked:∀ {a:Addr} {h':Heap},(∃ o,s.heap.get? a=some o/\H a=none)->Heap.SameBut a s.heap h'->HOk X.prog X.w H h':=fun {a h'} ha hs b ob e=>by
  obtain⟨_,_,hfree⟩:=ha
  refine (I.hok b ob e).stay (fun c w' hc q=>(hs.2 c ?_).trans q) (fun _ q=>q) fun _ _ q=>q
  rintro rfl
  rcases hc with rfl | hc
  ·rw [hfree] at e; cases e
  ·rw [hfree] at hc; cases hc
 rcases hx with hk | hk
 ·refine wpAny_storeName_local hk hn (fun h' hn' hs=>?_) hcls
  obtain⟨oL,_,_,hoL,_⟩:=id hn
  refine h _ ⟨I.ok,I.os,I.bare,⟨fun b o e n hb hx=>?_,fun b o e n hb hx=>?_,I.base.free,fun b o e hx=>?_,I.base.tups,I.base.frzs,I.base.tbls⟩,⟨_,hn',fun j y v' e1 e2 e3=>?_⟩,fun y c e=>?_,I.free,I.freeC,fun p hp=>?_,tracked ⟨oL,hoL,I.free⟩ hs,by simpa using I.len⟩ ⟨_,hs,.inl rfl⟩
  ·exact (hs.2 b (Nat.ne_of_lt (Nat.lt_of_lt_of_le (Heap.lt_size e) I.ok.above))).trans (I.base.keep b o e n hb hx)
  ·obtain⟨sl,e1⟩:=I.base.slot b o e n hb hx
   exact⟨sl,(hs.2 b (Nat.ne_of_lt (Nat.lt_of_lt_of_le (Heap.lt_size e) I.ok.above))).trans e1⟩
  ·obtain⟨o',e1⟩:=I.base.there b o e hx
   exact⟨o',(hs.2 b (Nat.ne_of_lt (Nat.lt_of_lt_of_le (Heap.lt_size e) I.ok.above))).trans e1⟩
  ·by_cases hj:j=i
   ·subst hj
    rw [hi] at e1; cases e1
    rw [List.getElem?_set_self hiσ] at e2
    cases e2
    exact⟨u,r,.inl ⟨hk,by simp⟩⟩
   ·rw [List.getElem?_set_ne (Ne.symm hj)] at e2
    obtain⟨u',r',q⟩:=hl j y v' e1 e2 e3
    refine⟨u',r',?_⟩
    rcases q with ⟨k,e⟩ | ⟨k,c,e,z⟩
    ·refine .inl ⟨k,?_⟩
     have:y≠x:=fun e=>hj (nodup_ix hN e1 (e ▸ hi))
     simp [this,e]
    ·exact .inr ⟨k,c,e,z.sameBut hs (cne y c e)⟩
  ·obtain⟨w',z⟩:=I.cell y c e
   exact⟨w',z.sameBut hs (cne y c e)⟩
  ·obtain⟨e,n,ne,nf,d⟩:=I.pin p hp
   exact⟨(hs.2 p.1 ne).trans e,n,ne,nf,d⟩
 ·have hfn:X.fn x=true:=by
   rcases hf with z | z
   ·exact z
   ·rw [z] at hk; cases hk
  obtain⟨c,hc⟩:=I.ok.has x (.inl hk)
  obtain⟨w',z⟩:=I.cell x c hc
  refine wpAny_storeName_cell I.ok.kind hk hc z (fun h' hc' hs=>?_)
  obtain⟨oc,hoc,hocd⟩:=id z
  refine h { s with heap:=h' } ⟨I.ok,I.os,I.bare,⟨fun b o e n hb hx=>?_,fun b o e n hb hx=>?_,I.base.free,fun b o e hx=>?_,I.base.tups,I.base.frzs,I.base.tbls⟩,⟨m,hn.sameBut hs (Ne.symm (cne x c hc)),fun j y v' e1 e2 e3=>?_⟩,fun y c' e=>?_,I.free,I.freeC,fun p hp=>?_,tracked ⟨oc,hoc,I.freeC x c hc⟩ hs,by simpa using I.len⟩ ⟨c,hs,.inr hc⟩
  ·exact (hs.2 b (Nat.ne_of_lt (Nat.lt_of_lt_of_le (Heap.lt_size e) (I.ok.cab x c hfn hc)))).trans (I.base.keep b o e n hb hx)
  ·obtain⟨sl,e1⟩:=I.base.slot b o e n hb hx
   exact⟨sl,(hs.2 b (Nat.ne_of_lt (Nat.lt_of_lt_of_le (Heap.lt_size e) (I.ok.cab x c hfn hc)))).trans e1⟩
  ·obtain⟨o',e1⟩:=I.base.there b o e hx
   exact⟨o',(hs.2 b (Nat.ne_of_lt (Nat.lt_of_lt_of_le (Heap.lt_size e) (I.ok.cab x c hfn hc)))).trans e1⟩
  ·by_cases hj:j=i
   ·subst hj
    rw [hi] at e1; cases e1
    rw [List.getElem?_set_self hiσ] at e2
    cases e2
    exact⟨u,r,.inr ⟨.inl hk,c,hc,hc'⟩⟩
   ·rw [List.getElem?_set_ne (Ne.symm hj)] at e2
    obtain⟨u',r',q⟩:=hl j y v' e1 e2 e3
    refine⟨u',r',?_⟩
    rcases q with q | ⟨k,c',e,z'⟩
    ·exact .inl q
    ·refine .inr ⟨k,c',e,z'.sameBut hs ?_⟩
     rintro rfl
     exact hj (nodup_ix hN e1 (I.ok.inj _ _ _ e hc ▸ hi))
  ·by_cases hcc:c'=c
   ·subst hcc; exact⟨_,hc'⟩
   ·obtain⟨w2,z2⟩:=I.cell y c' e
    exact⟨w2,z2.sameBut hs hcc⟩
  ·obtain⟨e,n,ne,nf,d⟩:=I.pin p hp
   refine⟨(hs.2 p.1 ?_).trans e,n,ne,nf,d⟩
   intro q
   rw [q,hoc] at e
   have q':oc=p.2:=Option.some.inj e
   exact d w' (by rw [<- q']; exact hocd)
theorem store_ok {M:Model} {A:Around} {E:Value->Shared->Prop} {i:Nat} {x:Str} {v:V} {u:Value} {Q:Unit->Shared->Prop} (I:Inv X pins σ H s) (hN:X.N.Nodup) (hi:X.N[i]? = some x) (hx:Loc X.env.scope x) (r:RelV v u)
 (h:∀ s',Inv X pins (σ.set i (some v)) H s'->Q () s') (hf:X.fn x=true\/X.env.scope.names.lookup x=some .local:=by first | exact .inl rfl | exact .inr rfl | assumption):wpAny M A (storeName X.env x u) Q E s :=
 store_ok2 I hN hi hx r (fun s' I' _=>h s' I') hf
theorem Inv.call' {s':Shared} {ch:List Addr} (I:Inv X pins σ H s) (ho:s'.os=s.os) (u:Un (frs X.stack) ch H H' s.heap s'.heap) (hok:HOk X.prog X.w H' s'.heap) (hg:AllBare s'.gens)
 (hch:∀ b∈ch,(b∈X.ex\/X.s₀.heap.objs.size<=b)/\b≠X.env.locals/\(∀ x c,X.env.cells.lookup x=some c->c≠b)/\∀ p∈X.pn++pins,p.1≠b):Inv X pins σ H' s':=by
 obtain⟨h',g',d',t',o'⟩:=s'
 have e:o'=s.os:=ho
 subst e
 exact I.call (g':=g') (t':=t') (d':=d') u hok hg hch
end
abbrev XK:=Value->Option Addr->Hp->Prop
abbrev St:=List (Option V)
abbrev VK:=V->Hp->Prop
abbrev TE:=St->Hp->VK->Prop
abbrev TT:=St->Hp->(Bool->Hp->Prop)->Prop
abbrev TA:=St->Hp->(List V->Hp->Prop)->Prop
structure Ends where
 nx:St->Hp->Prop
 rt:VK
 bk:St->Hp->Prop:=fun _ _=>False
 ct:St->Hp->Prop:=fun _ _=>False
abbrev TS:=Ends->St->Hp->Prop
def EP (X:Cx) (pins:List (Addr×Obj)) (σ:St) (Q:VK) (u:Value) (s':Shared):Prop:=∃ v H',Inv X pins σ H' s'/\RelV v u/\Q v H'
def TP (X:Cx) (pins:List (Addr×Obj)) (σ:St) (Q:Bool->Hp->Prop) (b:Bool) (s':Shared):Prop:=∃ H',Inv X pins σ H' s'/\Q b H'
def AP (X:Cx) (pins:List (Addr×Obj)) (σ:St) (Q:List V->Hp->Prop) (us:List Value) (s':Shared):Prop:=∃ vs H',Inv X pins σ H' s'/\Vals vs us/\Q vs H'
def SP (X:Cx) (pins:List (Addr×Obj)) (D:Ends) (f:Flow) (s':Shared):Prop :=
 match f with
 | .next=>∃ σ' H',Inv X pins σ' H' s'/\D.nx σ' H'
 | .brk=>∃ σ' H',Inv X pins σ' H' s'/\D.bk σ' H'
 | .cont=>∃ σ' H',Inv X pins σ' H' s'/\D.ct σ' H'
 | .ret u=>∃ v σ' H',Inv X pins σ' H' s'/\RelV v u/\D.rt v H'
def PE (X:Cx) (e:Expr) (t:TE):Prop :=
 ∀ (pins:List (Addr×Obj)) (s:Shared) (σ:St) (H:Hp) (Q:VK),Inv X pins σ H s->t σ H Q->wpAny (model X.prog X.w) X.A (eval e X.env) (EP X pins σ Q) X.xe s
def PT (X:Cx) (e:Expr) (t:TT):Prop :=
 ∀ (pins:List (Addr×Obj)) (s:Shared) (σ:St) (H:Hp) (Q:Bool->Hp->Prop),Inv X pins σ H s->t σ H Q->wpAny (model X.prog X.w) X.A (isTrue e X.env (eval e X.env)) (TP X pins σ Q) X.xe s
def PW (X:Cx) (e:Expr) (t:TT):Prop :=
 ∀ (whole:Sem Value) (pins:List (Addr×Obj)) (s:Shared) (σ:St) (H:Hp) (Q:Bool->Hp->Prop),Inv X pins σ H s->t σ H Q->wpAny (model X.prog X.w) X.A (isTrue e X.env whole) (TP X pins σ Q) X.xe s
theorem PW.pt {X:Cx} {e:Expr} {t:TT} (h:PW X e t):PT X e t:=h _
def PA (X:Cx) (es:List Expr) (t:TA):Prop :=
 ∀ (pos:Pos) (pins:List (Addr×Obj)) (s:Shared) (σ:St) (H:Hp) (Q:List V->Hp->Prop),Inv X pins σ H s->t σ H Q->wpAny (model X.prog X.w) X.A (spliced (backTo pos (starEach es X.env))) (AP X pins σ Q) X.xe s
def PS (X:Cx) (st:Stmt) (t:TS):Prop :=
 ∀ (pins:List (Addr×Obj)) (s:Shared) (σ:St) (H:Hp) (D:Ends),Inv X pins σ H s->t D σ H->wpAny (model X.prog X.w) X.A (exec st X.env) (SP X pins D) X.xe s
def PSs (X:Cx) (st:List Stmt) (t:TS):Prop :=
 ∀ (pins:List (Addr×Obj)) (s:Shared) (σ:St) (H:Hp) (D:Ends),Inv X pins σ H s->t D σ H->wpAny (model X.prog X.w) X.A (execs st X.env) (SP X pins D) X.xe s
theorem thn {α:Type} {t:Sem α} {Q Q':α->Shared->Prop} {M:Model} {A:Around} {E:Value->Shared->Prop} {s:Shared} (h:wpAny M A t Q E s) (hQ:∀ a s,Q a s->Q' a s):wpAny M A t Q' E s:=wpAny_mono h hQ fun _ _ x=>x
end L2
namespace L2
open PySem PySem.Spec PyProof.Rows
section
variable {X:Cx}
def tVar (i:Nat):TE:=fun σ H Q=>∃ v,σ[i]? = some (some v)/\Q v H
def tC (v:V):TE:=fun _ H Q=>Q v H
theorem pe_var {i:Nat} {x:Str} {pos:Pos} (hN:X.N[i]? = some x) (hv:Vis X.env.scope x) (hd:(x == ("__debug__" : Str))=false:=by decide) (hcd:(x == ("__classdict__" : Str))=false:=by decide):PE X (.Name x pos) (tVar i):=by
 walk_at"z3"
 obtain⟨v,e,h⟩:=h
 obtain⟨m,hn,hl⟩:=I.loc
 obtain⟨u,r,l⟩:=hl i x v hN e hv
 have fin:EP X pins σ Q u s:=⟨v,H,I,r,h⟩
 rcases l with ⟨hk,hm⟩ | ⟨hk,c,hc,hcell⟩
 ·exact wpAny_Name (wpAny_loadName_local I.ok.kind hk hn hm fin) hd
 ·rcases hk with hk | hk
  ·exact wpAny_Name (wpAny_loadName_cell I.ok.kind hk hc hcell fin) hd
  ·exact wpAny_Name (wpAny_loadName_free I.ok.kind hk hc hcell fin hcd) hd
theorem pe_int {i j pos}:PE X (.Constant (.int i) j pos) (tC (.int i)):=fun _ _ _ H _ I h=>wpAny_Constant_int ⟨.int i,H,I.tok _,⟨_,rfl⟩,h⟩
theorem pe_bl {b j pos}:PE X (.Constant (.bool b) j pos) (tC (.bl b)):=fun _ _ _ H _ I h=>Constant_bool ⟨.bl b,H,I,rfl,h⟩
theorem pe_non {j pos}:PE X (.Constant .none j pos) (tC .non):=fun _ _ _ H _ I h=>Constant_none ⟨.non,H,I,rfl,h⟩
theorem pe_str {x j pos}:PE X (.Constant (.str x) j pos) (tC (.str x)):=fun _ _ _ H _ I h=>Calls.Constant_str ⟨.str x,H,I.tok _,⟨_,rfl⟩,h⟩
def Gl (X:Cx) (x:Str):Prop:=X.env.kindOf x=some .globalImplicit
theorem ld_glob {E:Value->Shared->Prop} {pins:List (Addr×Obj)} {s:Shared} {σ:St} {H:Hp} {x:Str} {u:Value} {pos:Pos} {Q:Value->Shared->Prop} (I:Inv X pins σ H s) (hg:Gl X x) (hm:X.mg x=some u) (h:Q u s)
 (hd:(x == ("__debug__" : Str))=false:=by decide):wpAny (model X.prog X.w) X.A (eval (.Name x pos) X.env) Q E s :=
 Calls.Name_function_global I.ok.kind hg (Calls.loadGlobal_global (by rw [I.ok.glob]; exact I.mod.glob.keeps I.bk) hm h) hd
theorem ld_blt {E:Value->Shared->Prop} {pins:List (Addr×Obj)} {s:Shared} {σ:St} {H:Hp} {x:Str} {u:Value} {pos:Pos} {Q:Value->Shared->Prop} (I:Inv X pins σ H s) (hg:Gl X x) (hm:X.mg x=none) (hv:bootBuiltins x=some u) (h:Q u s)
 (hn:x ≠ "__name__" := by decide) (hd:(x == ("__debug__" : Str))=false:=by decide):wpAny (model X.prog X.w) X.A (eval (.Name x pos) X.env) Q E s:=by
 obtain⟨mb,h1,h2⟩:=I.mod.blt
 exact Calls.Name_function_global I.ok.kind hg (Calls.loadGlobal_builtin (by rw [I.ok.glob]; exact I.mod.glob.keeps I.bk) hm (by rw [I.ok.blt]; exact h1.keeps I.bk) ((h2 x hn).trans hv) h) hd
theorem pe_glob {x:Str} {v:V} {u:Value} {pos:Pos} (hg:Gl X x) (hm:X.mg x=some u) (r:RelV v u) (hd:(x == ("__debug__" : Str))=false:=by decide):PE X (.Name x pos) (tC v) :=
 fun _ _ _ H _ I h=>ld_glob I hg hm ⟨v,H,I,r,h⟩ hd
theorem pe_bltn {x:Str} {v:V} {u:Value} {pos:Pos} (hg:Gl X x) (hm:X.mg x=none) (hv:bootBuiltins x=some u) (r:RelV v u) (hn:x ≠ "__name__" := by decide) (hd:(x == ("__debug__" : Str))=false:=by decide):PE X (.Name x pos) (tC v) :=
 fun _ _ _ H _ I h=>ld_blt I hg hm hv ⟨v,H,I,r,h⟩ hn hd
variable {a b:Expr} {ta tb:TE} {pos:Pos}
def PC (X:Cx) (op:CmpOp) (a b:Expr) (t:TE):Prop :=
 ∀ (pins:List (Addr×Obj)) (s:Shared) (σ:St) (H:Hp) (Q:VK),Inv X pins σ H s->t σ H Q ->
  wpAny (model X.prog X.w) X.A (eval a X.env) (fun v s₁=>wpAny (model X.prog X.w) X.A (eval b X.env) (fun u s₂=>wpAny (model X.prog X.w) X.A (compareOp op v u) (EP X pins σ Q) X.xe s₂) X.xe s₁) X.xe s
def tB (t:TE):TT:=fun σ H Q=>t σ H fun x H1=>∃ c,x=.bl c/\Q c H1
theorem pt_cmp {op:CmpOp} {t:TE} (h:PC X op a b t) (h1:behindInMarks op b=false:=by first | exact nobehind _ (by decide) (by decide) | rfl):PT X (.Compare a [op] [b] pos) (tB t):=by
 intro pins s σ H Q I hw
 refine wpAny_isTrue_Compare1 (thn (h pins s σ H _ I hw) fun v s1 h1=>thn h1 fun u s2 h2=>thn h2 fun c s3 ⟨x,H1,I1,r1,q1⟩=>?_) h1
 obtain⟨d,rfl,q⟩:=q1
 cases r1
 exact wpAny_truthy_bool ⟨H1,I1,q⟩
variable {tA tB':TT} {rest:List Expr}
def tAnd (t u:TT):TT:=fun σ H Q=>t σ H fun c H1=>if c=true then u σ H1 Q else Q false H1
def tOr (t u:TT):TT:=fun σ H Q=>t σ H fun c H1=>if c=true then Q true H1 else u σ H1 Q
def tNot (t:TT):TT:=fun σ H Q=>t σ H fun c H1=>Q (!c) H1
theorem pw_and1 (ha:PT X a tA):PW X (.BoolOp .And [a] pos) tA:=by
 intro wh pins s σ H Q I h
 refine isTrue_and (thn (ha pins s σ H Q I h) fun c s1 e=>?_)
 cases c with
 | true=>exact isTrue_and_nil e
 | false=>exact e
theorem pw_or1 (ha:PT X a tA):PW X (.BoolOp .Or [a] pos) tA:=by
 intro wh pins s σ H Q I h
 refine isTrue_or (thn (ha pins s σ H Q I h) fun c s1 e=>?_)
 cases c with
 | false=>exact isTrue_or_nil e
 | true=>exact e
theorem pw_and (ha:PT X a tA) (hb:PW X (.BoolOp .And (b :: rest) pos) tB'):PW X (.BoolOp .And (a :: b :: rest) pos) (tAnd tA tB'):=by
 intro wh pins s σ H Q I h
 refine isTrue_and (thn (ha pins s σ H _ I h) fun c s1 ⟨H1,I1,q1⟩=>?_)
 cases c with
 | true=>exact hb wh pins s1 σ H1 Q I1 q1
 | false=>exact⟨H1,I1,q1⟩
theorem pw_or (ha:PT X a tA) (hb:PW X (.BoolOp .Or (b :: rest) pos) tB'):PW X (.BoolOp .Or (a :: b :: rest) pos) (tOr tA tB'):=by
 intro wh pins s σ H Q I h
 refine isTrue_or (thn (ha pins s σ H _ I h) fun c s1 ⟨H1,I1,q1⟩=>?_)
 cases c with
 | true=>exact⟨H1,I1,q1⟩
 | false=>exact hb wh pins s1 σ H1 Q I1 q1
theorem pt_not (ha:PT X a tA):PT X (.UnaryOp .Not a pos) (tNot tA):=by
 walk_at"z3"
 exact isTrue_not (ha pins s σ H (fun c H1=>Q (!c) H1) I h)
def tAndV (ta tb:TE):TE:=fun σ H Q=>ta σ H fun x H1=>∃ c,x=.bl c/\if c=true then tb σ H1 Q else Q (.bl false) H1
def tOrV (ta tb:TE):TE:=fun σ H Q=>ta σ H fun x H1=>∃ c,x=.bl c/\if c=true then Q (.bl true) H1 else tb σ H1 Q
def tNotV (ta:TE):TE:=fun σ H Q=>ta σ H fun x H1=>∃ c,x=.bl c/\Q (.bl (!c)) H1
theorem pe_one {op} {t:TE} (h:PE X a t):PE X (.BoolOp op [a] pos) t:=fun pins s σ H Q I hw=>BoolOp_one (h pins s σ H Q I hw)
theorem pe_and (ha:PE X a ta) (hb:PE X (.BoolOp .And (b :: rest) pos) tb):PE X (.BoolOp .And (a :: b :: rest) pos) (tAndV ta tb):=by
 walk_at"z3"
 refine BoolOp_and (thn (ha pins s σ H _ I h) fun v s1 ⟨x,H1,I1,r1,q1⟩=>?_)
 obtain⟨c,rfl,q1⟩:=q1
 cases r1
 refine wpAny_truthy_bool ?_
 cases c with
 | true=>exact hb pins s1 σ H1 Q I1 q1
 | false=>exact⟨.bl false,H1,I1,rfl,q1⟩
theorem pe_or (ha:PE X a ta) (hb:PE X (.BoolOp .Or (b :: rest) pos) tb):PE X (.BoolOp .Or (a :: b :: rest) pos) (tOrV ta tb):=by
 walk_at"z3"
 refine BoolOp_or (thn (ha pins s σ H _ I h) fun v s1 ⟨x,H1,I1,r1,q1⟩=>?_)
 obtain⟨c,rfl,q1⟩:=q1
 cases r1
 refine wpAny_truthy_bool ?_
 cases c with
 | false=>exact hb pins s1 σ H1 Q I1 q1
 | true=>exact⟨.bl true,H1,I1,rfl,q1⟩
def tIf (t:TT) (ta tb:TE):TE:=fun σ H Q=>t σ H fun c H1=>if c=true then ta σ H1 Q else tb σ H1 Q
theorem pe_ifExp {c:Expr} (hc:PT X c tA) (ha:PE X a ta) (hb:PE X b tb):PE X (.IfExp c a b pos) (tIf tA ta tb):=by
 walk_at"z3"
 refine wpAny_IfExp (thn (hc pins s σ H _ I h) fun d s1 ⟨H1,I1,q1⟩=>?_)
 cases d with
 | true=>exact ha pins s1 σ H1 Q I1 q1
 | false=>exact hb pins s1 σ H1 Q I1 q1
end
end L2
namespace L2
open PySem PySem.Spec PyProof.Rows
def SqL (K:PySem.W.Frag) (H:Hp) (a:Addr) (xs:List V):Prop :=
 Rd H a (.lst xs) \/
  ∃ (o:Obj) (its:Array Value) (n:Nat),K.lookup a=some o/\o.cls=.type "list" /\ o.dict=none/\o.data=.seq its n/\its.size<=sizeLine/\Vals xs its.toList
def SqT (K:PySem.W.Frag) (H:Hp) (a:Addr) (xs:List V):Prop :=
 Rd H a (.tup xs) \/
  ∃ (o:Obj) (its:Array Value) (n:Nat),K.lookup a=some o/\o.cls=.type "tuple" /\ o.data=.seq its n/\its.size<=sizeLine/\Vals xs its.toList
def absV:Value->Option V
 | .none=>some .non
 | .bool b=>some (.bl b)
 | .int i _=>some (.int i)
 | .str x _=>some (.str x)
 | .bytes b _=>some (.byt b)
 | .float b _=>some (.flt b)
 | .ref a=>some (.ref a)
 | .type n=>some (.ty n)
 | _=>none
theorem RelV.abs {x:V} {u:Value} (r:RelV x u):absV u=some x:=by
 cases x with
 | non=>cases r; rfl
 | bl _=>cases r; rfl
 | int _=>obtain⟨t,rfl⟩:=r; rfl
 | str _=>obtain⟨t,rfl⟩:=r; rfl
 | byt _=>obtain⟨t,rfl⟩:=r; rfl
 | flt _=>obtain⟨t,rfl⟩:=r; rfl
 | ref _=>cases r; rfl
 | ty _=>cases r; rfl
theorem RelV.inj {x y:V} {u:Value} (r:RelV x u) (q:RelV y u):x=y:=Option.some.inj (r.abs.symm.trans q.abs)
theorem Vals.inj:∀ {xs ys:List V} {us:List Value},Vals xs us->Vals ys us->xs=ys
 | _,_,_,.nil,.nil=>rfl
 | _,_,_,.cons r t,.cons r' t'=>by rw [r.inj r',Vals.inj t t']
section
variable {X:Cx} {pins:List (Addr×Obj)} {σ:St} {H:Hp} {s:Shared} {a:Addr} {xs ys:List V}
theorem SqL.of {K:PySem.W.Frag} (h:H a=some (.lst xs)):SqL K H a xs:=.inl (.inl h)
theorem SqT.of {K:PySem.W.Frag} (h:H a=some (.tup xs)):SqT K H a xs:=.inl (.inl h)
theorem Inv.list (I:Inv X pins σ H s) (h:SqL X.K H a xs):∃ its:List Value,Vals xs its/\PlainL s.heap a its.toArray/\xs.length<=sizeLine:=by
 rcases h with h | ⟨o,its,n,hk,hc,hd,hs,hz,r⟩
 ·obtain⟨z,its,n,r,e⟩:=h.ok I.hok
  exact⟨its,r,⟨_,n,e,rfl,rfl,rfl⟩,z⟩
 ·refine⟨its.toList,r,⟨o,n,I.kIn a o hk,hc,hd,by simpa using hs⟩,?_⟩
  have e:=r.length
  simp only [Array.length_toList] at e
  lia
theorem Inv.tuple (I:Inv X pins σ H s) (h:SqT X.K H a xs):∃ its:List Value,Vals xs its/\IsTup s.heap a its.toArray/\xs.length<=sizeLine:=by
 rcases h with h | ⟨o,its,n,hk,hc,hs,hz,r⟩
 ·obtain⟨z,its,r,p⟩:=h.ok I.hok
  exact⟨its,r,p,z⟩
 ·refine⟨its.toList,r,⟨o,I.kIn a o hk,hc,n,by simpa using hs⟩,?_⟩
  have e:=r.length
  simp only [Array.length_toList] at e
  lia
theorem Inv.list_inj (I:Inv X pins σ H s) (h:SqL X.K H a xs) (h':SqL X.K H a ys):xs=ys:=by
 obtain⟨its,r,⟨o,n,e,_,_,d⟩,_⟩:=I.list h
 obtain⟨its',r',⟨o',n',e',_,_,d'⟩,_⟩:=I.list h'
 rw [e] at e'; cases e'
 rw [d] at d'
 injection d' with d1 _
 have:its=its':=by simpa using congrArg Array.toList d1
 subst this
 exact r.inj r'
end
abbrev Cx.wish (X:Cx) (E:Value->Shared->Prop):Cx:={ X with xe:=E }
abbrev Cx.nox (X:Cx):Cx:=X.wish fun _ _=>False
theorem Cx.Ok.wish {X:Cx} (ok:X.Ok) (E:Value->Shared->Prop):(X.wish E).Ok :=
 ⟨ok.mod,ok.kind,ok.glob,ok.blt,ok.above,ok.inj,ok.has,ok.cab,ok.hd,ok.frames,ok.stk,ok.exf,ok.bs,ok.bsz,ok.noex,ok.exfs,ok.funs,ok.frf⟩
theorem Cx.Ok.unwish {X:Cx} {E:Value->Shared->Prop} (ok:(X.wish E).Ok):X.Ok :=
 ⟨ok.mod,ok.kind,ok.glob,ok.blt,ok.above,ok.inj,ok.has,ok.cab,ok.hd,ok.frames,ok.stk,ok.exf,ok.bs,ok.bsz,ok.noex,ok.exfs,ok.funs,ok.frf⟩
section
variable {X:Cx} {pins:List (Addr×Obj)} {σ:St} {H:Hp} {s:Shared} {E:Value->Shared->Prop}
theorem Inv.wish (I:Inv X pins σ H s) (E:Value->Shared->Prop):Inv (X.wish E) pins σ H s:=⟨I.ok.wish E,I.os,I.bare,I.base,I.loc,I.cell,I.free,I.freeC,I.pin,I.hok,I.len⟩
theorem Inv.unwish (I:Inv (X.wish E) pins σ H s):Inv X pins σ H s:=⟨I.ok.unwish,I.os,I.bare,I.base,I.loc,I.cell,I.free,I.freeC,I.pin,I.hok,I.len⟩
theorem SP.unwish {D:Ends} {f:Flow} {s':Shared} (h:SP (X.wish E) pins D f s'):SP X pins D f s':=by
 cases f with
 | next=>obtain⟨σ',H',I,q⟩:=h; exact⟨σ',H',I.unwish,q⟩
 | brk=>obtain⟨σ',H',I,q⟩:=h; exact⟨σ',H',I.unwish,q⟩
 | cont=>obtain⟨σ',H',I,q⟩:=h; exact⟨σ',H',I.unwish,q⟩
 | ret u=>obtain⟨v,σ',H',I,r,q⟩:=h; exact⟨v,σ',H',I.unwish,r,q⟩
theorem PSs.nox {st:List Stmt} {t:TS} (h:PSs X.nox st t):PSs X st t:=fun pins s σ H D I hw =>
 wpAny_mono (h pins s σ H D (I.wish _) hw) (fun _ _ q=>q.unwish) fun _ _ z=>False.elim z
end
section
variable {X:Cx} {st:Stmt} {rest:List Stmt} {t u:TS} {e:Expr} {te:TE} {pos:Pos}
def tNext:TS:=fun D σ H=>D.nx σ H
def tSeq (t u:TS):TS:=fun D σ H=>t { D with nx:=u D } σ H
theorem pss_nil:PSs X [] tNext:=fun _ _ σ H _ I h=>wpAny_execs_nil ⟨σ,H,I,h⟩
theorem pss_cons (h1:PS X st t) (h2:PSs X rest u):PSs X (st :: rest) (tSeq t u):=by
 intro pins s σ H D I h
 refine wpAny_execs_cons (thn (h1 pins s σ H { D with nx:=u D } I h) fun f s1 q=>?_)
 cases f with
 | next =>
   obtain⟨σ',H',I',q⟩:=q
   exact h2 pins s1 σ' H' D I' q
 | ret v=>exact q
 | brk=>exact q
 | cont=>exact q
theorem pss_one (h1:PS X st t):PSs X [st] t:=by
 intro pins s σ H D I h
 refine wpAny_execs_cons (thn (h1 pins s σ H D I h) fun f s1 q=>?_)
 cases f with
 | next=>exact wpAny_execs_nil q
 | ret v=>exact q
 | brk=>exact q
 | cont=>exact q
def tCont:TS:=fun D σ H=>D.ct σ H
theorem ps_continue:PS X (.Continue pos) tCont:=fun _ _ σ H _ I h=>wpAny_Continue ⟨σ,H,I,h⟩
theorem Inv.quiet {pins:List (Addr×Obj)} {σ:St} {H:Hp} {s:Shared} (I:Inv X pins σ H s):interactive X.env=false:=by simp [interactive,I.ok.kind]
def tDrop (te:TE):TS:=fun D σ H=>te σ H fun _ H1=>D.nx σ H1
theorem ps_expr (he:PE X e te) (hs:swapsWith e none pos.line X.env=pure false:=by rfl):PS X (.Expr e pos) (tDrop te):=by
 intro pins s σ H D I h
 exact wpAny_Expr_any (thn (he pins s σ H _ I h) fun v s1 ⟨x,H1,I1,r1,q1⟩=>⟨σ,H1,I1,q1⟩) I.quiet hs
def tRet (te:TE):TS:=fun D σ H=>te σ H D.rt
theorem ps_ret (he:PE X e te):PS X (.Return (some e) pos) (tRet te):=by
 intro pins s σ H D I h
 exact wpAny_Return_some (thn (he pins s σ H _ I h) fun v s1 ⟨x,H1,I1,r1,q1⟩=>⟨x,σ,H1,I1,r1,q1⟩)
def tRetN:TS:=fun D _ H=>D.rt .non H
def tIfS (c:TT) (t u:TS):TS:=fun D σ H=>c σ H fun b H1=>if b=true then t D σ H1 else u D σ H1
theorem ps_if {c:Expr} {a b:List Stmt} {tc:TT} (hc:PT X c tc) (ha:PSs X a t) (hb:PSs X b u):PS X (.If c a b pos) (tIfS tc t u):=by
 intro pins s σ H D I h
 refine wpAny_If (thn (hc pins s σ H _ I h) fun d s1 ⟨H1,I1,q1⟩=>?_)
 cases d with
 | true=>exact ha pins s1 σ H1 D I1 q1
 | false=>exact hb pins s1 σ H1 D I1 q1
def tNever:TS:=fun _ _ _=>False
end
abbrev TG:=V->St->Hp->(St->Hp->Prop)->Prop
abbrev TGs:=List V->St->Hp->(St->Hp->Prop)->Prop
def PG (X:Cx) (target:Expr) (t:TG):Prop :=
 ∀ (pins:List (Addr×Obj)) (s:Shared) (σ:St) (H:Hp) (v:V) (u:Value) (Q:St->Hp->Prop),Inv X pins σ H s->RelV v u->t v σ H Q ->
  wpAny (model X.prog X.w) X.A (assign target X.env u) (fun _ s'=>∃ σ' H',Inv X pins σ' H' s'/\Q σ' H') X.xe s
def PGs (X:Cx) (ts:List Expr) (t:TGs):Prop :=
 ∀ (pins:List (Addr×Obj)) (s:Shared) (σ:St) (H:Hp) (vs:List V) (us:List Value) (Q:St->Hp->Prop),Inv X pins σ H s->Vals vs us->t vs σ H Q ->
  wpAny (model X.prog X.w) X.A (assignInOrder ((assignEach ts X.env).map (·.2)) us) (fun _ s'=>∃ σ' H',Inv X pins σ' H' s'/\Q σ' H') X.xe s
abbrev TSet:=V->V->V->Hp->(Hp->Prop)->Prop
def PSet (X:Cx) (t:TSet):Prop :=
 ∀ (pins:List (Addr×Obj)) (s:Shared) (σ:St) (H:Hp) (o i v:V) (ov iv u:Value) (Q:Hp->Prop),Inv X pins σ H s->RelV o ov->RelV i iv->RelV v u->t o i v H Q ->
  wpAny (model X.prog X.w) X.A (setItem ov iv u) (fun _ s'=>∃ H',Inv X pins σ H' s'/\Q H') X.xe s
abbrev TIp:=V->V->Hp->VK->Prop
def PIp (X:Cx) (op:Operator) (t:TIp):Prop :=
 ∀ (pins:List (Addr×Obj)) (s:Shared) (σ:St) (H:Hp) (x y:V) (v u:Value) (Q:VK),Inv X pins σ H s->RelV x v->RelV y u->t x y H Q ->
  wpAny (model X.prog X.w) X.A (inplaceOp op v u) (EP X pins σ Q) X.xe s
section
variable {X:Cx} {pos:Pos}
def gName (i:Nat):TG:=fun v σ H Q=>Q (σ.set i (some v)) H
theorem pg_name {i:Nat} {x:Str} (hN:X.N.Nodup) (hi:X.N[i]? = some x) (hx:Loc X.env.scope x) (hf:X.fn x=true\/X.env.scope.names.lookup x=some .local:=by first | exact .inl rfl | exact .inr rfl | assumption):PG X (.Name x pos) (gName i):=by
 intro pins s σ H v u Q I r h
 exact wpAny_assign_Name (store_ok I hN hi hx r (fun s' I'=>⟨_,H,I',h⟩) hf)
def gNil:TGs:=fun vs σ H Q=>vs=[]/\Q σ H
def gCons (t:TG) (u:TGs):TGs:=fun vs σ H Q=>∃ v r,vs=v :: r/\t v σ H fun σ' H'=>u r σ' H' Q
theorem pgs_nil:PGs X [] gNil:=by
 intro pins s σ H vs us Q I r h
 obtain⟨e,h⟩:=h
 subst e
 cases r
 exact assignInOrder_nil ⟨σ,H,I,h⟩
theorem pgs_cons {e:Expr} {es:List Expr} {t:TG} {u:TGs} (h1:PG X e t) (h2:PGs X es u)
 (hs:(assignEach (e :: es) X.env).map (·.2)=assign e X.env :: (assignEach es X.env).map (·.2):=by rfl):PGs X (e :: es) (gCons t u):=by
 intro pins s σ H vs us Q I r h
 obtain⟨v,vr,e1,h⟩:=h
 subst e1
 cases r with
 | cons r rr =>
   rw [hs]
   refine assignInOrder_cons (thn (h1 pins s σ H _ _ _ I r h) fun _ s1 ⟨σ1,H1,I1,q1⟩=>?_)
   exact h2 pins s1 σ1 H1 _ _ Q I1 rr q1
def gTup (K:PySem.W.Frag) (n:Nat) (t:TGs):TG:=fun v σ H Q=>∃ a xs,v=.ref a/\SqT K H a xs/\xs.length=n/\t xs σ H Q
theorem pg_tup {es:List Expr} {k:Nat} {t:TGs} {n:Nat} (hc:X.calm=true) (h:PGs X es t)
 (hn:(assignEach es X.env).length=n:=by rfl) (hst:(assignEach es X.env).findIdx? (·.1)=none:=by rfl):PG X (.Tuple es k pos) (gTup X.K n t):=by
 intro pins s σ H v u Q I r hw
 obtain⟨a,xs,e1,hq,hl,hw⟩:=hw
 subst e1
 cases r
 obtain⟨its,rv,ht,hz⟩:=I.tuple hq
 refine assign_Tuple_tuple (I.ok.hd hc) ht (by simp [hn,<- hl,rv.length]) hst fun h' hx=>?_
 have I1:Inv X pins σ H { s with heap:=h' }:=I.kept (t':=s.toks) fun b o e=>hx b o (Nat.ne_of_lt (Heap.lt_size e)) e
 exact h pins _ σ H xs _ Q I1 (by simpa using rv) hw
def gSub (to ti:TE) (t:TSet):TG:=fun v σ H Q=>to σ H fun o H1=>ti σ H1 fun i H2=>t o i v H2 fun H3=>Q σ H3
theorem pg_sub {o i:Expr} {to ti:TE} {t:TSet} (ho:PE X o to) (hi:PE X i ti) (hs:PSet X t)
 (ha:∀ v,assign (.Subscript o i pos) X.env v=(do
  let ov <- holding [v] (eval o X.env)
  let iv <- holding [v,ov] (eval i X.env)
  standAt pos
  holding [v,ov,iv] (setItem ov iv v)
  release [v,ov,iv] []):=by intro _; rfl):PG X (.Subscript o i pos) (gSub to ti t):=by
 intro pins s σ H v u Q I r h
 rw [ha]
 refine wpAny_bind (wpAny_holding (thn (ho pins s σ H _ I h) fun ov s1 ⟨x,H1,I1,r1,q1⟩=>?_))
 refine wpAny_bind (wpAny_holding (thn (hi pins s1 σ H1 _ I1 q1) fun iv s2 ⟨y,H2,I2,r2,q2⟩=>?_))
 refine wpAny_bind (wpAny_standAt (wpAny_bind (wpAny_holding (thn (hs pins s2 σ H2 x y v ov iv u _ I2 r1 r2 r q2) fun _ s3 ⟨H3,I3,q3⟩=>?_))))
 exact wpAny_release ⟨σ,H3,I3,q3⟩
def tAsg (te:TE) (g:TG):TS:=fun D σ H=>te σ H fun x H1=>g x σ H1 D.nx
theorem ps_asg {tg e:Expr} {te:TE} {g:TG} (he:PE X e te) (hg:PG X tg g) (hs:swapsWithSole [tg] e pos.line X.env=pure false:=by rfl) (hw:swappedStores [tg] e X.env=pure none:=by rfl)
 (h1:(assignEach [tg] X.env).map (·.2)=[assign tg X.env]:=by rfl):PS X (.Assign [tg] e pos) (tAsg te g):=by
 intro pins s σ H D I h
 refine wpAny_Assign_stores (thn (he pins s σ H _ I h) fun v s1 ⟨x,H1,I1,r1,q1⟩=>?_) hs hw
 rw [h1]
 exact thn (hg pins s1 σ H1 x v _ I1 r1 q1) fun _ s2 q=>q
theorem ps_set {i:Nat} {x:Str} {e:Expr} {te:TE} {pos':Pos} (hN:X.N.Nodup) (hi:X.N[i]? = some x) (hx:Loc X.env.scope x) (he:PE X e te) (hs:swapsWith e (some (.Name x pos')) pos.line X.env=pure false:=by rfl) (hf:X.fn x=true\/X.env.scope.names.lookup x=some .local:=by first | exact .inl rfl | exact .inr rfl | assumption) :
 PS X (.Assign [.Name x pos'] e pos) (tAsg te (gName i)):=by
 intro pins s σ H D I h
 refine wpAny_Assign_Name (thn (he pins s σ H _ I h) fun v s1 ⟨y,H1,I1,r1,q1⟩=>?_) hs
 exact store_ok I1 hN hi hx r1 (fun s2 I2=>⟨_,H1,I2,q1⟩) hf
def tPar (i j:Nat) (ta:TA):TS:=fun D σ H=>ta σ H fun vs H1=>∃ v w,vs=[v,w]/\D.nx ((σ.set i (some v)).set j (some w)) H1
def tAug (i:Nat) (te:TE) (ti:TIp):TS:=fun D σ H=>∃ x,σ[i]? = some (some x)/\te σ H fun y H1=>ti x y H1 fun z H2=>D.nx (σ.set i (some z)) H2
theorem ps_aug {i:Nat} {x:Str} {e:Expr} {te:TE} {op:Operator} {ti:TIp} {pos':Pos} (hN:X.N.Nodup) (hi:X.N[i]? = some x) (hx:Loc X.env.scope x) (he:PE X e te) (ho:PIp X op ti) (hf:X.fn x=true\/X.env.scope.names.lookup x=some .local:=by first | exact .inl rfl | exact .inr rfl | assumption) :
 PS X (.AugAssign (.Name x pos') op e pos) (tAug i te ti):=by
 intro pins s σ H D I h
 obtain⟨v,e1,h⟩:=h
 obtain⟨m,hn,hl⟩:=I.loc
 have vis:Vis X.env.scope x:=by rcases hx with k | k; exact .inl k; exact .inr (.inl k)
 obtain⟨u,r,l⟩:=hl i x v hi e1 vis
 refine wpAny_AugAssign_Name ?_
 have go:wpAny (model X.prog X.w) X.A (eval e X.env) (fun w s₂=>wpAny (model X.prog X.w) X.A (inplaceOp op u w) (fun r s₃=>wpAny (model X.prog X.w) X.A (storeName X.env x r) (fun _=>SP X pins D .next) X.xe s₃) X.xe s₂) X.xe s:=by
  refine thn (he pins s σ H _ I h) fun w s1 ⟨y,H1,I1,r1,q1⟩=>?_
  refine thn (ho pins s1 σ H1 v y u w _ I1 r r1 q1) fun z s2 ⟨zv,H2,I2,r2,q2⟩=>?_
  exact store_ok I2 hN hi hx r2 (fun s3 I3=>⟨_,H2,I3,q2⟩) hf
 rcases l with ⟨hk,hm⟩ | ⟨hk,c,hc,hcell⟩
 ·exact wpAny_loadName_local I.ok.kind hk hn hm go
 ·rcases hk with hk | hk
  ·exact wpAny_loadName_cell I.ok.kind hk hc hcell go
  ·rcases hx with k | k
   ·have:X.env.scope.names.lookup x=some .free:=hk
    rw [k] at this; cases this
   ·have:X.env.scope.names.lookup x=some .free:=hk
    rw [k] at this; cases this
def ipI (f:Int->Int->Int):TIp:=fun x y H Q=>∃ i j,x=.int i/\y=.int j/\Q (.int (f i j)) H
theorem ip_add:PIp X .Add (ipI fun i j=>i+j):=by
 intro pins s σ H x y v u Q I r1 r2 h
 obtain⟨i,j,e1,e2,q⟩:=h
 subst e1; subst e2
 obtain⟨t,rfl⟩:=r1
 obtain⟨t',rfl⟩:=r2
 exact iadd_int ⟨.int _,H,I.tok _,⟨_,rfl⟩,q⟩
end
section
variable {X:Cx} {pos:Pos}
def tWhile (c:TT) (tb:TS):TS:=fun D σ H=>∃ W:Nat->St->Hp->Prop,(∃ m,W m σ H)/\∀ m σ H,W m σ H ->
 c σ H fun b H1=>if b=true then ∃ N:St->Hp->Prop,(∀ σ' H',N σ' H'->∃ m',m'<m/\W m' σ' H')/\tb { D with nx:=N,ct:=N,bk:=D.nx } σ H1 else D.nx σ H1
end
structure It where
 go:Nat->Hp->Prop
 yld:Nat->Hp->V->Hp->Prop
 stop:Nat->Hp->Prop
def FpOk (X:Cx) (pins:List (Addr×Obj)) (H:Hp) (b:Addr):Prop :=
 H b=none/\b≠X.env.locals/\b ∉ X.fs/\(b∈X.ex\/X.s₀.heap.objs.size<=b)/\(∀ x c,X.env.cells.lookup x=some c->c≠b)/\∀ p∈X.pn++pins,p.1≠b
theorem Inv.fpOk {X:Cx} {pins:List (Addr×Obj)} {σ:St} {H H':Hp} {s:Shared} {b:Addr} (I:Inv X pins σ H s) (hb:s.heap.objs.size<=b) (hn:H' b=none):FpOk X pins H' b:=by
 refine⟨hn,Nat.ne_of_gt (Nat.lt_of_lt_of_le I.lt hb),I.nofs hb,.inr (Nat.le_trans I.sz hb),fun x c e z=>?_,fun p hp z=>?_⟩
 ·obtain⟨v,q⟩:=I.cell x c e
  exact absurd (Nat.lt_of_lt_of_le q.lt (by rw [z]; exact hb)) (Nat.lt_irrefl _)
 ·exact absurd (Nat.lt_of_lt_of_le (Heap.lt_size (I.pin p hp).1) (by rw [z]; exact hb)) (Nat.lt_irrefl _)
structure Turn (P:Program) (w:World) (K:PySem.W.Frag) (tg:Expr) (J:It) (fp:List Addr) (it:Addr) (tn:Nat->Heap->Prop):Prop where
 mem:it∈fp
 obj:∀ i h,tn i h->∀ b∈fp,∃ o,h.get? b=some o/\∀ v,o.data≠.cell v
 keep:∀ i h h',tn i h->(∀ b∈fp,∀ o,h.get? b=some o->h'.get? b=some o)->tn i h'
 item:∀ (X:Cx),X.prog=P->X.w=w->X.K=K->X.calm=true->∀ (i:Nat) (pins:List (Addr×Obj)) (s:Shared) (σ:St) (H:Hp) (E:Value->Shared->Prop),Inv X pins σ H s->(∀ b∈fp,FpOk X pins H b)->tn i s.heap->J.go i H ->
  wpAny (model P w) X.A (pyNext (.ref it)) (fun r s1=>∃ u,r=some u /\
   wpAny (model P w) X.A (letOwnedTupleGo tg (.ref it) u) (fun _ s2=>∃ x H',Inv X pins σ H' s2/\RelV x u/\J.yld i H x H'/\tn (i+1) s2.heap/\∀ b∈fp,H' b=none) E s1) E s
 done:∀ (X:Cx),X.prog=P->X.w=w->X.K=K->X.calm=true->∀ (i:Nat) (pins:List (Addr×Obj)) (s:Shared) (σ:St) (H:Hp) (E:Value->Shared->Prop),Inv X pins σ H s->(∀ b∈fp,FpOk X pins H b)->tn i s.heap->J.stop i H ->
  wpAny (model P w) X.A (pyNext (.ref it)) (fun r s1=>r=none/\Inv X pins σ H s1) E s
 self:∀ (A:Around) (i:Nat) (s:Shared) (Q:Value->Shared->Prop) (E:Value->Shared->Prop),tn i s.heap->Q (.ref it) s->wpAny (model P w) A (pyIter (.ref it)) Q E s
abbrev TI:=St->Hp->(It->Hp->Prop)->Prop
def PIE (X:Cx) (pins:List (Addr×Obj)) (σ:St) (tg:Expr) (R:It->Hp->Prop) (itv:Value) (s2:Shared):Prop :=
 ∃ (it:Addr) (fp:List Addr) (tn:Nat->Heap->Prop) (J:It) (H':Hp),itv=.ref it/\Inv X pins σ H' s2/\Turn X.prog X.w X.K tg J fp it tn/\tn 0 s2.heap/\(∀ b∈fp,FpOk X pins H' b)/\R J H'
def PI (X:Cx) (tg iter:Expr) (wi:TI):Prop :=
 ∀ (pins:List (Addr×Obj)) (s:Shared) (σ:St) (H:Hp) (R:It->Hp->Prop),Inv X pins σ H s->wi σ H R ->
  wpAny (model X.prog X.w) X.A (eval iter X.env) (fun v s1=>wpAny (model X.prog X.w) X.A (pyIter v) (PIE X pins σ tg R) X.xe s1) X.xe s
theorem go_of {M:Model} {A:Around} {E:Value->Shared->Prop} {s:Shared} {tg:Expr} {it:Addr} {u:Value} {o:Obj} {n:String} {vs:Array Value} {Q:Unit->Shared->Prop} (ho:s.heap.get? it=some o) (hc:o.cls=.type n) (hd:o.data=.fields vs)
 (hn:["enumerate", "zip", "dict_itemiterator", "dict_reverseitemiterator", "odict_iterator", "itertools.zip_longest", "itertools.pairwise"].contains n=false) (hQ:Q () s):wpAny M A (letOwnedTupleGo tg (.ref it) u) Q E s:=by
 unfold letOwnedTupleGo
 cases tg <;> first
  | exact wpAny_pure hQ
  | (cases u <;> first
   | exact wpAny_pure hQ
   | (refine wpAny_bind (wpAny_load ho ?_)
      rw [hc,hd]
      show wpAny M A (if (["enumerate", "zip", "dict_itemiterator", "dict_reverseitemiterator", "odict_iterator", "itertools.zip_longest", "itertools.pairwise"].contains n && vs[0]? == some (rawInt _))=true then _ else _) Q E s
      rw [if_neg (by intro h; rw [hn,Bool.false_and] at h; cases h)]
      exact wpAny_pure hQ))
def Itl (K:PySem.W.Frag) (a:Addr):It :=
 ⟨fun i H=>∃ xs x,SqL K H a xs/\xs[i]? = some x,fun i H x H'=>H'=H/\∀ xs,SqL K H a xs->xs[i]? = some x,fun i H=>∃ xs,SqL K H a xs/\xs.length<=i⟩
def Itt (K:PySem.W.Frag) (a:Addr):It :=
 ⟨fun i H=>∃ xs x,SqT K H a xs/\xs[i]? = some x,fun i H x H'=>H'=H/\∀ xs,SqT K H a xs->xs[i]? = some x,fun i H=>∃ xs,SqT K H a xs/\xs.length<=i⟩
def Itr (lo:Int) (n:Nat):It:=⟨fun i _=>i<n,fun i H x H'=>H'=H/\x=.int (lo+i),fun i _=>n<=i⟩
theorem turn_list {P:Program} {w:World} {K:PySem.W.Frag} {tg:Expr} (a it:Addr):Turn P w K tg (Itl K a) [it] it (fun i h=>h.IsListIter it a i) where
 mem:=by simp
 obj:=fun i h st b hb=>by
  have e:b=it:=by simpa using hb
  subst e
  obtain⟨o,e,c,d⟩:=st
  exact⟨o,e,fun v z=>by rw [d] at z; cases z⟩
 keep:=fun i h h' st k=>st.at fun o e=>k it (by simp) o e
 item:=by
  walk_at"z6"
  subst hP hw hK
  obtain⟨xs,x,hq,hx⟩:=hg
  obtain⟨its,rv,p,hz⟩:=I.list hq
  obtain⟨u,hu,ru⟩:=rv.get hx
  walk_at"z17"
  refine wpAny_pyNext_list_item st p.isList (x:=u) (by simpa using hu) fun h' st' sb=>?_
  have I1:Inv X pins σ H { s with heap:=h' }:=I.turned (t':=s.toks) (fun b o hb e=>(sb.2 b hb).trans e) f0 f1 f3 f4 f5
  obtain⟨o,e,c,d⟩:=id st'
  exact⟨u,rfl,go_of (s:={ s with heap:=h' }) e c d (by decide) ⟨x,H,I1,ru,⟨rfl,fun ys hy=>by rw [I.list_inj hy hq]; exact hx⟩,st',fun b hb=>(hf b hb).1⟩⟩
 done:=by
  walk_at"z6"
  subst hP hw hK
  obtain⟨xs,hq,hx⟩:=hg
  obtain⟨its,rv,p,hz⟩:=I.list hq
  walk_at"z17"
  have hl:=rv.length
  exact wpAny_pyNext_list_end (I.ok.hd hc) st p.isList (by simp; lia) fun h' eb=>⟨rfl,I.turned (t':=s.toks) (fun b o hb e=>eb b o hb e) f0 f1 f3 f4 f5⟩
 self:=fun _ _ _ _ _ st h=>wpAny_pyIter_listiter st h
theorem turn_range {P:Program} {w:World} {K:PySem.W.Frag} {tg:Expr} (it:Addr) (lo:Int) (n:Nat):Turn P w K tg (Itr lo n) [it] it (fun i h=>IsRangeIter h it (lo+(i:Nat)*1) ((n:Int) - (i:Nat)) 1) where
 mem:=by simp
 obj:=fun i h st b hb=>by
  have e:b=it:=by simpa using hb
  subst e
  exact⟨_,st,fun v z=>by
   have z':Data.fields _=Data.cell v:=z
   cases z'⟩
 keep:=fun i h h' st k=>k it (by simp) _ st
 item:=by
  walk_at"z6"
  subst hP hw hK
  walk_at"z17"
  have W:=Walks.range (prog:=X.prog) (w:=X.w) (I.ok.hd hc) it lo 1 n
  refine W.item i s _ _ hg st fun v h' tk hv st' kk=>?_
  obtain⟨t,rfl⟩:=hv
  have I1:Inv X pins σ H { s with heap:=h',toks:=tk }:=I.turned (fun b o hb e=>kk b o (by simpa using hb) e) f0 f1 f3 f4 f5
  refine⟨_,rfl,go_of (s:={ s with heap:=h',toks:=tk }) (n := "range_iterator") st' rfl rfl (by decide) ⟨.int (lo+i),H,I1,⟨t,?_⟩,⟨rfl,rfl⟩,st',fun b hb=>(hf b hb).1⟩⟩
  rw [Int.mul_one]
 done:=by
  walk_at"z6"
  subst hP hw hK
  walk_at"z17"
  exact wpAny_pyNext_range_end (I.ok.hd hc) st (by have:n<=i:=hg; lia) fun h' eb=>⟨rfl,I.turned (t':=s.toks) (fun b o hb e=>eb b o hb e) f0 f1 f3 f4 f5⟩
 self:=fun _ _ _ _ _ st h=>wpAny_pyIter_rangeiter st h
end L2
namespace L2
open PySem PySem.Spec PyProof.Rows
section
variable {X:Cx} {tg:Expr}
def iList (K:PySem.W.Frag) (tl:TE):TI:=fun σ H R=>tl σ H fun x H1=>∃ a,x=.ref a/\(∃ xs,SqL K H1 a xs)/\R (Itl K a) H1
def iTup (K:PySem.W.Frag) (tl:TE):TI:=fun σ H R=>tl σ H fun x H1=>∃ a,x=.ref a/\(∃ xs,SqT K H1 a xs)/\R (Itt K a) H1
theorem pi_list {l:Expr} {tl:TE} (hl:PE X l tl):PI X tg l (iList X.K tl):=by
 intro pins s σ H R I h
 refine thn (hl pins s σ H _ I h) fun v s1 ⟨x,H1,I1,r1,q1⟩=>?_
 obtain⟨a,e,⟨xs,hq⟩,q⟩:=q1
 subst e
 cases r1
 obtain⟨its,rv,p,hz⟩:=I1.list hq
 refine wpAny_pyIter_list p.isList ?_
 refine⟨s1.heap.objs.size,[s1.heap.objs.size],_,_,H1,rfl,I1.kept (t':=s1.toks) fun b o e=>Heap.get?_push_of_some _ e,turn_list a _,⟨_,Heap.get?_push_size _ rfl,rfl,rfl⟩,fun b hb=>?_,q⟩
 have e:b=s1.heap.objs.size:=by simpa using hb
 subst e
 exact I1.fpOk (Nat.le_refl _) (I1.hok.fresh (Nat.le_refl _))
theorem range_it {pins:List (Addr×Obj)} {σ:St} {H:Hp} {s:Shared} {R:It->Hp->Prop} {E:Value->Shared->Prop} {lo hi:Int} {t u v:Tok} {tk:Nat} (I:Inv X pins σ H s) (h1:-(2 ^ 62)<=lo) (h2:lo<2 ^ 62) (h3:-(2 ^ 62)<=hi) (h4:hi<2 ^ 62)
 (q:R (Itr lo (hi - lo).toNat) H):wpAny (model X.prog X.w) X.A (pyIter (.ref s.heap.objs.size)) (PIE X pins σ tg R) E { s with heap:=s.heap.push { cls:=.type "range", data:=.fields #[.int lo t,.int hi u,.int 1 v] },toks:=tk }:=by
 refine wpAny_pyIter_range (IsRange.new ..) (small_one h1 h2 h3 h4) ?_
 have I1:Inv X pins σ H { s with heap:=s.heap.push { cls:=.type "range", data:=.fields #[.int lo t,.int hi u,.int 1 v] },toks:=tk }:=I.kept fun b o e=>Heap.get?_push_of_some _ e
 refine⟨(s.heap.push { cls:=.type "range", data:=.fields #[.int lo t,.int hi u,.int 1 v] }).objs.size,[(s.heap.push { cls:=.type "range", data:=.fields #[.int lo t,.int hi u,.int 1 v] }).objs.size],_,_,H,rfl,
  I1.kept (t':=tk) fun b o e=>Heap.get?_push_of_some _ e,turn_range _ lo (hi - lo).toNat,?_,fun b hb=>?_,q⟩
 ·have e1:lo+((0:Nat):Int)*1=lo:=by simp
  have e2:(((hi - lo).toNat:Nat):Int) - ((0:Nat):Int)=Builtin.Range.rangeSize lo hi 1:=by rw [rangeSize_one]; split <;> lia
  show IsRangeIter _ _ (lo+((0:Nat):Int)*1) ((((hi - lo).toNat:Nat):Int) - ((0:Nat):Int)) 1
  rw [e1,e2]
  exact Heap.get?_push_size _ rfl
 ·have e:b=(s.heap.push { cls:=.type "range", data:=.fields #[.int lo t,.int hi u,.int 1 v] }).objs.size:=by simpa using hb
  subst e
  exact I1.fpOk (Nat.le_refl _) (I1.hok.fresh (Nat.le_refl _))
def iRng1 (ta:TA):TI:=fun σ H R=>ta σ H fun vs H1=>∃ j:Int,vs=[.int j]/\-(2 ^ 62)<=j/\j<2 ^ 62/\R (Itr 0 j.toNat) H1
def iRng2 (ta:TA):TI:=fun σ H R=>ta σ H fun vs H1=>∃ i j:Int,vs=[.int i,.int j]/\(-(2 ^ 62)<=i/\i<2 ^ 62/\-(2 ^ 62)<=j/\j<2 ^ 62)/\R (Itr i (j - i).toNat) H1
theorem pi_range1 {a:Expr} {ta:TA} {p pos:Pos} (hg:Gl X "range") (hm:X.mg "range" = none) (ha:PA X [a] ta) (hs:starEach [a] X.env=[(false,eval a X.env)]:=by rfl):PI X tg (.Call (.Name "range" p) [a] [] pos) (iRng1 ta):=by
 intro pins s σ H R I h
 refine Call_ (ld_blt I hg hm boot_range (PyProof.Rows.callWith_type1 (thn (ha pos pins s σ H _ I h) fun us s1 ⟨vs,H1,I1,r1,q1⟩=>?_) hs rfl))
 obtain⟨j,e,q1,q2,q⟩:=q1
 subst e
 cases r1 with
 | cons r rr =>
   cases rr
   obtain⟨t,rfl⟩:=r
   exact call_range_1 (range_it I1 (by lia) (by lia) q1 q2 (by simpa using q))
def tFor (wi:TI) (g:TG) (tb:TS):TS:=fun D σ H=>wi σ H fun J H1=>∃ W:Nat->Nat->St->Hp->Prop,(∃ m,W 0 m σ H1)/\∀ i m σ H,W i m σ H ->
 (J.stop i H/\D.nx σ H)\/(J.go i H/\∃ N:St->Hp->Prop,(∀ σ' H',N σ' H'->∃ m',m'<m/\W (i+1) m' σ' H')/\∀ x H',J.yld i H x H'->g x σ H' fun σ2 H2=>tb { D with nx:=N,ct:=N,bk:=D.nx } σ2 H2)
def pinsAt (fp:List Addr) (h:Heap):List (Addr×Obj):=fp.filterMap fun b=>(h.get? b).map fun o=>(b,o)
theorem mem_pinsAt {fp:List Addr} {h:Heap} {b:Addr} {o:Obj} (hb:b∈fp) (e:h.get? b=some o):(b,o)∈pinsAt fp h:=List.mem_filterMap.mpr ⟨b,hb,by rw [e]; rfl⟩
theorem of_pinsAt {fp:List Addr} {h:Heap} {p:Addr×Obj} (hp:p∈pinsAt fp h):p.1∈fp/\h.get? p.1=some p.2:=by
 obtain⟨b,hb,e⟩:=List.mem_filterMap.mp hp
 cases q:h.get? b with
 | none=>rw [q] at e; cases e
 | some o =>
   rw [q] at e
   have e':(b,o)=p:=Option.some.inj e
   subst e'
   exact⟨hb,q⟩
theorem Inv.pinned {pins:List (Addr×Obj)} {σ:St} {H:Hp} {s:Shared} {fp:List Addr} (I:Inv X pins σ H s) (hf:∀ b∈fp,FpOk X pins H b) (ho:∀ b∈fp,∃ o,s.heap.get? b=some o/\∀ v,o.data≠.cell v):Inv X (pins++pinsAt fp s.heap) σ H s :=
 I.pins_of fun p hp=>(List.mem_append.mp hp).elim (fun z=>I.pin p (List.mem_append_right _ z)) fun z=>by
  obtain⟨hb,e⟩:=of_pinsAt z
  obtain⟨f0,f1,f2,_⟩:=hf p.1 hb
  obtain⟨o,e',d⟩:=ho p.1 hb
  rw [e] at e'; cases e'
  exact⟨e,f0,f1,f2,d⟩
theorem Inv.unpinned {pins pl:List (Addr×Obj)} {σ:St} {H:Hp} {s:Shared} (I:Inv X (pins++pl) σ H s):Inv X pins σ H s:=I.pins_of fun p hp=>I.pin p (List.mem_append_right _ (List.mem_append_left _ hp))
theorem ps_for {iter:Expr} {body:List Stmt} {wi:TI} {g:TG} {tb:TS} {pos:Pos} (hp:PassesOwn (model X.prog X.w) X.A X.env X.xe) (hc:X.calm=true) (hi:PI X tg iter wi) (hg:PG X tg g) (hb:PSs X body tb)
 (hs:∀ x,foldedSetIterable iter X.env x=pure x:=by intro _; rfl):PS X (.For tg iter body [] pos) (tFor wi g tb):=by
 intro pins s σ H D I h
 refine wpAny_For (thn (hi pins s σ H _ I h) fun v s1 h1=>thn h1 fun itv s2 h2=>?_) hs
 obtain⟨it,fp,tn,J,H2,e,I2,T,st2,f2,W,⟨m0,w0⟩,turn⟩:=h2
 subst e
 have stat:∀ {H':Hp},(∀ b∈fp,H' b=none)->∀ b∈fp,FpOk X pins H' b:=fun hn b hb=>⟨hn b hb,(f2 b hb).2⟩
 refine codeAny_forLoop_any (fun n s'=>∃ i σ' H',Inv X pins σ' H' s'/\tn i s'.heap/\(∀ b∈fp,H' b=none)/\W i n σ' H') ?_ m0 ⟨0,σ,H2,I2,st2,fun b hb=>(f2 b hb).1,w0⟩
 rintro n s3 ⟨i,σ3,H3,I3,st3,fr3,w3⟩
 rcases turn i n σ3 H3 w3 with ⟨stop,qn⟩ | ⟨go,N,hN,step⟩
 ·refine wpAny_passesOwn hp (thn (T.done X rfl rfl rfl hc i pins s3 σ3 H3 X.xe I3 (stat fr3) st3 stop) fun r s4 ⟨hr,I4⟩=>?_)
  subst hr
  exact wpAny_execs_nil ⟨σ3,H3,I4,qn⟩
 ·refine wpAny_passesOwn hp (thn (T.item X rfl rfl rfl hc i pins s3 σ3 H3 X.xe I3 (stat fr3) st3 go) fun r s4 ⟨u,hr,h4⟩=>?_)
  subst hr
  refine wpAny_passesOwn hp (thn h4 fun _ s5 ⟨x,H5,I5,r5,y5,st5,fr5⟩=>?_)
  have I5':=I5.pinned (stat fr5) (T.obj _ _ st5)
  refine wpAny_passesOwn hp (thn (hg _ s5 σ3 H5 x u _ I5' r5 (step x H5 y5)) fun _ s6 ⟨σ6,H6,I6,q6⟩=>?_)
  refine wpAny_passesOwn hp (thn (hb _ s6 σ6 H6 _ I6 q6) fun f s7 q7=>?_)
  have again:∀ {σ7:St} {H7:Hp},Inv X (pins++pinsAt fp s5.heap) σ7 H7 s7->N σ7 H7->∃ m,m<n/\∃ i σ' H',Inv X pins σ' H' s7/\tn i s7.heap/\(∀ b∈fp,H' b=none)/\W i m σ' H':=fun {σ7 H7} I7 n7=>by
   obtain⟨m',hm,w7⟩:=hN σ7 H7 n7
   refine⟨m',hm,i+1,σ7,H7,I7.unpinned,T.keep _ _ _ st5 fun b hb o e=>(I7.pin (b,o) (List.mem_append_right _ (List.mem_append_right _ (mem_pinsAt hb e)))).1,fun b hb=>?_,w7⟩
   obtain⟨o,e,d⟩:=T.obj _ _ st5 b hb
   exact (I7.pin (b,o) (List.mem_append_right _ (List.mem_append_right _ (mem_pinsAt hb e)))).2.1
  cases f with
  | next=>obtain⟨σ7,H7,I7,n7⟩:=q7; exact again I7 n7
  | cont=>obtain⟨σ7,H7,I7,n7⟩:=q7; exact again I7 n7
  | brk=>obtain⟨σ7,H7,I7,q7⟩:=q7; exact⟨σ7,H7,I7.unpinned,q7⟩
  | ret v=>obtain⟨x7,σ7,H7,I7,r7,q7⟩:=q7; exact⟨x7,σ7,H7,I7.unpinned,r7,q7⟩
end
theorem for_list {K:PySem.W.Frag} {a:Addr} {xs:List V} {g:TG} {tb:TS} {D:Ends} {σ:St} {H:Hp} (Pv:Nat->St->Hp->Prop) (h0:Pv 0 σ H) (hl:∀ i σ H,i<=xs.length->Pv i σ H->SqL K H a xs)
 (hs:∀ i x σ H,xs[i]? = some x->Pv i σ H->g x σ H fun σ2 H2=>tb { D with nx:=Pv (i+1),ct:=Pv (i+1),bk:=D.nx } σ2 H2) (hd:∀ σ H,Pv xs.length σ H->D.nx σ H) :
 ∃ W:Nat->Nat->St->Hp->Prop,(∃ m,W 0 m σ H)/\∀ i m σ H,W i m σ H ->
  ((Itl K a).stop i H/\D.nx σ H)\/((Itl K a).go i H/\∃ N:St->Hp->Prop,(∀ σ' H',N σ' H'->∃ m',m'<m/\W (i+1) m' σ' H')/\∀ x H',(Itl K a).yld i H x H'->g x σ H' fun σ2 H2=>tb { D with nx:=N,ct:=N,bk:=D.nx } σ2 H2):=by
 refine⟨fun i m σ H=>m=xs.length - i/\i<=xs.length/\Pv i σ H,⟨xs.length,by simp,Nat.zero_le _,h0⟩,?_⟩
 rintro i m σ H ⟨rfl,hi,p⟩
 have q:=hl i σ H hi p
 by_cases hlt:i<xs.length
 ·refine .inr ⟨⟨xs,xs[i],q,by simp [hlt]⟩,Pv (i+1),fun σ' H' p'=>⟨xs.length - (i+1),by lia,rfl,hlt,p'⟩,fun x H' y=>?_⟩
  obtain⟨e,y⟩:=y
  subst e
  exact hs i x σ _ (y xs q) p
 ·have e:i=xs.length:=by lia
  subst e
  exact .inl ⟨⟨xs,q,Nat.le_refl _⟩,hd σ H p⟩
theorem for_range {lo:Int} {n:Nat} {g:TG} {tb:TS} {D:Ends} {σ:St} {H:Hp} (Pv:Nat->St->Hp->Prop) (h0:Pv 0 σ H)
 (hs:∀ i σ H,i<n->Pv i σ H->g (.int (lo+i)) σ H fun σ2 H2=>tb { D with nx:=Pv (i+1),ct:=Pv (i+1),bk:=D.nx } σ2 H2) (hd:∀ σ H,Pv n σ H->D.nx σ H) :
 ∃ W:Nat->Nat->St->Hp->Prop,(∃ m,W 0 m σ H)/\∀ i m σ H,W i m σ H ->
  ((Itr lo n).stop i H/\D.nx σ H)\/((Itr lo n).go i H/\∃ N:St->Hp->Prop,(∀ σ' H',N σ' H'->∃ m',m'<m/\W (i+1) m' σ' H')/\∀ x H',(Itr lo n).yld i H x H'->g x σ H' fun σ2 H2=>tb { D with nx:=N,ct:=N,bk:=D.nx } σ2 H2):=by
 refine⟨fun i m σ H=>m=n - i/\i<=n/\Pv i σ H,⟨n,by simp,Nat.zero_le _,h0⟩,?_⟩
 rintro i m σ H ⟨rfl,hi,p⟩
 by_cases hlt:i<n
 ·refine .inr ⟨hlt,Pv (i+1),fun σ' H' p'=>⟨n - (i+1),by lia,rfl,hlt,p'⟩,fun x H' y=>?_⟩
  obtain⟨e,y⟩:=y
  subst e y
  exact hs i σ _ hlt p
 ·have e:i=n:=by lia
  subst e
  exact .inl ⟨Nat.le_refl _,hd σ H p⟩
end L2
namespace L2
open PySem PySem.Spec PyProof.Rows
abbrev R2:=V->V->Hp->VK->Prop
def OpR (X:Cx) (f:Value->Value->Sem Value) (r:R2):Prop :=
 ∀ (pins:List (Addr×Obj)) (s:Shared) (σ:St) (H:Hp) (x y:V) (v u:Value) (Q:VK),Inv X pins σ H s->RelV x v->RelV y u->r x y H Q ->
  wpAny (model X.prog X.w) X.A (f v u) (EP X pins σ Q) X.xe s
def UnR (X:Cx) (f:Value->Sem Value) (r:V->Hp->VK->Prop):Prop :=
 ∀ (pins:List (Addr×Obj)) (s:Shared) (σ:St) (H:Hp) (x:V) (v:Value) (Q:VK),Inv X pins σ H s->RelV x v->r x H Q ->
  wpAny (model X.prog X.w) X.A (f v) (EP X pins σ Q) X.xe s
def CallR (X:Cx) (f:Value) (r:List V->Hp->VK->Prop):Prop :=
 ∀ (pins:List (Addr×Obj)) (s:Shared) (σ:St) (H:Hp) (xs:List V) (us:List Value) (Q:VK),Inv X pins σ H s->Vals xs us->r xs H Q ->
  wpAny (model X.prog X.w) X.A (call f us) (EP X pins σ Q) X.xe s
def TruR (X:Cx) (r:V->Hp->(Bool->Hp->Prop)->Prop):Prop :=
 ∀ (pins:List (Addr×Obj)) (s:Shared) (σ:St) (H:Hp) (x:V) (v:Value) (Q:Bool->Hp->Prop),Inv X pins σ H s->RelV x v->r x H Q ->
  wpAny (model X.prog X.w) X.A (truthy v) (TP X pins σ Q) X.xe s
def tOp (r:R2) (ta tb:TE):TE:=fun σ H Q=>ta σ H fun x H1=>tb σ H1 fun y H2=>r x y H2 Q
def tUn (r:V->Hp->VK->Prop) (ta:TE):TE:=fun σ H Q=>ta σ H fun x H1=>r x H1 Q
def rI (C:Int->Int->Prop) (g:Int->Int->V):R2:=fun x y H Q=>∃ i j,x=.int i/\y=.int j/\C i j/\Q (g i j) H
def rI0 (g:Int->Int->V):R2:=fun x y H Q=>∃ i j,x=.int i/\y=.int j/\Q (g i j) H
def rU (g:Int->V):V->Hp->VK->Prop:=fun x H Q=>∃ i,x=.int i/\Q (g i) H
section
variable {X:Cx} {a b c:Expr} {ta tb tc:TE} {pos:Pos}
theorem binT (ha:PE X a ta) (hb:PE X b tb) {pins:List (Addr×Obj)} {s:Shared} {σ:St} {H:Hp} {R:V->V->Hp->Prop} (I:Inv X pins σ H s)
 (h:ta σ H fun x H1=>tb σ H1 fun y H2=>R x y H2) {Q:Value->Shared->Prop} {f:Value->Value->Sem Value}
 (hf:∀ v u s2 x y H2,Inv X pins σ H2 s2->RelV x v->RelV y u->R x y H2->wpAny (model X.prog X.w) X.A (f v u) Q X.xe s2) :
 wpAny (model X.prog X.w) X.A (eval a X.env) (fun v s₁=>wpAny (model X.prog X.w) X.A (eval b X.env) (fun u s₂=>wpAny (model X.prog X.w) X.A (f v u) Q X.xe s₂) X.xe s₁) X.xe s:=by
 refine thn (ha pins s σ H _ I h) fun v s1 ⟨x,H1,I1,r1,q1⟩=>?_
 refine thn (hb pins s1 σ H1 _ I1 q1) fun u s2 ⟨y,H2,I2,r2,q2⟩=>?_
 exact hf v u s2 x y H2 I2 r1 r2 q2
theorem pe_op {op:Operator} {r:R2} (ho:OpR X (binaryOp op) r) (ha:PE X a ta) (hb:PE X b tb):PE X (.BinOp a op b pos) (tOp r ta tb):=by
 walk_at"z3"
 exact wpAny_BinOp (binT ha hb I h fun v u s2 x y H2 I2 rx ry q=>ho pins s2 σ H2 x y v u Q I2 rx ry q)
theorem pe_un {op:UnaryOp} {r:V->Hp->VK->Prop} (ho:UnR X (unaryOp op) r) (ha:PE X a ta):PE X (.UnaryOp op a pos) (tUn r ta):=by
 walk_at"z3"
 exact UnaryOp_ (thn (ha pins s σ H _ I h) fun v s1 ⟨x,H1,I1,r1,q1⟩=>ho pins s1 σ H1 x v Q I1 r1 q1)
theorem opI {f:Value->Value->Sem Value} {C:Int->Int->Prop} {g:Int->Int->Int}
 (rule:∀ (i j:Int) (t u:Tok) (s:Shared) (Q:Value->Shared->Prop) (E:Value->Shared->Prop),C i j->Q (.int (g i j) s.toks) { s with toks:=s.toks+1 }->wpAny (model X.prog X.w) X.A (f (.int i t) (.int j u)) Q E s) :
 OpR X f (rI C fun i j=>.int (g i j)):=by
 walk_at"z7"
 obtain⟨i,j,rfl,rfl,hc,q⟩:=h
 walk_at"z13"
 obtain⟨t',rfl⟩:=ry
 exact rule i j t t' s _ _ hc ⟨.int (g i j),H,I.tok _,⟨_,rfl⟩,q⟩
theorem opI0 {f:Value->Value->Sem Value} {g:Int->Int->Int}
 (rule:∀ (i j:Int) (t u:Tok) (s:Shared) (Q:Value->Shared->Prop) (E:Value->Shared->Prop),Q (.int (g i j) s.toks) { s with toks:=s.toks+1 }->wpAny (model X.prog X.w) X.A (f (.int i t) (.int j u)) Q E s) :
 OpR X f (rI0 fun i j=>.int (g i j)):=by
 walk_at"z7"
 obtain⟨i,j,rfl,rfl,q⟩:=h
 walk_at"z13"
 obtain⟨t',rfl⟩:=ry
 exact rule i j t t' s _ _ ⟨.int (g i j),H,I.tok _,⟨_,rfl⟩,q⟩
theorem opB0 {f:Value->Value->Sem Value} {g:Int->Int->Bool}
 (rule:∀ (i j:Int) (t u:Tok) (s:Shared) (Q:Value->Shared->Prop) (E:Value->Shared->Prop),Q (.bool (g i j)) s->wpAny (model X.prog X.w) X.A (f (.int i t) (.int j u)) Q E s) :
 OpR X f (rI0 fun i j=>.bl (g i j)):=by
 walk_at"z7"
 obtain⟨i,j,rfl,rfl,q⟩:=h
 walk_at"z13"
 obtain⟨t',rfl⟩:=ry
 exact rule i j t t' s _ _ ⟨.bl (g i j),H,I,rfl,q⟩
def CDiv (i j:Int):Prop:=0<j/\j<1073741824
def CPow (i j:Int):Prop:=0<=j/\j<=1000000/\i.natAbs<2 ^ 64
def CMul (i j:Int):Prop:=(-(2 ^ 64)<i/\i<2 ^ 64)\/(-(2 ^ 64)<j/\j<2 ^ 64)
theorem CMul.ok {i j:Int} (h:CMul i j):IntMulOk i j:=by
 rcases h with ⟨h1,h2⟩ | ⟨h1,h2⟩
 ·exact .of_left (intBits_le_64 h1 h2)
 ·exact .of_right (intBits_le_64 h1 h2)
theorem op_add:OpR X (binaryOp .Add) (rI0 fun i j=>.int (i+j)):=opI0 fun _ _ _ _ _ _ _ q=>add_int q
theorem op_sub:OpR X (binaryOp .Sub) (rI0 fun i j=>.int (i - j)):=opI0 fun _ _ _ _ _ _ _ q=>sub_int q
theorem op_mul:OpR X (binaryOp .Mult) (rI CMul fun i j=>.int (i*j)):=opI fun _ _ _ _ _ _ _ hc q=>mul_int q hc.ok
theorem op_fdiv:OpR X (binaryOp .FloorDiv) (rI CDiv fun i j=>.int (i / j)):=opI fun i j _ _ _ _ _ hc q=>by
 have h1:(0:Int)<j:=hc.1
 have h2:j<1073741824:=hc.2
 exact floordiv_int (by lia) (by rw [Int.fdiv_eq_ediv_of_nonneg i (by lia)]; exact q) (.inl (PyProof.noPylong_small (by lia)))
theorem op_mod:OpR X (binaryOp .Mod) (rI (fun _ j=>0<j) fun i j=>.int (i % j)):=opI fun i j _ _ _ _ _ hc q=>by
 have h1:(0:Int)<j:=hc
 exact mod_int' (by lia) (by rw [Int.fmod_eq_emod_of_nonneg i (by lia)]; exact q)
theorem op_pow:OpR X (binaryOp .Pow) (rI CPow fun i j=>.int (i ^ j.toNat)):=opI fun _ _ _ _ _ _ _ hc q=>pow_int_small hc.1 hc.2.1 hc.2.2 q
theorem unI {f:Value->Sem Value} {g:Int->Int}
 (rule:∀ (i:Int) (t:Tok) (s:Shared) (Q:Value->Shared->Prop) (E:Value->Shared->Prop),Q (.int (g i) s.toks) { s with toks:=s.toks+1 }->wpAny (model X.prog X.w) X.A (f (.int i t)) Q E s) :
 UnR X f (rU fun i=>.int (g i)):=by
 intro pins s σ H x v Q I rx h
 obtain⟨i,rfl,q⟩:=h
 walk_at"z13"
 exact rule i t s _ _ ⟨.int (g i),H,I.tok _,⟨_,rfl⟩,q⟩
theorem un_neg:UnR X (unaryOp .USub) (rU fun i=>.int (-i)):=unI fun _ _ _ _ _ q=>neg_int q
end
section
variable {X:Cx} {a b c:Expr} {ta tb tc:TE} {pos:Pos}
theorem fin_bl {pins:List (Addr×Obj)} {σ:St} {H:Hp} {s:Shared} {Q:VK} {k k':Bool} (I:Inv X pins σ H s) (q:Q (.bl k) H) (e:k=k'):EP X pins σ Q (.bool k') s:=by
 subst e
 exact⟨.bl k,H,I,rfl,q⟩
theorem op_lt:OpR X (compareOp .Lt) (rI0 fun i j=>.bl (decide (i<j))):=opB0 fun _ _ _ _ _ _ _ q=>lt_int q
theorem op_le:OpR X (compareOp .LtE) (rI0 fun i j=>.bl (decide (i<=j))):=opB0 fun _ _ _ _ _ _ _ q=>le_int q
theorem op_gt:OpR X (compareOp .Gt) (rI0 fun i j=>.bl (decide (j<i))):=opB0 fun _ _ _ _ _ _ _ q=>gt_int q
theorem op_ge:OpR X (compareOp .GtE) (rI0 fun i j=>.bl (decide (j<=i))):=opB0 fun _ _ _ _ _ _ _ q=>ge_int q
theorem op_in_str:OpR X (compareOp .In) (fun x y H Q=>∃ i j,x=.str i/\y=.str j/\Q (.bl (!(Builtin.Str.occurrences j i 0 j.length 1).isEmpty)) H):=by
 walk_at"z7"
 obtain⟨i,j,rfl,rfl,q⟩:=h
 walk_at"z13"
 obtain⟨t',rfl⟩:=ry
 exact in_str (fin_bl I q rfl)
theorem op_isN:OpR X (compareOp .Is) (fun x y H Q=>y=.non/\Q (.bl (decide (x=.non))) H):=by
 walk_at"z7"
 obtain⟨rfl,q⟩:=h
 cases ry
 refine is_none_gen (fin_bl I q ?_)
 cases x <;> first
  | (cases rx; rfl)
  | (obtain⟨t,rfl⟩:=rx; rfl)
theorem op_notin_str:OpR X (compareOp .NotIn) (fun x y H Q=>∃ i j,x=.str i/\y=.str j/\Q (.bl (!(!(Builtin.Str.occurrences j i 0 j.length 1).isEmpty))) H):=by
 walk_at"z7"
 obtain⟨i,j,rfl,rfl,q⟩:=h
 walk_at"z13"
 obtain⟨t',rfl⟩:=ry
 exact notIn_str (fin_bl I q rfl)
theorem OpR.or {f:Value->Value->Sem Value} {r r':R2} (h:OpR X f r) (h':OpR X f r'):OpR X f (fun x y H Q=>r x y H Q\/r' x y H Q):=by
 intro pins s σ H x y v u Q I rx ry q
 rcases q with q | q
 ·exact h pins s σ H x y v u Q I rx ry q
 ·exact h' pins s σ H x y v u Q I rx ry q
theorem nomark (b:Expr) {op:CmpOp} (h:op≠.In:=by decide) (h2:op≠.NotIn:=by decide):behindInMarks op b=false:=by
 have e1:(op == CmpOp.In)=false:=by cases op <;> first | rfl | exact absurd rfl h
 have e2:(op == CmpOp.NotIn)=false:=by cases op <;> first | rfl | exact absurd rfl h2
 cases b <;> simp [behindInMarks,e1,e2]
theorem pe_cmpR {op:CmpOp} {r:R2} (ho:OpR X (compareOp op) r) (ha:PE X a ta) (hb:PE X b tb) (hm:behindInMarks op b=false):PE X (.Compare a [op] [b] pos) (tOp r ta tb):=by
 walk_at"z3"
 exact wpAny_Compare1 (binT ha hb I h fun v u s2 x y H2 I2 rx ry q=>ho pins s2 σ H2 x y v u Q I2 rx ry q) hm
def tTest (t:TE):TT:=fun σ H Q=>t σ H fun x H'=>∃ k,x=.bl k/\Q k H'
theorem pt_cmpR {op:CmpOp} {r:R2} (ho:OpR X (compareOp op) r) (ha:PE X a ta) (hb:PE X b tb) (hm:behindInMarks op b=false):PT X (.Compare a [op] [b] pos) (tTest (tOp r ta tb)):=by
 walk_at"z3"
 refine wpAny_isTrue_Compare1 (thn (ha pins s σ H _ I h) fun v s1 ⟨x,H1,I1,r1,q1⟩=>thn (hb pins s1 σ H1 _ I1 q1) fun u s2 ⟨y,H2,I2,r2,q2⟩ =>
  thn (ho pins s2 σ H2 x y v u _ I2 r1 r2 q2) fun c s3 ⟨z,H3,I3,r3,k,e,q3⟩=>?_) hm
 subst e
 cases r3
 exact wpAny_truthy_bool ⟨H3,I3,q3⟩
def tChain (r r':R2) (ta tb tc:TE):TE:=fun σ H Q=>ta σ H fun x H1=>tb σ H1 fun y H2=>r x y H2 fun z H3=>∃ k,z=.bl k /\
 (if k=true then tc σ H3 fun w' H4=>r' y w' H4 Q else Q (.bl false) H3)
theorem pe_chain {op op':CmpOp} {r r':R2} (ho:OpR X (compareOp op) r) (ho':OpR X (compareOp op') r') (ha:PE X a ta) (hb:PE X b tb) (hc:PE X c tc)
 (hm:lastMarks [op,op'] [b,c]=false:=by with_unfolding_all rfl):PE X (.Compare a [op,op'] [b,c] pos) (tChain r r' ta tb tc):=by
 walk_at"z3"
 refine Compare_chain (thn (ha pins s σ H _ I h) fun v s1 ⟨x,H1,I1,r1,q1⟩=>chain_link (thn (hb pins s1 σ H1 _ I1 q1) fun u s2 ⟨y,H2,I2,r2,q2⟩ =>
  thn (ho pins s2 σ H2 x y v u _ I2 r1 r2 q2) fun d s3 ⟨z,H3,I3,r3,k,e,q3⟩=>?_)) hm
 subst e
 cases r3
 refine wpAny_truthy_bool ?_
 cases k with
 | false=>exact ite_ff ⟨.bl false,H3,I3,rfl,q3⟩
 | true=>exact ite_tt (chain_last (thn (hc pins s3 σ H3 _ I3 q3) fun w' s4 ⟨z',H4,I4,r4,q4⟩=>ho' pins s4 σ H4 y z' u w' Q I4 r2 r4 q4))
theorem pt_chain {op op':CmpOp} {r r':R2} (ho:OpR X (compareOp op) r) (ho':OpR X (compareOp op') r') (ha:PE X a ta) (hb:PE X b tb) (hc:PE X c tc)
 (hm:lastMarks [op,op'] [b,c]=false:=by with_unfolding_all rfl):PT X (.Compare a [op,op'] [b,c] pos) (tTest (tChain r r' ta tb tc)):=by
 walk_at"z3"
 refine isTrue_chain (thn (ha pins s σ H _ I h) fun v s1 ⟨x,H1,I1,r1,q1⟩=>test_link (thn (hb pins s1 σ H1 _ I1 q1) fun u s2 ⟨y,H2,I2,r2,q2⟩ =>
  thn (ho pins s2 σ H2 x y v u _ I2 r1 r2 q2) fun d s3 ⟨z,H3,I3,r3,k,e,q3⟩=>?_)) hm
 subst e
 cases r3
 refine wpAny_truthy_bool ?_
 cases k with
 | false =>
   obtain⟨k',e',q'⟩:=q3
   cases e'
   exact ite_ff ⟨H3,I3,q'⟩
 | true =>
   refine ite_tt (test_last (thn (hc pins s3 σ H3 _ I3 q3) fun w' s4 ⟨z',H4,I4,r4,q4⟩=>thn (ho' pins s4 σ H4 y z' u w' _ I4 r2 r4 q4) fun d' s5 ⟨z2,H5,I5,r5,k2,e2,q5⟩=>?_))
   subst e2
   cases r5
   exact wpAny_truthy_bool ⟨H5,I5,q5⟩
def TruV (K:PySem.W.Frag) (x:V) (H:Hp) (k:Bool):Prop :=
 match x with
 | .non=>k=false
 | .bl b=>k=b
 | .int i=>k=(i != 0)
 | .str y=>y.length<=sizeLine/\k=((y.length:Int) != 0)
 | .byt y=>y.size<=sizeLine/\k=((y.size:Int) != 0)
 | .ref p=>(∃ xs,SqL K H p xs/\k = !xs.isEmpty)\/(∃ xs,SqT K H p xs/\k = !xs.isEmpty)\/∃ kvs,H p=some (.dK kvs)/\k = !kvs.isEmpty
 | _=>False
theorem isEmpty_kv {κ:Type} {kvs:List (κ×V)} {vs:List (κ×Value)} (r:KV kvs vs):(!vs.isEmpty) = !kvs.isEmpty:=by
 cases r <;> rfl
theorem isEmpty_of {xs:List V} {its:List Value} (r:Vals xs its):(!its.toArray.isEmpty) = !xs.isEmpty:=by
 cases r <;> simp
theorem line63:(sizeLine:Nat)<2 ^ 63:=by rw [sizeLine_eq]; decide
theorem tru_ok:TruR X (fun x H Q=>∃ k,TruV X.K x H k/\Q k H):=by
 intro pins s σ H x v Q I rx h
 obtain⟨k,e,q⟩:=h
 have hl:=line63
 have hs:sizeLine=16777216:=sizeLine_eq
 cases x with
 | non =>
   cases rx
   have e':k=false:=e
   subst e'
   exact truthy_none ⟨H,I,q⟩
 | bl b =>
   cases rx
   have e':k=b:=e
   subst e'
   exact wpAny_truthy_bool ⟨H,I,q⟩
 | int i =>
   walk_at"z13"
   have e':k=(i != 0):=e
   subst e'
   exact PySem.P.truthy_int ⟨H,I,q⟩
 | str y =>
   walk_at"z13"
   obtain⟨hy,e'⟩:y.length<=sizeLine/\k=((y.length:Int) != 0):=e
   subst e'
   exact PySem.P.truthy_str (by lia) ⟨H,I.tok _,q⟩
 | byt y =>
   walk_at"z13"
   obtain⟨hy,e'⟩:y.size<=sizeLine/\k=((y.size:Int) != 0):=e
   subst e'
   exact PySem.W.truthy_bytes (by lia) ⟨H,I.tok _,q⟩
 | ref p =>
   cases rx
   have e':(∃ xs,SqL X.K H p xs/\k = !xs.isEmpty)\/(∃ xs,SqT X.K H p xs/\k = !xs.isEmpty)\/∃ kvs,H p=some (.dK kvs)/\k = !kvs.isEmpty:=e
   rcases e' with ⟨xs,hx,e'⟩ | ⟨xs,hx,e'⟩ | ⟨kvs,hx,e'⟩
   ·subst e'
    obtain⟨its,r,pl,hz⟩:=I.list hx
    have hlen:=r.length
    exact wpAny_truthy_list pl.isList (by simp only [List.size_toArray]; lia) ⟨H,I.tok _,by rw [isEmpty_of r]; exact q⟩
   ·subst e'
    obtain⟨its,r,pl,hz⟩:=I.tuple hx
    have hlen:=r.length
    exact truthy_tuple pl (by simp only [List.size_toArray]; lia) ⟨H,I.tok _,by rw [isEmpty_of r]; exact q⟩
   ·subst e'
    obtain⟨hz,hS,vs,r,m⟩:kvs.length<=sizeLine/\(p == sysModules)=false/\∃ vs,KV kvs vs/\s.heap.DictOf (mixKind X.prog X.w) p vs:=I.hok p _ hx
    have hlen:kvs.length=vs.length:=Paired.length r
    exact wpAny_truthy_dict hS m (by lia) ⟨H,I.tok _,by rw [isEmpty_kv r]; exact q⟩
 | _=>exact (show False from e).elim
theorem pt_truth (ha:PE X a ta) (he:∀ whole,isTrue a X.env whole=(do let v <- whole; standAt a.pos; holding [v] (truthy v))) :
 PT X a (fun σ H Q=>ta σ H fun x H'=>∃ k,TruV X.K x H' k/\Q k H'):=by
 walk_at"z3"
 exact isTrue_plain (thn (ha pins s σ H _ I h) fun v s1 ⟨x,H1,I1,r1,q1⟩=>tru_ok pins s1 σ H1 x v Q I1 r1 q1) (he _)
theorem op_add_str:OpR X (binaryOp .Add) (fun x y H Q=>∃ i j,x=.str i/\y=.str j/\i.length+j.length<=sizeLine/\Q (.str (i++j)) H):=by
 walk_at"z7"
 obtain⟨i,j,rfl,rfl,hz,q⟩:=h
 walk_at"z13"
 obtain⟨t',rfl⟩:=ry
 exact add_str (fun t' tk=>⟨.str (i++j),H,I.tok _,⟨_,rfl⟩,q⟩) hz
theorem vals1 {x:V} {us:List Value} (r:Vals [x] us):∃ u,us=[u]/\RelV x u:=by
 cases r with
 | cons r1 r2=>cases r2; exact⟨_,rfl,r1⟩
theorem vals2 {x y:V} {us:List Value} (r:Vals [x,y] us):∃ u w',us=[u,w']/\RelV x u/\RelV y w':=by
 cases r with
 | cons r1 r2 =>
   cases r2 with
   | cons r3 r4=>cases r4; exact⟨_,_,rfl,r1,r3⟩
theorem call_abs:CallR X (.builtin "abs") (fun xs H Q=>∃ i,xs=[.int i]/\Q (.int (if i<0 then -i else i)) H):=by
 walk_at"z12"
 obtain⟨i,rfl,q⟩:=h
 obtain⟨u,rfl,t,rfl⟩:=vals1 r
 exact call_abs_int fun u tk=>⟨.int (if i<0 then -i else i),H,I.tok _,⟨_,rfl⟩,q⟩
theorem call_max2 (hc:X.calm=true):CallR X (.builtin "max") (fun xs H Q=>∃ i j,xs=[.int i,.int j]/\Q (.int (if j > i then j else i)) H):=by
 walk_at"z12"
 obtain⟨i,j,rfl,q⟩:=h
 obtain⟨u,w',rfl,⟨t,rfl⟩,⟨t',rfl⟩⟩:=vals2 r
 refine max_two_ints (I.ok.hd hc) fun h' tk k=>⟨_,H,I.kept k,?_,q⟩
 by_cases hj:j > i
 ·rw [if_pos hj,if_pos hj]; exact⟨_,rfl⟩
 ·rw [if_neg hj,if_neg hj]; exact⟨_,rfl⟩
theorem call_min2 (hc:X.calm=true):CallR X (.builtin "min") (fun xs H Q=>∃ i j,xs=[.int i,.int j]/\Q (.int (if j<i then j else i)) H):=by
 walk_at"z12"
 obtain⟨i,j,rfl,q⟩:=h
 obtain⟨u,w',rfl,⟨t,rfl⟩,⟨t',rfl⟩⟩:=vals2 r
 refine min_two_ints (I.ok.hd hc) fun h' tk k=>⟨_,H,I.kept k,?_,q⟩
 by_cases hj:j<i
 ·rw [if_pos hj,if_pos hj]; exact⟨_,rfl⟩
 ·rw [if_neg hj,if_neg hj]; exact⟨_,rfl⟩
theorem call_int1:CallR X (.type "int") (fun xs H Q=>(∃ i,xs=[.int i]/\Q (.int i) H)\/∃ k,xs=[.bl k]/\Q (.int (if k then 1 else 0)) H):=by
 walk_at"z12"
 rcases h with ⟨i,rfl,q⟩ | ⟨k,rfl,q⟩
 ·obtain⟨u,rfl,t,rfl⟩:=vals1 r
  exact call_int_int ⟨.int i,H,I,⟨_,rfl⟩,q⟩
 ·obtain⟨u,rfl,r1⟩:=vals1 r
  cases r1
  exact call_int_bool ⟨.int (if k then 1 else 0),H,I.tok _,⟨_,rfl⟩,q⟩
theorem call_str_int:CallR X (.type "str") (fun xs H Q=>∃ i,xs=[.int i]/\i.natAbs.log2<1920/\Q (.str (toString i)) H):=by
 walk_at"z12"
 obtain⟨i,rfl,hz,q⟩:=h
 obtain⟨u,rfl,t,rfl⟩:=vals1 r
 exact PySem.P.str_of_int hz ⟨.str _,H,I.tok _,⟨_,rfl⟩,q⟩
def LenV (K:PySem.W.Frag) (x:V) (H:Hp) (n:Nat):Prop :=
 match x with
 | .str y=>y.length<=sizeLine/\n=y.length
 | .byt y=>y.size<=sizeLine/\n=y.size
 | .ref p=>(∃ xs,SqL K H p xs/\n=xs.length)\/∃ xs,SqT K H p xs/\n=xs.length
 | _=>False
theorem call_len:CallR X (.builtin "len") (fun xs H Q=>∃ x n,xs=[x]/\LenV X.K x H n/\Q (.int n) H):=by
 walk_at"z12"
 obtain⟨x,n,rfl,e,q⟩:=h
 obtain⟨u,rfl,rx⟩:=vals1 r
 have hl:=line63
 have hs:sizeLine=16777216:=sizeLine_eq
 cases x with
 | str y =>
   walk_at"z13"
   obtain⟨hy,e'⟩:y.length<=sizeLine/\n=y.length:=e
   subst e'
   exact len_str (by lia) ⟨.int _,H,I.tok _,⟨_,rfl⟩,q⟩
 | byt y =>
   walk_at"z13"
   obtain⟨hy,e'⟩:y.size<=sizeLine/\n=y.size:=e
   subst e'
   exact PySem.W.len_bytes (by lia) ⟨.int _,H,I.tok _,⟨_,rfl⟩,q⟩
 | ref p =>
   cases rx
   have e':(∃ xs,SqL X.K H p xs/\n=xs.length)\/∃ xs,SqT X.K H p xs/\n=xs.length:=e
   rcases e' with ⟨xs,hx,e'⟩ | ⟨xs,hx,e'⟩
   ·subst e'
    obtain⟨its,r',pl,hz⟩:=I.list hx
    have hlen:=r'.length
    exact Calls.call_len_list pl.isList (by simp only [List.size_toArray]; lia) ⟨.int xs.length,H,I.tok _,⟨_,by simp only [List.size_toArray]; rw [hlen]⟩,q⟩
   ·subst e'
    obtain⟨its,r',pl,hz⟩:=I.tuple hx
    have hlen:=r'.length
    exact len_tuple pl (by simp only [List.size_toArray]; lia) ⟨.int xs.length,H,I.tok _,⟨_,by simp only [List.size_toArray]; rw [hlen]⟩,q⟩
 | _=>exact (show False from e).elim
end
end L2
namespace L2
open PySem PySem.Spec PyProof.Rows
structure ObjM (h:Heap) (x dx C:Addr) (mA:Str->Option Value):Prop where
 obj:h.get? x=some (PySem.W.instObj C dx)
 ns:h.Ns1 dx mA
 ne:dx≠x
theorem lookIn_ns {h:Heap} {dx:Addr} {mA:Str->Option Value} (n:h.Ns1 dx mA):∃ od,h.get? dx=some od/\∀ name,PySem.W.lookIn name od=some (mA name):=by
 obtain⟨o,es,ep,ho,hd,hk,_,hm⟩:=n
 refine⟨o,ho,fun name=>?_⟩
 have e:=hm name
 unfold nsFind findBy at e
 rw [<- Array.find?_toList] at e
 unfold PySem.W.lookIn
 rw [hd]
 dsimp only
 split
 ·rename_i y q
  rw [q] at e
  exact congrArg some e
 ·rename_i q
  rw [q] at e
  have a:es.toList.any (·.refKey)=false:=by
   rw [List.any_eq_false]
   intro y hy
   obtain⟨z,t,hkey⟩:=hk y (Array.mem_toList_iff.mp hy)
   simp [DictEntry.refKey,hkey]
  have a':¬ es.toList.any (·.refKey)=true:=by rw [a]; exact Bool.false_ne_true
  rw [if_neg a']
  exact congrArg some e
theorem ObjM.look {h:Heap} {x dx C:Addr} {mA:Str->Option Value} (I:ObjM h x dx C mA):∃ od,PySem.W.InstAt h x (PySem.W.instObj C dx) C (some od)/\∀ name,PySem.W.lookIn name od=some (mA name) :=
 let ⟨od,ho,hl⟩:=lookIn_ns I.ns
 ⟨od,⟨I.obj,rfl,rfl,ho⟩,hl⟩
section
variable {prog:Program} {w:World} {A:Around} {E:Value->Shared->Prop} {s:Shared} {K:PySem.W.Frag} {x dx C f:Addr} {mA:Str->Option Value} {name:Str} {v:Value}
theorem get_map {expr:Bool} {Q:Value->Shared->Prop} (X:K.In s.heap) (I:ObjM s.heap x dx C mA) (hg:PySem.W.plainGet K C name=true) (hh:PySem.W.hasDictIn K C=true)
 (ha:PySem.W.findIn K (.ref C) name=some none) (hv:mA name=some v) (hv':PySem.W.handedIn v=true) (h:Q v { s with toks:=s.toks+1 }) :
 wpAny (model prog w) A (getAttr (.ref x) name expr) Q E s:=by
 obtain⟨od,J,hl⟩:=I.look
 exact PySem.W.get_value X J (PySem.W.plainGet_of hg).1 (PySem.W.findObj_own hh ha rfl (by rw [hl,hv])) hv' h
theorem get_meth {pl:Sem Bool} {Q:Value×List Value->Shared->Prop} (X:K.In s.heap) (I:ObjM s.heap x dx C mA) (hg:PySem.W.plainGet K C name=true)
 (hf:PySem.W.findIn K (.ref C) name=some (some (.ref f))) (ht:PySem.W.isFn K (.ref f)=true) (hv:mA name=none) (h:Q (.ref f,[.ref x]) s) :
 wpAny (model prog w) A (getMethod (.ref x) name pl) Q E s:=by
 obtain⟨od,J,hl⟩:=I.look
 exact PySem.W.method_fn X J (PySem.W.plainGet_of hg).1 (PySem.W.plainGet_of hg).2 hf (beq_iff_eq.mp ht) (by show (PySem.W.lookIn name od).map (·.isSome)=some false; rw [hl,hv]; rfl) h
theorem set_map {ns:List Str} {Q:Unit->Shared->Prop} (X:K.In s.heap) (I:ObjM s.heap x dx C mA)
 (hs:PySem.W.findIn K (.ref C) "__setattr__" = some (some (.builtin "object.__setattr__"))) (hp:PySem.W.plainOver K C=true) (ht:PySem.W.takerIn K C name=some none) (hh:PySem.W.hasDictIn K C=true)
 (hw:PySem.Within mA ns) (hsz:ns.length<=sizeLine)
 (h:∀ h',ObjM h' x dx C (fun y=>if y=name then some v else mA y)->Heap.SameBut dx s.heap h'->Q () { s with heap:=h',toks:=s.toks+2 }) :
 wpAny (model prog w) A (setAttr (.ref x) name v) Q E s:=by
 obtain⟨od,J,hl⟩:=I.look
 refine PySem.W.set_plain X J hs (PySem.W.osa_open (s:={ s with toks:=s.toks+1 }) (r:=none) X J hp ht fun b=>?_)
 obtain⟨cd,hc,hd'⟩:=PySem.W.any_some hh
 have hx:s.heap.get? x=some ⟨.ref C,some dx,.plain,#[]⟩:=I.obj
 refine wpAny_bind (wpAny_pure (wpAny_bind (wpAny_bind (wpAny_loadPart hx (wpAny_bind (PySem.W.Looks.here (s:={ s with toks:=s.toks+1 }) (PySem.W.looks_clsIn X hc) ?_))))))
 rw [hd']
 refine wpAny_pure (a:=some dx) (wpAny_bind (wpAny_pure (wpAny_bind ?_)))
 refine wpAny_nsSet1 (s:={ s with toks:=s.toks+1 }) I.ns fun h' hn2 hs2=>?_
 obtain⟨oD,esD,epD,hoD,hdD,hcD⟩:=hn2.count (PySem.Within.cons name v hw)
 refine wpAny_bind (wpAny_lookBehind hoD (by rw [hdD]; exact pastItsLine_dict (Nat.le_trans hcD (by rw [List.length_cons]; lia))) ?_)
 exact wpAny_pure (h _ ⟨(hs2.2 _ (Ne.symm I.ne)).trans I.obj,hn2,I.ne⟩ hs2)
theorem make_map {R:Result->Shared->Prop} {vs:List Value} {kw:List (Str×Value)} (X:K.In s.heap) (hm:PySem.W.makesIn K C=true)
 (hi:PySem.W.findIn K (.ref C) "__init__" = some (some (.ref f))) (hf:PySem.W.typeIn K (.ref f)=some (.type "function"))
 (h:codeAny (model prog w) (A.under (.builtin "type.__call__" ⟨.ref C :: vs,kw⟩)) (.call (.ref f) ⟨.ref (s.heap.objs.size+1) :: vs,kw⟩) (PySem.W.InitBack (s.heap.objs.size+1) R)
  { s with heap:=(s.heap.push PySem.W.emptyDict).push (PySem.W.instObj C s.heap.objs.size) }) :
 codeAny (model prog w) A (.call (.ref C) ⟨vs,kw⟩) R s:=by
 obtain⟨hh,g,d,t,os⟩:=s
 exact PySem.W.make_core (PySem.W.makes_of X hm) (PySem.W.looks_findIn X hi) (fun self=>PySem.W.bind_fn X self hf) (.inl rfl) h
end
def putF (f:Str) (v:V):List (Str×V)->List (Str×V)
 | []=>[(f,v)]
 | (g,x) :: r=>if g=f then (g,v) :: r else (g,x) :: putF f v r
theorem lookup_putF (f g:Str) (v:V):∀ fs:List (Str×V),(putF f v fs).lookup g=if g=f then some v else fs.lookup g
 | []=>by
   show List.lookup g [(f,v)]=_
   by_cases h:g=f
   ·have hb:(g == f)=true:=beq_iff_eq.mpr h
    simp only [List.lookup,hb,if_pos h]
   ·have hb:(g == f)=false:=beq_eq_false_iff_ne.mpr h
    simp only [List.lookup,hb,if_neg h]
 | (k,x) :: r=>by
   have ih:=lookup_putF f g v r
   rw [show putF f v ((k,x) :: r)=(if k=f then (k,v) :: r else (k,x) :: putF f v r) from rfl]
   by_cases hk:k=f
   ·rw [if_pos hk]
    by_cases h:g=k
    ·have hb:(g == k)=true:=beq_iff_eq.mpr h
     simp only [List.lookup,hb,if_pos (h.trans hk)]
    ·have hb:(g == k)=false:=beq_eq_false_iff_ne.mpr h
     simp only [List.lookup,hb,if_neg (fun e:g=f=>h (e.trans hk.symm))]
   ·rw [if_neg hk]
    by_cases h:g=k
    ·have hb:(g == k)=true:=beq_iff_eq.mpr h
     simp only [List.lookup,hb,if_neg (fun e:g=f=>hk (h.symm.trans e))]
    ·have hb:(g == k)=false:=beq_eq_false_iff_ne.mpr h
     simp only [List.lookup,hb]
     exact ih
theorem keys_putF (f:Str) (v:V):∀ fs:List (Str×V),f∈(putF f v fs).map (·.1)/\∀ g,g∈fs.map (·.1)->g∈(putF f v fs).map (·.1)
 | []=>⟨by simp [putF],fun g h=>by simp at h⟩
 | (k,x) :: r=>by
   obtain⟨i1,i2⟩:=keys_putF f v r
   rw [show putF f v ((k,x) :: r)=(if k=f then (k,v) :: r else (k,x) :: putF f v r) from rfl]
   by_cases hk:k=f
   ·rw [if_pos hk]
    subst hk
    exact⟨by simp,fun g h=>by simpa using h⟩
   ·rw [if_neg hk]
    refine⟨?_,fun g h=>?_⟩
    ·rw [List.map_cons]
     exact List.mem_cons_of_mem _ i1
    ·rw [List.map_cons] at h ⊢
     rcases List.mem_cons.mp h with e | e
     ·exact List.mem_cons.mpr (.inl e)
     ·exact List.mem_cons_of_mem _ (i2 g e)
theorem length_putF (f:Str) (v:V):∀ fs:List (Str×V),(putF f v fs).length<=fs.length+1
 | []=>by simp [putF]
 | (k,x) :: r=>by
   have ih:=length_putF f v r
   rw [show putF f v ((k,x) :: r)=(if k=f then (k,v) :: r else (k,x) :: putF f v r) from rfl]
   by_cases hk:k=f
   ·rw [if_pos hk,List.length_cons,List.length_cons]; lia
   ·rw [if_neg hk,List.length_cons,List.length_cons]; lia
theorem RelO.some_of {v:V} {o:Option Value} (r:RelO (some v) o):∃ u,o=some u/\RelV v u:=by
 cases o with
 | none=>exact (show False from r).elim
 | some u=>exact⟨u,rfl,r⟩
theorem RelO.none_of {o:Option Value} (r:RelO none o):o=none:=by
 cases o with
 | none=>rfl
 | some u=>exact (show False from r).elim
theorem handed_of {v:V} {u:Value} (r:RelV v u):PySem.W.handedIn u=true:=by
 cases v with
 | non=>cases (show u=Value.none from r); rfl
 | bl b=>cases (show u=Value.bool b from r); rfl
 | int i=>obtain⟨t,e⟩:=(show ∃ t,u=Value.int i t from r); cases e; rfl
 | str x=>obtain⟨t,e⟩:=(show ∃ t,u=Value.str x t from r); cases e; rfl
 | byt b=>obtain⟨t,e⟩:=(show ∃ t,u=Value.bytes b t from r); cases e; rfl
 | flt b=>obtain⟨t,e⟩:=(show ∃ t,u=Value.float b t from r); cases e; rfl
 | ref a=>cases (show u=Value.ref a from r); rfl
 | ty n=>cases (show u=Value.type n from r); rfl
section
variable {P:Program} {w:World} {H H':Hp} {h h':Heap} {a C dx:Addr} {fs fs':List (Str×V)}
theorem ins_get (hok:HOk P w H h) (e:H a=some (.ins C dx fs)):∃ mA,ObjM h a dx C mA/\(∀ f,RelO (fs.lookup f) (mA f))/\PySem.Within mA (fs.map (·.1))/\fs.length<=1000/\H dx=some (.own a):=by
 obtain⟨d,z,ne,ob,mA,n,r,q⟩:=(show ObjOk P w H h a (.ins C dx fs) from hok a _ e)
 exact⟨mA,⟨ob,n,ne⟩,r,q,z,d⟩
end
structure Cls (K:PySem.W.Frag) (C:Addr):Prop where
 pg:PySem.W.plainGet K C Str.empty=true
 hd:PySem.W.hasDictIn K C=true
 po:PySem.W.plainOver K C=true
 sa:PySem.W.findIn K (.ref C) "__setattr__" = some (some (.builtin "object.__setattr__"))
theorem Cls.get {K:PySem.W.Frag} {C:Addr} (c:Cls K C) (f:Str):PySem.W.plainGet K C f=true:=c.pg
def NoAttr (K:PySem.W.Frag) (C:Addr) (f:Str):Prop:=PySem.W.findIn K (.ref C) f=some none
theorem NoAttr.taker {K:PySem.W.Frag} {C:Addr} {f:Str} (n:NoAttr K C f):PySem.W.takerIn K C f=some none:=by
 unfold PySem.W.takerIn
 rw [show PySem.W.findIn K (.ref C) f=some none from n]
 rfl
structure Con (K:PySem.W.Frag) (C:Addr) (f:Str) (v:V) (u:Value):Prop where
 at_:PySem.W.findIn K (.ref C) f=some (some u)
 rel:RelV v u
 get:PySem.W.specialIn K u "__get__" = some none
 cp:PySem.W.copiedNames.contains f=false
structure Meth (K:PySem.W.Frag) (C:Addr) (m:Str) (f:Addr):Prop where
 at_:PySem.W.findIn K (.ref C) m=some (some (.ref f))
 fn:PySem.W.isFn K (.ref f)=true
 kp:PySem.W.keepIn K (.ref f)=true
section
variable {X:Cx} {pins:List (Addr×Obj)} {σ:St} {H:Hp} {s:Shared} {a C dx:Addr} {fs:List (Str×V)} {f:Str} {v:V} {A:Around} {E:Value->Shared->Prop}
theorem getattr_ok {b:Bool} {Q:Value->Shared->Prop} (I:Inv X pins σ H s) (e:H a=some (.ins C dx fs)) (c:Cls X.K C) (n:NoAttr X.K C f) (l:fs.lookup f=some v)
 (h:∀ u s',Inv X pins σ H s'->RelV v u->Q u s'):wpAny (model X.prog X.w) A (getAttr (.ref a) f b) Q E s:=by
 obtain⟨mA,O,r,_,_,_⟩:=ins_get I.hok e
 obtain⟨u,hu,ru⟩:=RelO.some_of (v:=v) (o:=mA f) (by rw [<- l]; exact r f)
 exact get_map I.kIn O (c.get f) c.hd n hu (handed_of ru) (h u _ (I.tok _) ru)
theorem getmeth_ok {m:Str} {g:Addr} {pl:Sem Bool} {Q:Value×List Value->Shared->Prop} (I:Inv X pins σ H s) (e:H a=some (.ins C dx fs)) (c:Cls X.K C) (k:Meth X.K C m g) (l:fs.lookup m=none)
 (h:Q (.ref g,[.ref a]) s):wpAny (model X.prog X.w) A (getMethod (.ref a) m pl) Q E s:=by
 obtain⟨mA,O,r,_,_,_⟩:=ins_get I.hok e
 have hn:mA m=none:=RelO.none_of (by rw [<- l]; exact r m)
 exact get_meth I.kIn O (c.get m) k.at_ k.fn hn h
theorem setattr_ok {y:V} {u:Value} {Q:Unit->Shared->Prop} (I:Inv X pins σ H s) (e:H a=some (.ins C dx fs)) (c:Cls X.K C) (n:NoAttr X.K C f) (hl:fs.length<1000) (ry:RelV y u)
 (h:∀ s',Inv X pins σ (upd H a (.ins C dx (putF f y fs))) s'->Q () s'):wpAny (model X.prog X.w) A (setAttr (.ref a) f u) Q E s:=by
 obtain⟨mA,O,r,wi,_,ho⟩:=ins_get I.hok e
 have hz:(fs.map (·.1)).length<=sizeLine:=by rw [List.length_map,sizeLine_eq]; lia
 refine set_map I.kIn O c.sa c.po n.taker c.hd wi hz fun h' O' sb=>h _ ?_
 have hd:∃ o,h'.get? dx=some o:=let ⟨o,_,_,e',_⟩:=O'.ns; ⟨o,e'⟩
 refine I.write (x:=a) (e:=dx) (by rw [e]; exact True.intro) (.inr ho) (fun b q hb z=>(sb.2 b hb).trans z) hd ?_
 refine⟨by rw [upd_ne O.ne]; exact ho,?_,O.ne,O'.obj,_,O'.ns,fun g=>?_,fun g hg=>?_⟩
 ·have:=length_putF f y fs; lia
 ·show RelO ((putF f y fs).lookup g) (if g=f then some u else mA g)
  rw [lookup_putF]
  by_cases q:g=f
  ·rw [if_pos q,if_pos q]; exact ry
  ·rw [if_neg q,if_neg q]; exact r g
 ·by_cases q:g=f
  ·rw [q]; exact (keys_putF f y fs).1
  ·refine (keys_putF f y fs).2 g (wi g fun z=>hg ?_)
   show (if g=f then some u else mA g)=none
   rw [if_neg q]; exact z
theorem Inv.made (I:Inv X pins σ H s):Inv X pins σ (upd (upd H s.heap.objs.size (.own (s.heap.objs.size+1))) (s.heap.objs.size+1) (.ins C s.heap.objs.size []))
 { s with heap:=(s.heap.push PySem.W.emptyDict).push (PySem.W.instObj C s.heap.objs.size) }:=by
 have e1:(s.heap.push PySem.W.emptyDict).get? s.heap.objs.size=some PySem.W.emptyDict:=Heap.get?_push_size s.heap rfl
 have e2:((s.heap.push PySem.W.emptyDict).push (PySem.W.instObj C s.heap.objs.size)).get? (s.heap.objs.size+1)=some (PySem.W.instObj C s.heap.objs.size):=by
  have:=Heap.get?_push_size (s.heap.push PySem.W.emptyDict) (o:=PySem.W.instObj C s.heap.objs.size) rfl
  rwa [Heap.size_push] at this
 have e3:(s.heap.push PySem.W.emptyDict).Ns s.heap.objs.size (fun _=>none):=⟨PySem.W.emptyDict,#[],_,e1,rfl,(fun e he=>absurd he (by simp)),fun _=>rfl⟩
 have I1:=I.laid (a:=s.heap.objs.size) (o:=.own (s.heap.objs.size+1)) (h':=s.heap.push PySem.W.emptyDict) (t':=s.toks) (fun b u q=>Heap.get?_push_of_some _ q) (Nat.le_refl _) ⟨_,e1⟩
 refine I1.laid (a:=s.heap.objs.size+1) (o:=.ins C s.heap.objs.size []) (t':=s.toks) (fun b u q=>Heap.get?_push_of_some _ q) (Nat.le_of_eq (Heap.size_push _ _)) ?_
 have ne:s.heap.objs.size≠s.heap.objs.size+1:=Nat.ne_of_lt (Nat.lt_succ_self _)
 refine⟨by rw [upd_ne ne,upd_same],Nat.zero_le _,ne,e2,fun _=>none,(Heap.Ns1.of_empty e3).at fun o q=>Heap.get?_push_of_some _ q,fun _=>True.intro,fun y hy=>absurd rfl hy⟩
theorem attr_of {prog:Program} {w:World} {env:Env} {e:Expr} {f:Str} {pos:Pos} {s:Shared} {Q:Value->Shared->Prop} (hb:attributeBase e f env (eval e env)=eval e env)
 (h:wpAny (model prog w) A (eval e env) (fun o s₁=>wpAny (model prog w) A (getAttr o f true) Q E s₁) E s):wpAny (model prog w) A (eval (.Attribute e f pos) env) Q E s :=
 Attribute_any_ h (by rw [arm_eval_Attribute,hb])
end
def tFld (K:PySem.W.Frag) (ta:TE) (f:Str):TE:=fun σ H Q=>ta σ H fun x H1=>∃ a C dx fs v,x=.ref a/\H1 a=some (.ins C dx fs)/\Cls K C/\NoAttr K C f/\fs.lookup f=some v/\Q v H1
def sFld (K:PySem.W.Frag) (ta tv:TE) (f:Str):TS:=fun D σ H=>tv σ H fun y H1=>ta σ H1 fun x H2=>∃ a C dx fs,x=.ref a/\H2 a=some (.ins C dx fs)/\Cls K C/\NoAttr K C f/\fs.length<1000 /\
 D.nx σ (upd H2 a (.ins C dx (putF f y fs)))
section
variable {X:Cx} {o e value:Expr} {f:Str} {pos pos' tpos:Pos} {ta tv:TE}
theorem pe_fld (he:PE X e ta) (hb:attributeBase e f X.env (eval e X.env)=eval e X.env):PE X (.Attribute e f pos) (tFld X.K ta f):=by
 walk_at"z3"
 refine attr_of hb (thn (he pins s σ H _ I h) fun u s1 ⟨x,H1,I1,rx,a,C,dx,fs,v,ex,ea,c,n,l,q⟩=>?_)
 subst ex
 obtain rfl:u=Value.ref a:=rx
 exact getattr_ok I1 ea c n l fun u' s2 I2 ru=>⟨v,H1,I2,ru,q⟩
theorem ps_fld (ha:PE X o ta) (hv:PE X value tv) (hs:swapsWith value (some (.Attribute o f pos')) pos.line X.env=pure false):PS X (.Assign [.Attribute o f pos'] value pos) (sFld X.K ta tv f):=by
 intro pins s σ H D I h
 refine plainObj_wpAny_Assign_Attribute (thn (hv pins s σ H _ I h) fun u s1 ⟨y,H1,I1,ry,q⟩=>thn (ha pins s1 σ H1 _ I1 q) fun ov s2 ⟨x,H2,I2,rx,a,C,dx,fs,ex,ea,c,n,l,q2⟩=>?_) hs
 subst ex
 obtain rfl:ov=Value.ref a:=rx
 exact setattr_ok I2 ea c n l ry fun s3 I3=>⟨σ,_,I3,q2⟩
end
section
variable {X:Cx} {pins:List (Addr×Obj)} {σ:St} {H:Hp} {s:Shared} {A:Around} {E:Value->Shared->Prop} {Q:Value->Shared->Prop} {c:Value} {b:Bool}
inductive TyOf (K:PySem.W.Frag) (H:Hp):V->Value->Prop where
 | non:TyOf K H .non (.type "NoneType")
 | bl (x:Bool):TyOf K H (.bl x) (.type "bool")
 | int (i:Int):TyOf K H (.int i) (.type "int")
 | str (x:Str):TyOf K H (.str x) (.type "str")
 | flt (x:UInt64):TyOf K H (.flt x) (.type "float")
 | lst {a:Addr} {xs:List V} (e:H a=some (.lst xs)):TyOf K H (.ref a) (.type "list")
 | frz {a:Addr} {o:Obj} {xs:List V} (e:H a=some (.frz o (.lst xs))):TyOf K H (.ref a) (.type "list")
 | tup {a:Addr} {xs:List V} (e:H a=some (.tup xs)):TyOf K H (.ref a) (.type "tuple")
 | dK {a:Addr} {kvs:List (Key×V)} (e:H a=some (.dK kvs)):TyOf K H (.ref a) (.type "dict")
 | dT {a:Addr} {kvs:List (List Key×V)} (e:H a=some (.dT kvs)):TyOf K H (.ref a) (.type "dict")
 | ins {a C dx:Addr} {fs:List (Str×V)} (e:H a=some (.ins C dx fs)) (cl:Cls K C) (ha:PySem.W.findIn K (.ref C) "__class__" = some (some (.builtin "object.__class__")))
  (hn:PySem.W.specialIn K (.builtin "object.__class__") "__get__" = some (some (.builtin "getset_descriptor.__get__"))) (htk:PySem.W.takesIn K (.builtin "object.__class__")=some true)
  (hm:PySem.W.mroIn K C (.type "object")=some true):TyOf K H (.ref a) (.ref C)
theorem isinst_ok {x:V} {u t:Value} (I:Inv X pins σ H s) (rx:RelV x u) (ty:TyOf X.K H x t) (e:PySem.W.kitOne X.K t c=some b) (h:∀ tk,Q (.bool b) { s with toks:=tk }) :
 wpAny (model X.prog X.w) A (call (.builtin "isinstance") [u,c]) Q E s:=by
 cases ty with
 | non=>cases (show u=Value.none from rx); exact PySem.W.kia_one PySem.W.kitx_none I.kIn True.intro e (fun z=>nomatch z) h
 | bl y=>cases (show u=Value.bool y from rx); exact PySem.W.kia_one PySem.W.kitx_bool I.kIn True.intro e (fun z=>nomatch z) h
 | int i=>obtain⟨t,q⟩:=(show ∃ t,u=Value.int i t from rx); cases q; exact PySem.W.kia_one PySem.W.kitx_int I.kIn True.intro e (fun z=>nomatch z) h
 | str y=>obtain⟨t,q⟩:=(show ∃ t,u=Value.str y t from rx); cases q; exact PySem.W.kia_one PySem.W.kitx_str I.kIn True.intro e (fun z=>nomatch z) h
 | flt y=>obtain⟨t,q⟩:=(show ∃ t,u=Value.float y t from rx); cases q; exact PySem.W.kia_one PySem.W.kitx_float I.kIn True.intro e (fun z=>nomatch z) h
 | @lst a xs ea =>
   cases (show u=Value.ref a from rx)
   obtain⟨_,_,n,_,h1⟩:=(show ObjOk X.prog X.w H s.heap a (.lst xs) from I.hok a _ ea)
   exact PySem.W.kia_one PySem.W.kitx_list I.kIn ⟨_,h1,rfl⟩ e (fun z=>nomatch z) h
 | @frz a ob xs ea =>
   cases (show u=Value.ref a from rx)
   obtain⟨_,_,_,n,_,h1⟩:=(show ObjOk X.prog X.w H s.heap a (.frz ob (.lst xs)) from I.hok a _ ea)
   exact PySem.W.kia_one PySem.W.kitx_list I.kIn ⟨_,h1,rfl⟩ e (fun z=>nomatch z) h
 | @tup a xs ea =>
   cases (show u=Value.ref a from rx)
   obtain⟨_,_,_,p⟩:=(show ObjOk X.prog X.w H s.heap a (.tup xs) from I.hok a _ ea)
   obtain⟨o,h1,h2,_⟩:=p
   exact PySem.W.kia_one PySem.W.kitx_tuple I.kIn ⟨o,h1,h2⟩ e (fun z=>nomatch z) h
 | @dK a kvs ea =>
   cases (show u=Value.ref a from rx)
   obtain⟨_,_,vs,_,p⟩:=(show ObjOk X.prog X.w H s.heap a (.dK kvs) from I.hok a _ ea)
   obtain⟨o,es,ep,h1,h2,_⟩:=p
   exact PySem.W.kia_one PySem.W.kitx_dict I.kIn ⟨o,h1,h2.1⟩ e (fun z=>nomatch z) h
 | @dT a kvs ea =>
   cases (show u=Value.ref a from rx)
   obtain⟨_,_,xs,_,o,es,ep,h1,h2,_⟩:=(show ObjOk X.prog X.w H s.heap a (.dT kvs) from I.hok a _ ea)
   exact PySem.W.kia_one PySem.W.kitx_dict I.kIn ⟨o,h1,h2.1⟩ e (fun z=>nomatch z) h
 | @ins a C dx fs ea cl ha hn htk hm =>
   cases (show u=Value.ref a from rx)
   obtain⟨mA,O,_⟩:=ins_get I.hok ea
   obtain⟨od,J,_⟩:=O.look
   exact PySem.W.kia_one (PySem.W.kitx_own (cl.get _) cl.hd ha hn htk hm) I.kIn J e (fun z=>nomatch z) h
end
end L2
namespace L2
open PySem PySem.Spec PyProof.Rows
structure Room (k:Nat) (A:Around):Prop where
 hd:A.handled=none
 dp:A.depth+3*k+5<recursionLimit
 un:A.units+16*k+200<cLine
theorem Room.mono {j k:Nat} {A:Around} (r:Room k A) (h:j<=k):Room j A:=⟨r.hd,by have:=r.dp; lia,by have:=r.un; lia⟩
theorem Room.deeper {k:Nat} {A:Around} (r:Room (k+1) A) (env:Env):Room k (A.deeper env) :=
 ⟨r.hd,by have:=r.dp; show A.depth+1+3*k+5<_; lia,by have:=r.un; show A.units+3+16*k+200<_; lia⟩
theorem make_depth {A:Around} {C:Addr} {us:List Value} {kw:List (Str×Value)}:(A.under (.builtin "type.__call__" ⟨.ref C :: us,kw⟩)).depth=A.depth+1:=by
 first | rfl | simp [Around.under,Code.weight,Code.isCreation,Code.isGuard,Code.isCaller,Code.frames,Code.isFrame,guardIds]
theorem make_units {A:Around} {C:Addr} {us:List Value} {kw:List (Str×Value)}:(A.under (.builtin "type.__call__" ⟨.ref C :: us,kw⟩)).units=A.units+1:=by
 first | rfl | simp [Around.under,Code.cUnits,Code.frames,Code.isFrame]
theorem Room.make {k:Nat} {A:Around} (r:Room (k+1) A) (C:Addr) (us:List Value) (kw:List (Str×Value)):Room k (A.under (.builtin "type.__call__" ⟨.ref C :: us,kw⟩)) :=
 ⟨r.hd,by have:=r.dp; rw [make_depth]; lia,by have:=r.un; rw [make_units]; lia⟩
theorem Room.depth {k:Nat} {A:Around} (r:Room k A):A.depth<recursionLimit:=by have:=r.dp; lia
theorem Room.units {k:Nat} {A:Around} (r:Room k A):A.units+64<cLine:=by have:=r.un; lia
def tNil:TA:=fun _ H Q=>Q [] H
def tCons (ta:TE) (tr:TA):TA:=fun σ H Q=>ta σ H fun x H1=>tr σ H1 fun xs H2=>Q (x :: xs) H2
section
variable {X:Cx} {e:Expr} {es:List Expr} {te:TE} {t:TA} {pos:Pos}
theorem pa_nil:PA X [] tNil:=fun _ _ _ _ H Q I h=>Calls.spliced_nil ⟨[],H,I,.nil,h⟩
theorem pa_cons (ha:PE X e te) (hr:PA X es t) (hs:starEach (e :: es) X.env=(false,eval e X.env) :: starEach es X.env:=by rfl):PA X (e :: es) (tCons te t):=by
 intro pos pins s σ H Q I h
 rw [hs]
 show wpAny _ _ (spliced ((false,eval e X.env) :: backTo pos (starEach es X.env))) _ _ s
 refine Calls.spliced_cons (thn (ha pins s σ H _ I h) fun u s1 ⟨x,H1,I1,r1,q1⟩=>?_)
 exact thn (hr pos pins s1 σ H1 _ I1 q1) fun us s2 ⟨xs,H2,I2,r2,q2⟩=>⟨x :: xs,H2,I2,.cons r1 r2,q2⟩
def tTup (t:TA):TE:=fun σ H Q=>t σ H fun xs H1=>xs.length<=sizeLine/\∀ p,H1 p=none->Q (.ref p) (upd H1 p (.tup xs))
def tLst (t:TA):TE:=fun σ H Q=>t σ H fun xs H1=>xs.length<=sizeLine/\∀ p,H1 p=none->Q (.ref p) (upd H1 p (.lst xs))
theorem pe_tup {x1} (h:PA X es t):PE X (.Tuple es x1 pos) (tTup t):=by
 intro pins s σ H Q I hq
 refine wpAny_Tuple_spliced (thn (h pos pins s σ H _ I hq) fun us s1 ⟨xs,H1,I1,r,z,q⟩=>⟨by rw [<- r.length]; exact z,?_⟩)
 have hf:H1 s1.heap.objs.size=none:=I1.hok.fresh (Nat.le_refl _)
 refine⟨.ref s1.heap.objs.size,upd H1 s1.heap.objs.size (.tup xs),I1.laid (t':=s1.toks) (fun b u e=>Heap.get?_push_of_some _ e) (Nat.le_refl _) ?_,rfl,q _ hf⟩
 exact⟨z,us,r,⟨_,Heap.get?_push_size _ rfl,rfl,_,rfl⟩⟩
theorem pe_lst (h:PA X es t):PE X (.List es pos) (tLst t):=by
 intro pins s σ H Q I hq
 refine wpAny_List_spliced (thn (h pos pins s σ H _ I hq) fun us s1 ⟨xs,H1,I1,r,z,q⟩=>⟨by rw [<- r.length]; exact z,?_⟩)
 have hf:H1 s1.heap.objs.size=none:=I1.hok.fresh (Nat.le_refl _)
 refine⟨.ref s1.heap.objs.size,upd H1 s1.heap.objs.size (.lst xs),I1.laid (t':=s1.toks) (fun b u e=>Heap.get?_push_of_some _ e) (Nat.le_refl _) ?_,rfl,q _ hf⟩
 exact⟨z,us,0,r,Heap.get?_push_size _ rfl⟩
end
abbrev Sp:=List V->Hp->VK->XK->Prop
abbrev CXT:=List Env->Hp->Shared->XK->Value->Shared->Prop
structure Env0 (P:Program) (w:World) (K:PySem.W.Frag) (mg:Str->Option Value) (base:Heap) (A:Around) (outer:List Env) (s:Shared) (H:Hp):Prop where
 frames:A.frames=some outer
 mod:Mod K mg base
 bs:∀ b o,base.get? b=some o->s.heap.get? b=some o/\H b=none
 bsz:base.objs.size<=s.heap.objs.size
 funs:s.heap.FunFrames base outer
 frf:∀ b∈frs outer,H b=none
 hok:HOk P w H s.heap
 bare:AllBare s.gens
def CE (outer:List Env) (P:Program) (w:World) (H:Hp) (s:Shared) (Q:VK) (u:Value) (s':Shared):Prop :=
 ∃ v H',s'.os=s.os/\AllBare s'.gens/\Un (frs outer) [] H H' s.heap s'.heap/\HOk P w H' s'.heap/\RelV v u/\Q v H'
def CR (CX:CXT) (outer:List Env) (P:Program) (w:World) (H:Hp) (s:Shared) (Q:VK) (E:XK) (r:Result) (s':Shared):Prop :=
 match r with
 | .ok (.ret u)=>CE outer P w H s Q u s'
 | .ok _=>False
 | .error e=>CX outer H s E e s'
structure FnOk (P:Program) (w:World) (K:PySem.W.Frag) (mg:Str->Option Value) (base:Heap) (CX:CXT) (k:Nat) (f:Addr) (fd:FuncData) (ps:List Str) (sp:Sp):Prop where
 len:∀ vs H Q E,sp vs H Q E->vs.length=ps.length
 run:∀ (A:Around) (outer:List Env) (s:Shared) (H:Hp) (args:Args) (us:List Value) (vs:List V) (Q:VK) (E:XK),Room k A->Env0 P w K mg base A outer s H->BindsTo s fd args (ps.zip us)->Vals vs us->sp vs H Q E ->
  codeAny (model P w) A (.call (.ref f) args) (CR CX outer P w H s Q E) s
theorem FnOk.mono {P:Program} {w:World} {K:PySem.W.Frag} {mg:Str->Option Value} {base:Heap} {CX:CXT} {j k:Nat} {f:Addr} {fd:FuncData} {ps:List Str} {sp:Sp} (F:FnOk P w K mg base CX j f fd ps sp) (h:j<=k) :
 FnOk P w K mg base CX k f fd ps sp:=⟨F.len,fun A outer s H args us vs Q E hr=>F.run A outer s H args us vs Q E (hr.mono h)⟩
theorem Env0.make {P:Program} {w:World} {K:PySem.W.Frag} {mg:Str->Option Value} {base:Heap} {A:Around} {outer:List Env} {s:Shared} {H:Hp} (e:Env0 P w K mg base A outer s H) (C:Addr) (us:List Value) (kw:List (Str×Value)) :
 Env0 P w K mg base (A.under (.builtin "type.__call__" ⟨.ref C :: us,kw⟩)) outer s H:=⟨by first | exact e.frames | (simpa [Around.under,Code.envs,Code.isFrame,pushEnvs] using e.frames),e.mod,e.bs,e.bsz,e.funs,e.frf,e.hok,e.bare⟩
section
variable {X:Cx} {pins:List (Addr×Obj)} {σ:St} {H:Hp} {s s':Shared}
theorem Inv.env0 (I:Inv X pins σ H s):Env0 X.prog X.w X.K X.mg X.base X.A X.stack s H :=
 ⟨I.ok.frames,I.ok.mod,I.bs,Nat.le_trans I.ok.bsz I.sz,I.stack,I.stkFree,I.hok,I.bare⟩
theorem Inv.after {Q:VK} {u:Value} (I:Inv X pins σ H s) (h:CE X.stack X.prog X.w H s Q u s'):EP X pins σ Q u s':=by
 obtain⟨v,H',os,bare,un,hok,r,q⟩:=h
 obtain⟨hh,g,d,t,os'⟩:=s'
 obtain rfl:os'=s.os:=os
 exact⟨v,H',I.call (h':=hh) (g':=g) (d':=d) (t':=t) (ch:=[]) un hok bare (fun b z=>absurd z (by simp)),r,q⟩
end
def tCall (sp:Sp) (dvs:List V) (E:XK) (t:TA):TE:=fun σ H Q=>t σ H fun vs H1=>sp (vs++dvs) H1 Q E
def tMeth (C:Addr) (m:Str) (sp:Sp) (dvs:List V) (E:XK) (ta:TE) (t:TA):TE:=fun σ H Q=>ta σ H fun x H1=>∃ a dx fs,x=.ref a/\H1 a=some (.ins C dx fs)/\fs.lookup m=none /\
 t σ H1 fun vs H2=>sp (x :: (vs++dvs)) H2 Q E
def tMake (C:Addr) (sp:Sp) (dvs:List V) (E:XK) (t:TA):TE:=fun σ H Q=>t σ H fun vs H1=>∀ x dx,H1 x=none->H1 dx=none->dx≠x ->
 sp (.ref x :: (vs++dvs)) (upd (upd H1 dx (.own x)) x (.ins C dx [])) (fun v H2=>v=.non/\Q (.ref x) H2) E
def Binds (K:PySem.W.Frag) (fd:FuncData) (ps:List Str) (ds:List Value):Prop :=
 ∀ (s:Shared) (us:List Value),K.In s.heap->(us++ds).length=ps.length->BindsTo s fd ⟨us,[]⟩ (ps.zip (us++ds))
theorem Binds.all {K:PySem.W.Frag} {fd:FuncData} {ps:List Str} (h:∀ us:List Value,us.length=ps.length->bindArgs fd ⟨us,[]⟩=pure (ps.zip us)):Binds K fd ps []:=fun s us _ hl=>by
 rw [List.append_nil] at hl ⊢
 exact .of_eq (h us hl)
def Passes (CX:CXT) (X:Cx) (E:XK):Prop:=∀ (pins:List (Addr×Obj)) (σ:St) (H:Hp) (s:Shared) (e:Value) (s':Shared),Inv X pins σ H s->CX X.stack H s E e s'->X.xe e s'
section
variable {X:Cx} {CX:CXT} {k:Nat} {f C:Addr} {fd:FuncData} {ps:List Str} {sp:Sp} {dvs:List V} {ds:List Value} {E:XK} {x m:Str} {p pos apos:Pos} {e o:Expr} {es:List Expr} {ta:TE} {t:TA}
theorem run_fn {pins:List (Addr×Obj)} {σ:St} {H:Hp} {s:Shared} {Q:VK} {us:List Value} {vs:List V} (F:FnOk X.prog X.w X.K X.mg X.base CX k f fd ps sp) (hr:Room k X.A) (hb:Binds X.K fd ps ds) (hd:Vals dvs ds) (hx:Passes CX X E)
 (I:Inv X pins σ H s) (r:Vals vs us) (h:sp (vs++dvs) H Q E):wpAny (model X.prog X.w) X.A (call (.ref f) us) (EP X pins σ Q) X.xe s:=by
 have r2:Vals (vs++dvs) (us++ds):=r.append hd
 have hl:(us++ds).length=ps.length:=by rw [<- r2.length]; exact F.len _ _ _ _ h
 refine wpAny_call (codeAny_mono (F.run X.A X.stack s H ⟨us,[]⟩ (us++ds) (vs++dvs) Q E hr I.env0 (hb s us I.kIn hl) r2 h) fun r s' hq=>?_)
 cases r with
 | error e=>exact hx pins σ H s e s' I hq
 | ok fl =>
   cases fl with
   | ret u=>exact I.after hq
   | next=>exact False.elim hq
   | brk=>exact False.elim hq
   | cont=>exact False.elim hq
theorem pe_call (F:FnOk X.prog X.w X.K X.mg X.base CX k f fd ps sp) (hr:Room k X.A) (hg:Gl X x) (hm:X.mg x=some (.ref f)) (hk:PySem.W.keepIn X.K (.ref f)=true) (hb:Binds X.K fd ps ds) (hd:Vals dvs ds) (hx:Passes CX X E)
 (ha:PA X (e :: es) t) (hdb:(x == ("__debug__" : Str))=false:=by decide) (he:starEach (e :: es) X.env=(false,eval e X.env) :: starEach es X.env:=by rfl) (hpl:(backTo pos (starEach es X.env)).any (·.1)=false:=by rfl) :
 PE X (.Call (.Name x p) (e :: es) [] pos) (tCall sp dvs E t):=by
 walk_at"z3"
 refine wpAny_Call_Name_kw (ld_glob I hg hm ?_ hdb)
 refine PySem.W.callWith_K (h₀:=X.base) I.ok.mod.kin hk (thn (ha pos pins s σ H _ I h) fun us s1 ⟨vs,H1,I1,r,q⟩=>⟨I1.kIn,?_⟩) he hpl
 exact run_fn F hr hb hd hx I1 r q
theorem pe_meth {pl:Sem Bool} (he:PE X o ta) (c:Cls X.K C) (hm:Meth X.K C m f) (F:FnOk X.prog X.w X.K X.mg X.base CX k f fd ps sp) (hr:Room k X.A) (hb:Binds X.K fd ps ds) (hd:Vals dvs ds) (hx:Passes CX X E) (ha:PA X (e :: es) t)
 (hst:starEach (e :: es) X.env=(false,eval e X.env) :: starEach es X.env:=by rfl) (hpl:(backTo pos (starEach es X.env)).any (·.1)=false:=by rfl)
 (ht:eval (.Call (.Attribute o m apos) (e :: es) [] pos) X.env=(do
  let ov <- eval o X.env
  standAt apos.atName
  let (f,first) <- holding [ov] (getMethod ov m pl)
  callWith pos f first (backTo pos (starEach (e :: es) X.env)) (backToKw pos (keywordEach [] X.env))):=by rfl) :
 PE X (.Call (.Attribute o m apos) (e :: es) [] pos) (tMeth C m sp dvs E ta t):=by
 walk_at"z3"
 walk_at"z14"
 subst ex
 obtain rfl:u=Value.ref a:=rx
 refine getmeth_ok I1 ea c hm l ?_
 refine PySem.W.callWith_K (first:=[.ref a]) (h₀:=X.base) I.ok.mod.kin hm.kp (thn (ha pos pins s1 σ H1 _ I1 q) fun us s2 ⟨vs,H2,I2,r,q2⟩=>⟨I2.kIn,?_⟩) hst hpl
 exact run_fn (us:=.ref a :: us) (vs:=.ref a :: vs) F hr hb hd hx I2 (.cons rfl r) q2
theorem pe_meth0 {pl:Sem Bool} (he:PE X o ta) (c:Cls X.K C) (hm:Meth X.K C m f) (F:FnOk X.prog X.w X.K X.mg X.base CX k f fd ps sp) (hr:Room k X.A) (hb:Binds X.K fd ps ds) (hd:Vals dvs ds) (hx:Passes CX X E)
 (ht:eval (.Call (.Attribute o m apos) [] [] pos) X.env=(do
  let ov <- eval o X.env
  standAt apos.atName
  let (f,first) <- holding [ov] (getMethod ov m pl)
  callWith pos f first (backTo pos (starEach [] X.env)) (backToKw pos (keywordEach [] X.env))):=by rfl) :
 PE X (.Call (.Attribute o m apos) [] [] pos) (tMeth C m sp dvs E ta tNil):=by
 walk_at"z3"
 walk_at"z14"
 subst ex
 obtain rfl:u=Value.ref a:=rx
 refine getmeth_ok I1 ea c hm l ?_
 exact PySem.W.callWith_K0 (first:=[.ref a]) I1.kIn hm.kp (run_fn (us:=[.ref a]) (vs:=[.ref a]) F hr hb hd hx I1 (.cons rfl .nil) q)
structure Mk (K:PySem.W.Frag) (C f:Addr):Prop where
 makes:PySem.W.makesIn K C=true
 init:PySem.W.findIn K (.ref C) "__init__" = some (some (.ref f))
 fn:PySem.W.isFn K (.ref f)=true
 kp:PySem.W.keepIn K (.ref C)=true
theorem run_make {pins:List (Addr×Obj)} {σ:St} {H:Hp} {s:Shared} {Q:VK} {us:List Value} {vs:List V} (M:Mk X.K C f) (F:FnOk X.prog X.w X.K X.mg X.base CX k f fd ps sp) (hr:Room (k+1) X.A) (hb:Binds X.K fd ps ds) (hd:Vals dvs ds)
 (hx:Passes CX X E) (I:Inv X pins σ H s) (r:Vals vs us)
 (h:∀ x dx,H x=none->H dx=none->dx≠x->sp (.ref x :: (vs++dvs)) (upd (upd H dx (.own x)) x (.ins C dx [])) (fun v H2=>v=.non/\Q (.ref x) H2) E) :
 wpAny (model X.prog X.w) X.A (call (.ref C) us) (EP X pins σ Q) X.xe s:=by
 have hq:=h (s.heap.objs.size+1) s.heap.objs.size (I.hok.fresh (Nat.le_succ _)) (I.hok.fresh (Nat.le_refl _)) (Nat.ne_of_lt (Nat.lt_succ_self _))
 have I2:=Inv.made (C:=C) I
 have r2:Vals (V.ref (s.heap.objs.size+1) :: (vs++dvs)) (Value.ref (s.heap.objs.size+1) :: (us++ds)):=.cons rfl (r.append hd)
 have hl:(Value.ref (s.heap.objs.size+1) :: us++ds).length=ps.length:=by
  have e:=r2.length
  rw [F.len _ _ _ _ hq] at e
  exact e.symm
 refine wpAny_call (make_map (f:=f) I.kIn M.makes M.init (beq_iff_eq.mp M.fn) (codeAny_mono (F.run _ X.stack _ _ ⟨Value.ref (s.heap.objs.size+1) :: us,[]⟩ (Value.ref (s.heap.objs.size+1) :: (us++ds)) _ _ E (hr.make C us [])
  (I2.env0.make C us []) (hb _ (Value.ref (s.heap.objs.size+1) :: us) I2.kIn hl) r2 hq) fun r s' hq'=>?_))
 cases r with
 | error e=>exact hx pins σ _ _ e s' I2 hq'
 | ok fl =>
   cases fl with
   | ret u =>
     obtain⟨v,H',I3,rv,ev,q3⟩:=I2.after hq'
     subst ev
     exact⟨rv,⟨V.ref (s.heap.objs.size+1),H',I3,rfl,q3⟩⟩
   | next=>exact False.elim hq'
   | brk=>exact False.elim hq'
   | cont=>exact False.elim hq'
theorem pe_make0 (M:Mk X.K C f) (F:FnOk X.prog X.w X.K X.mg X.base CX k f fd ps sp) (hr:Room (k+1) X.A) (hg:Gl X x) (hm:X.mg x=some (.ref C)) (hb:Binds X.K fd ps ds) (hd:Vals dvs ds) (hx:Passes CX X E)
 (hdb:(x == ("__debug__" : Str))=false:=by decide):PE X (.Call (.Name x p) [] [] pos) (tMake C sp dvs E tNil):=by
 walk_at"z3"
 refine wpAny_Call_Name_kw (ld_glob I hg hm ?_ hdb)
 exact PySem.W.callWith_K0 I.kIn M.kp (run_make (us:=[]) M F hr hb hd hx I .nil h)
end
section
variable {X:Cx} {CX:CXT} {k:Nat} {f C:Addr} {fd:FuncData} {ps ks:List Str} {sp:Sp} {E:XK} {x m:Str} {p pos apos kpos:Pos} {e o:Expr} {es:List Expr} {kws:List Keyword} {te ta:TE} {t tk:TA} {nm:Option Str}
structure KBinds (K:PySem.W.Frag) (fd:FuncData) (ps ks:List Str) (g:List Value->List Value->List Value) (gV:List V->List V->List V):Prop where
 to:∀ (s:Shared) (us ws:List Value),K.In s.heap->(g us ws).length=ps.length->BindsTo s fd ⟨us,ks.zip ws⟩ (ps.zip (g us ws))
 rel:∀ {vs:List V} {us:List Value} {zs:List V} {ws:List Value},Vals vs us->Vals zs ws->Vals (gV vs zs) (g us ws)
variable {g:List Value->List Value->List Value} {gV:List V->List V->List V}
end
structure FnScope (N P:List Str) (sc:Scope):Prop where
 kind:sc.kind=.function
 co:sc.isCoroutine=false
 gen:sc.isGenerator=false
 nd:N.Nodup
 pre:N.take P.length=P
 par:∀ x∈P,sc.names.lookup x=some .local\/sc.names.lookup x=some .cell
 nofree:∀ y∈sc.names,y.2≠.free
theorem bindL_out {kindOf:Str->Option NameKind} {x:Str}:∀ {binds:List (Str×Value)} {m:Str->Option Value},(∀ v,(x,v) ∉ binds)->bindL kindOf binds m x=m x
 | [],_,_=>rfl
 | (n,v) :: r,m,h=>by
   unfold bindL
   rw [bindL_out fun w hw=>h w (List.mem_cons_of_mem _ hw)]
   split
   ·have:x≠n:=by rintro rfl; exact h v List.mem_cons_self
    simp [this]
   ·rfl
theorem bindC_out {kindOf:Str->Option NameKind} {x:Str}:∀ {binds:List (Str×Value)} {m:Str->Option Value},(∀ v,(x,v) ∉ binds)->bindC kindOf binds m x=m x
 | [],_,_=>rfl
 | (n,v) :: r,m,h=>by
   unfold bindC
   rw [bindC_out fun w hw=>h w (List.mem_cons_of_mem _ hw)]
   split
   ·rfl
   ·have:x≠n:=by rintro rfl; exact h v List.mem_cons_self
    simp [this]
theorem bindL_get {kindOf:Str->Option NameKind} {x:Str} {v:Value}:∀ {P:List Str} {vs:List Value} {i:Nat} {m:Str->Option Value},P.Nodup->P[i]? = some x->vs[i]? = some v->kindOf x=some .local ->
 bindL kindOf (P.zip vs) m x=some v
 | [],_,_,_,_,h,_,_=>by simp at h
 | _ :: _,[],_,_,_,_,h,_=>by simp at h
 | p :: P,w :: vs,0,m,nd,h1,h2,hk=>by
   simp at h1 h2; subst h1; subst h2
   show bindL kindOf ((p,w) :: P.zip vs) m p=_
   unfold bindL
   rw [bindL_out fun v hv=>(List.nodup_cons.mp nd).1 (List.of_mem_zip hv).1,if_pos hk]
   simp
 | p :: P,w :: vs,i+1,m,nd,h1,h2,hk=>by
   show bindL kindOf ((p,w) :: P.zip vs) m x=_
   unfold bindL
   exact bindL_get (i:=i) (List.nodup_cons.mp nd).2 (by simpa using h1) (by simpa using h2) hk
theorem bindC_get {kindOf:Str->Option NameKind} {x:Str} {v:Value}:∀ {P:List Str} {vs:List Value} {i:Nat} {m:Str->Option Value},P.Nodup->P[i]? = some x->vs[i]? = some v->kindOf x≠some .local ->
 bindC kindOf (P.zip vs) m x=some v
 | [],_,_,_,_,h,_,_=>by simp at h
 | _ :: _,[],_,_,_,_,h,_=>by simp at h
 | p :: P,w :: vs,0,m,nd,h1,h2,hk=>by
   simp at h1 h2; subst h1; subst h2
   show bindC kindOf ((p,w) :: P.zip vs) m p=_
   unfold bindC
   rw [bindC_out fun v hv=>(List.nodup_cons.mp nd).1 (List.of_mem_zip hv).1,if_neg hk]
   simp
 | p :: P,w :: vs,i+1,m,nd,h1,h2,hk=>by
   show bindC kindOf ((p,w) :: P.zip vs) m x=_
   unfold bindC
   exact bindC_get (i:=i) (List.nodup_cons.mp nd).2 (by simpa using h1) (by simpa using h2) hk
def start (N:List Str) (vs:List V):St:=vs.map some++List.replicate (N.length - vs.length) none
def cxOf (CX:CXT) (P:Program) (w:World) (K:PySem.W.Frag) (mg:Str->Option Value) (base:Heap) (N:List Str) (qual:Str) (scope:Scope) (f:Addr) (cd:Value) (A:Around) (outer:List Env) (s:Shared) (H:Hp) (E:XK):Cx where
 prog:=P
 w:=w
 K:=K
 mg:=mg
 base:=base
 A:=A.deeper (envOfC qual scope s.heap.objs.size f cd)
 N:=N
 s₀:=s
 H₀:=H
 env:=envOfC qual scope s.heap.objs.size f cd
 outer:=outer
 stack:=envOfC qual scope s.heap.objs.size f cd :: outer
 ex:=[]
 calm:=true
 fn:=fun _=>true
 pn:=[]
 xe:=fun e s'=>wpAny (model P w) (A.deeper (envOfC qual scope s.heap.objs.size f cd)) (leaving (envOfC qual scope s.heap.objs.size f cd) e) (fun _ s''=>CX outer H s E e s'') (fun e' s''=>CX outer H s E e' s'') s'
theorem cell_has {sc:Scope} {n:Nat} {x:Str} (h:sc.names.lookup x=some .cell):∃ c,(cellsFrom n sc.names []).lookup x=some c:=by
 have q:=PySem.W.cellsFrom_some sc.names n [] (.inl h)
 exact Option.isSome_iff_exists.mp q
theorem inv_start {CX:CXT} {P:Program} {w:World} {K:PySem.W.Frag} {mg:Str->Option Value} {base:Heap} {N ps:List Str} {qual:Str} {scope:Scope} {f:Addr} {cd:Value} {A:Around} {outer:List Env} {s s1:Shared} {H:Hp} {E:XK} {us:List Value} {vs:List V}
 (S:FnScope N ps scope) (hd:A.handled=none) (e0:Env0 P w K mg base A outer s H) (hl:vs.length=ps.length) (r:Vals vs us)
 (x:InCallC s s.heap.objs.size (bindL (envOfC qual scope s.heap.objs.size f cd).kindOf (ps.zip us) fun _=>none) (cellsFrom (s.heap.objs.size+1) scope.names []) (bindC (envOfC qual scope s.heap.objs.size f cd).kindOf (ps.zip us) fun _=>none) s1) :
 Inv (cxOf CX P w K mg base N qual scope f cd A outer s H E) [] (start N vs) H s1:=by
 have hpl:ps.length<=N.length:=by have:=congrArg List.length S.pre; rw [List.length_take] at this; lia
 obtain⟨h1,tk,rfl,hk⟩:=x.done
 have noA:∀ b:Addr,b ∉ (cxOf CX P w K mg base N qual scope f cd A outer s H E).ex:=fun b z=>absurd (show b∈([]:List Addr) from z) (by simp)
 refine⟨⟨e0.mod,S.kind,rfl,rfl,Nat.le_refl _,fun y z c h1 h2=>?_,fun y hy=>?_,fun y c _ h=>?_,fun _=>hd,Around.frames_deeper e0.frames,.inr ⟨rfl,rfl⟩,fun b z=>absurd z (noA b),e0.bs,e0.bsz,fun b _ _=>noA b,fun b z=>absurd z (noA b),e0.funs,e0.frf⟩,
  rfl,e0.bare,Un.kept hk,⟨_,x.toInCall.ns,fun i y v h1 h2 h3=>?_⟩,fun y c h=>⟨_,x.cell y c h⟩,e0.hok.fresh (Nat.le_refl _),fun y c h=>?_,fun p hp=>absurd (show p∈([]:List (Addr×Obj)) from hp) (by simp),e0.hok.kept hk,?_⟩
 ·exact name_of_addr x.apart (PySem.mem_of_lookup h1) (PySem.mem_of_lookup h2)
 ·have hy:scope.names.lookup y=some .cell\/scope.names.lookup y=some .free:=hy
  rcases hy with hy | hy
  ·exact cell_has hy
  ·exact absurd rfl (S.nofree _ (PySem.mem_of_lookup hy))
 ·exact Nat.le_of_lt (x.above y c (PySem.mem_of_lookup h))
 ·have hi:i<vs.length:=by
   unfold start at h2
   by_cases hi:i<vs.length
   ·exact hi
   ·rw [List.getElem?_append_right (by simpa using hi)] at h2
    rw [List.getElem?_replicate] at h2
    split at h2 <;> cases h2
  have ha:vs[i]? = some v:=by
   unfold start at h2
   rw [List.getElem?_append_left (by simpa using hi),List.getElem?_map] at h2
   cases e:vs[i]? with
   | none=>rw [e] at h2; cases h2
   | some a=>rw [e] at h2; cases h2; rfl
  obtain⟨u,hu,rv⟩:=r.get ha
  have hp:ps[i]? = some y:=by
   rw [<- S.pre,List.getElem?_take_of_lt (by lia)]; exact h1
  have ndP:ps.Nodup:=by rw [<- S.pre]; exact S.nd.sublist (List.take_sublist _ _)
  refine⟨u,rv,?_⟩
  rcases S.par y (List.mem_of_getElem? hp) with k | k
  ·exact .inl ⟨k,bindL_get ndP hp hu k⟩
  ·obtain⟨c,e⟩:=cell_has (n:=s.heap.objs.size+1) k
   refine .inr ⟨.inl k,c,e,?_⟩
   have q:=x.cell y c e
   rw [bindC_get ndP hp hu (by show scope.names.lookup y≠_; rw [k]; decide)] at q
   exact q
 ·exact e0.hok.fresh (Nat.le_of_lt (x.above y c (PySem.mem_of_lookup h)))
 ·unfold start
  show _=N.length
  rw [List.length_append,List.length_map,List.length_replicate]
  lia
theorem fn_of {CX:CXT} {P:Program} {w:World} {K:PySem.W.Frag} {mg:Str->Option Value} {base:Heap} {k:Nat} {f:Addr} {name qual:Str} {params:Arguments} {body:List Stmt} {scope:Scope} {dV kV doc pm cdv ct oc:Value} {an od:Option Addr}
 {osl:Array (Option Value)} {N ps:List Str} {sp:Sp} (lk:K.lookup f=some ⟨oc,od,.func (PySem.W.fnOf name qual params body scope dV kV doc pm an cdv ct),osl⟩) (hcd:PySem.W.codeIn K cdv qual=true) (S:FnScope N ps scope)
 (len:∀ vs H Q E,sp vs H Q E->vs.length=ps.length)
 (hbody:∀ (A:Around) (outer:List Env) (s:Shared) (H:Hp) (vs:List V) (Q:VK) (E:XK),Room k (A.deeper (envOfC qual scope s.heap.objs.size f cdv))->sp vs H Q E ->
  ∃ t,PSs (cxOf CX P w K mg base N qual scope f cdv A outer s H E) body t/\t { nx:=fun _ H'=>Q .non H',rt:=Q } (start N vs) H) :
 FnOk P w K mg base CX (k+1) f (PySem.W.fnOf name qual params body scope dV kV doc pm an cdv ct) ps sp:=by
 refine⟨len,fun A outer s H args us vs Q E hr e0 hb r hsp=>?_⟩
 have hl:=len _ _ _ _ hsp
 have KX:K.In s.heap:=e0.mod.kin.keeps fun b o e=>(e0.bs b o e).1
 have lim:s.heap.NoLimit:=e0.mod.nolimit.keeps fun b o e=>(e0.bs b o e).1
 have hkind:∀ y∈ps.zip us,scope.names.lookup y.1=some .local\/(scope.names.lookup y.1=some .cell/\((cellsFrom (s.heap.objs.size+1) scope.names []).lookup y.1).isSome=true):=fun ⟨n,v⟩ hy=>by
  rcases S.par n (List.of_mem_zip hy).1 with q | q
  ·exact .inl q
  ·exact .inr ⟨q,PySem.W.cellsFrom_some _ _ _ (.inl q)⟩
 refine codeAny_call_function hr.depth (KX _ _ lk) rfl S.co S.gen rfl (PySem.W.codeRec_of KX hcd) (hb _ _ _ _ ?_)
 refine wpAny_newFunctionEnv_cells S.kind hkind fun env he s1 x=>?_
 subst he
 refine⟨lim.keeps x.toInCall.keep,codeAny_func ?_⟩
 obtain⟨t,ht,hq⟩:=hbody A outer s H vs Q E (hr.deeper _) hsp
 have I:Inv (cxOf CX P w K mg base N qual scope f cdv A outer s H E) [] (start N vs) H s1:=inv_start S hr.hd e0 hl r x
 refine wpAny_mono (ht [] s1 (start N vs) H _ I hq) (fun fl s' hs=>?_) fun e s' hs=>hs
 have fin:∀ {σ':St} {H':Hp} {v:V} {u:Value},Inv (cxOf CX P w K mg base N qual scope f cdv A outer s H E) [] σ' H' s'->RelV v u->Q v H'->CE outer P w H s Q u s' :=
  fun {σ' H' v u} J rv q=>⟨v,H',J.os,J.bare,J.base,J.hok,rv,q⟩
 cases fl with
 | ret u =>
   obtain⟨v,σ',H',J,rv,q⟩:=hs
   exact fin J rv q
 | next =>
   obtain⟨σ',H',J,q⟩:=hs
   exact fin (v:=V.non) (u:=Value.none) J rfl q
 | brk =>
   obtain⟨_,_,_,q⟩:=hs
   exact False.elim q
 | cont =>
   obtain⟨_,_,_,q⟩:=hs
   exact False.elim q
end L2
namespace L2
open PySem PySem.Spec PyProof.Rows
section
variable {X:Cx} {x:Str} {p pos:Pos} {e:Expr} {es:List Expr} {t:TA} {id T:String} {r:List V->Hp->VK->Prop}
def tCB (r:List V->Hp->VK->Prop) (t:TA):TE:=fun σ H Q=>t σ H fun vs H1=>r vs H1 Q
theorem pe_callB (hc:CallR X (.builtin id) r) (hg:Gl X x) (hm:X.mg x=none) (hv:bootBuiltins x=some (.builtin id)) (ha:PA X (e :: es) t) (hn:x ≠ "__name__" := by decide) (hdb:(x == ("__debug__" : Str))=false:=by decide)
 (he:starEach (e :: es) X.env=(false,eval e X.env) :: starEach es X.env:=by rfl) (hpl:(backTo pos (starEach es X.env)).any (·.1)=false:=by rfl):PE X (.Call (.Name x p) (e :: es) [] pos) (tCB r t):=by
 walk_at"z3"
 refine wpAny_Call_Name_kw (ld_blt I hg hm hv ?_ hn hdb)
 exact PyProof.Rows.callWith_builtin1 (thn (ha pos pins s σ H _ I h) fun us s1 ⟨vs,H1,I1,r1,q1⟩=>hc pins s1 σ H1 vs us Q I1 r1 q1) he hpl
theorem pe_callTy (hc:CallR X (.type T) r) (hg:Gl X x) (hm:X.mg x=none) (hv:bootBuiltins x=some (.type T)) (ha:PA X (e :: es) t) (hn:x ≠ "__name__" := by decide) (hdb:(x == ("__debug__" : Str))=false:=by decide)
 (he:starEach (e :: es) X.env=(false,eval e X.env) :: starEach es X.env:=by rfl) (hpl:(backTo pos (starEach es X.env)).any (·.1)=false:=by rfl):PE X (.Call (.Name x p) (e :: es) [] pos) (tCB r t):=by
 walk_at"z3"
 refine wpAny_Call_Name_kw (ld_blt I hg hm hv ?_ hn hdb)
 exact PyProof.Rows.callWith_type1 (thn (ha pos pins s σ H _ I h) fun us s1 ⟨vs,H1,I1,r1,q1⟩=>hc pins s1 σ H1 vs us Q I1 r1 q1) he hpl
end
end L2
namespace HT
open PySem PyProof.Rows
section
open PySem.SeqAt
open PySem.AutoSeq1 (wpAny_loadPart')
open PySem.MeetsSeq PySem.MeetsSeq2 PySem.MeetsSeq3
end
section
variable {prog:Program} {w:World} {A:Around} {E:Value->Shared->Prop} {s:Shared}
def sIx (n d:Nat):Option Int->Nat
 | none=>d
 | some v=>if v<0 then (v+(n:Int)).toNat else min v.toNat n
theorem sIx_none (n d:Nat):sIx n d none=d:=rfl
theorem sIx_nat (n d k:Nat):sIx n d (some (k:Int))=min k n:=by
 show (if (k:Int)<0 then ((k:Int)+(n:Int)).toNat else min (k:Int).toNat n)=min k n
 rw [if_neg (by lia),Int.toNat_natCast]
end
end HT
namespace L2
open PySem PySem.Spec PyProof.Rows
abbrev TO:=St->Hp->(Option Int->Hp->Prop)->Prop
def PO (X:Cx) (e:Option Expr) (t:TO):Prop :=
 ∀ (pins:List (Addr×Obj)) (s:Shared) (σ:St) (H:Hp) (Q:Option Int->Hp->Prop),Inv X pins σ H s->t σ H Q ->
  wpAny (model X.prog X.w) X.A (evalPart e X.env) (fun u s'=>∃ o H',Inv X pins σ H' s'/\IsPart u o/\Q o H') X.xe s
def tNoPart:TO:=fun _ H Q=>Q none H
def tPart (t:TE):TO:=fun σ H Q=>t σ H fun x H1=>∃ i,x=.int i/\Q (some i) H1
theorem intsAre_of {ns:List Int}:∀ {us:List Value},Vals (ns.map V.int) us->IntsAre us ns:=by
 induction ns with
 | nil=>intro us r; rw [List.map_nil] at r; cases r; exact .nil
 | cons n ns ih =>
   intro us r
   rw [List.map_cons] at r
   cases r with
   | cons r1 r2 =>
     obtain⟨t,e⟩:=r1
     subst e
     exact .cons n t (ih r2)
section
variable {X:Cx} {e:Expr} {te:TE} {lo hi:Option Expr} {tl th:TO} {pos p2:Pos}
theorem po_none:PO X none tNoPart:=by
 walk_at"z3"
 rw [evalPart_none]
 exact wpAny_pure ⟨none,H,I,.none,h⟩
theorem po_some (h:PE X e te):PO X (some e) (tPart te):=by
 intro pins s σ H Q I hw
 rw [evalPart_some]
 refine thn (h pins s σ H _ I hw) fun u s1 ⟨x,H1,I1,r1,q1⟩=>?_
 obtain⟨i,rfl,q⟩:=q1
 obtain⟨t,rfl⟩:=r1
 exact⟨some i,H1,I1,.int i t,q⟩
def SlR (X:Cx) (r:V->Option Int->Option Int->Hp->VK->Prop):Prop :=
 ∀ (pins:List (Addr×Obj)) (s:Shared) (σ:St) (H:Hp) (x:V) (v vl vu:Value) (lo hi:Option Int) (sl:Addr) (Q:VK),Inv X pins σ H s->RelV x v->s.heap.IsSliceOf sl vl vu .none->IsPart vl lo->IsPart vu hi->r x lo hi H Q ->
  ∃ T id,typeLookup (.type T) "__getitem__" = pure (some (.builtin id))/\s.TypeIs v T/\wpAny (model X.prog X.w) X.A (getItem v (.ref sl)) (EP X pins σ Q) X.xe s
theorem SlR.or {r r':V->Option Int->Option Int->Hp->VK->Prop} (h:SlR X r) (h':SlR X r'):SlR X (fun x lo hi H Q=>r x lo hi H Q\/r' x lo hi H Q):=by
 intro pins s σ H x v vl vu lo hi sl Q I rx hs pl pu q
 rcases q with q | q
 ·exact h pins s σ H x v vl vu lo hi sl Q I rx hs pl pu q
 ·exact h' pins s σ H x v vl vu lo hi sl Q I rx hs pl pu q
def tSl (r:V->Option Int->Option Int->Hp->VK->Prop) (te:TE) (tl th:TO):TE:=fun σ H Q=>te σ H fun x H1=>tl σ H1 fun l H2=>th σ H2 fun u H3=>r x l u H3 Q
theorem pe_slice {r:V->Option Int->Option Int->Hp->VK->Prop} (hr:SlR X r) (he:PE X e te) (hl:PO X lo tl) (hu:PO X hi th):PE X (.Subscript e (.Slice lo hi none p2) pos) (tSl r te tl th):=by
 walk_at"z3"
 refine Subscript_ (thn (he pins s σ H _ I h) fun v s1 ⟨x,H1,I1,r1,q1⟩=>?_)
 refine wpAny_Slice (thn (hl pins s1 σ H1 _ I1 q1) fun vl s2 ⟨l,H2,I2,pl,q2⟩=>thn (hu pins s2 σ H2 _ I2 q2) fun vu s3 ⟨u,H3,I3,pu,q3⟩=>?_)
 rw [evalPart_none]
 refine wpAny_pure ?_
 have I4:Inv X pins σ H3 { s3 with heap:=s3.heap.push { cls:=.type "slice", data:=.fields #[vl,vu,.none] } }:=I3.kept (t':=s3.toks) fun b ob q=>Heap.get?_push_of_some _ q
 obtain⟨T,id,hT,ht,hg⟩:=hr pins { s3 with heap:=s3.heap.push { cls:=.type "slice", data:=.fields #[vl,vu,.none] } } σ H3 x v vl vu l u s3.heap.objs.size Q I4 r1 (Heap.IsSliceOf.new ..) pl pu q3
 show wpAny (model X.prog X.w) X.A (subscriptTail e (.Slice lo hi none p2) v (.ref s3.heap.objs.size)) (EP X pins σ Q) X.xe { s3 with heap:=s3.heap.push { cls:=.type "slice", data:=.fields #[vl,vu,.none] } }
 exact tail_any (ops:=[.ref s3.heap.objs.size,v]) ht hT hg (by with_unfolding_all rfl)
def cutV (xs:List V) (lo hi:Option Int):List V:=(xs.drop (HT.sIx xs.length 0 lo)).take (HT.sIx xs.length xs.length hi - HT.sIx xs.length 0 lo)
theorem cutV_length (xs:List V) (lo hi:Option Int):(cutV xs lo hi).length<=xs.length:=by
 unfold cutV
 rw [List.length_take,List.length_drop]
 lia
end
end L2
namespace L2
open PySem PySem.Spec PyProof.Rows
def ixN (n:Nat) (i:Int):Option Nat:=if 0<=i then (if i<n then some i.toNat else none) else if -(n:Int)<=i then some (i+n).toNat else none
def atI {α:Type} (xs:List α) (i:Int):Option α:=(ixN xs.length i).bind fun j=>xs[j]?
theorem ixN_seq {n:Nat} {i:Int} {j:Nat} (h:ixN n i=some j):seqIndex? i n=some j/\j<n/\-(n:Int)<=i/\i<n:=by
 unfold ixN at h
 by_cases h0:0<=i
 ·rw [if_pos h0] at h
  by_cases h1:i<n
  ·rw [if_pos h1] at h
   have e:i.toNat=j:=Option.some.inj h
   exact⟨by rw [seqIndex_of h0 h1,e],by lia,by lia,h1⟩
  ·rw [if_neg h1] at h; cases h
 ·rw [if_neg h0] at h
  by_cases h1:-(n:Int)<=i
  ·rw [if_pos h1] at h
   have e:(i+n).toNat=j:=Option.some.inj h
   exact⟨by rw [seqIndex_neg (by lia) h1,e],by lia,h1,by lia⟩
  ·rw [if_neg h1] at h; cases h
theorem atI_get {α:Type} {xs:List α} {i:Int} {v:α} (h:atI xs i=some v):∃ j,seqIndex? i xs.length=some j/\xs[j]? = some v/\j<xs.length/\-(xs.length:Int)<=i/\i<xs.length:=by
 unfold atI at h
 cases e:ixN xs.length i with
 | none=>rw [e] at h; cases h
 | some j =>
   rw [e] at h
   obtain⟨h1,h2,h3,h4⟩:=ixN_seq e
   exact⟨j,h1,h,h2,h3,h4⟩
theorem atI_nat {α:Type} {xs:List α} {j:Nat} {v:α} (h:xs[j]? = some v):atI xs (j:Int)=some v:=by
 have hj:j<xs.length:=(List.getElem?_eq_some_iff.mp h).1
 have e:ixN xs.length (j:Int)=some j:=by
  unfold ixN
  rw [if_pos (by lia),if_pos (by lia)]; simp
 unfold atI; rw [e]; exact h
theorem atI_last {α:Type} (xs:List α) (v:α):atI (xs++[v]) (-1)=some v:=by
 have hl:(xs++[v]).length=xs.length+1:=by simp
 have e:ixN (xs++[v]).length (-1)=some xs.length:=by
  unfold ixN
  rw [hl,if_neg (by decide),if_pos (by lia)]
  congr 1
  lia
 unfold atI
 rw [e]
 show (xs++[v])[xs.length]? = some v
 simp
def PlainIx (b:Expr):Prop:=∀ o i,subscripted b false o i=operate [o,i] (getItem o i)
def IxR (X:Cx) (r:R2):Prop :=
 ∀ (value slice:Expr) (pins:List (Addr×Obj)) (s:Shared) (σ:St) (H:Hp) (x y:V) (v u:Value) (Q:VK),Inv X pins σ H s->RelV x v->RelV y u->r x y H Q ->
  subscripted slice false v u=operate [v,u] (getItem v u)->wpAny (model X.prog X.w) X.A (subscriptTail value slice v u) (EP X pins σ Q) X.xe s
def MtR (X:Cx) (id:String) (r:V->List V->Hp->VK->Prop):Prop :=
 ∀ (pins:List (Addr×Obj)) (s:Shared) (σ:St) (H:Hp) (x:V) (xs:List V) (v:Value) (us:List Value) (Q:VK),Inv X pins σ H s->RelV x v->Vals xs us->r x xs H Q ->
  wpAny (model X.prog X.w) X.A (call (.builtin id) (v :: us)) (EP X pins σ Q) X.xe s
section
variable {X:Cx} {a b:Expr} {ta tb:TE} {pos:Pos}
theorem IxR.or {r r':R2} (h:IxR X r) (h':IxR X r'):IxR X (fun x y H Q=>r x y H Q\/r' x y H Q):=by
 intro value slice pins s σ H x y v u Q I rx ry q hs
 rcases q with q | q
 ·exact h value slice pins s σ H x y v u Q I rx ry q hs
 ·exact h' value slice pins s σ H x y v u Q I rx ry q hs
theorem pe_ix {r:R2} (hr:IxR X r) (ha:PE X a ta) (hb:PE X b tb) (hs:PlainIx b):PE X (.Subscript a b pos) (tOp r ta tb):=by
 walk_at"z3"
 exact Subscript_ (binT ha hb I h fun v u s2 x y H2 I2 rx ry q=>hr a b pins s2 σ H2 x y v u Q I2 rx ry q (hs _ _))
def rIxL (K:PySem.W.Frag):R2:=fun x y H Q=>∃ p xs i v,x=.ref p/\y=.int i/\SqL K H p xs/\atI xs i=some v/\Q v H
def rIxT (K:PySem.W.Frag):R2:=fun x y H Q=>∃ p xs i v,x=.ref p/\y=.int i/\SqT K H p xs/\atI xs i=some v/\Q v H
def rIxS:R2:=fun x y H Q=>∃ z i c,x=.str z/\y=.int i/\z.length<=sizeLine/\atI z.cps.toList i=some c/\Q (.str ⟨#[c]⟩) H
theorem ix_list:IxR X (rIxL X.K):=by
 intro value slice pins s σ H x y v u Q I rx ry h hs
 obtain⟨p,xs,i,z,rfl,rfl,hq,he,q⟩:=h
 cases rx
 obtain⟨t,rfl⟩:=ry
 obtain⟨its,r,pl,hz⟩:=I.list hq
 obtain⟨j,h1,h2,h3,h4,h5⟩:=atI_get he
 obtain⟨w,ew,rw'⟩:=r.get h2
 have hl:=r.length
 have hn:=line63
 have fin:EP X pins σ Q w s:=⟨z,H,I,rw',q⟩
 by_cases h0:0<=i
 ·have hj:i.toNat=j:=by
   rw [seqIndex_of h0 h5] at h1
   exact Option.some.inj h1
  exact item_listR pl.isList h0 (by lia) (by rw [hj]; simpa using ew) fin hs
 ·have hj:(i+(its.toArray.size:Int)).toNat=j:=by
   rw [seqIndex_neg (by lia) h4] at h1
   rw [List.size_toArray,<- hl]
   exact Option.some.inj h1
  exact subscriptTail_builtinR (x:=w) pl.isList.typeIs slot_list_getitem.lookup
   (wpAny_getItem_list_neg (Q:=fun r s'=>r=w/\EP X pins σ Q r s') pl.isList (by lia) (by rw [List.size_toArray] <;> lia) (by lia) (by rw [hj]; simpa using ew) ⟨rfl,fin⟩) hs
theorem ix_tup:IxR X (rIxT X.K):=by
 intro value slice pins s σ H x y v u Q I rx ry h hs
 obtain⟨p,xs,i,z,rfl,rfl,hq,he,q⟩:=h
 cases rx
 obtain⟨t,rfl⟩:=ry
 obtain⟨its,r,pl,hz⟩:=I.tuple hq
 obtain⟨j,h1,h2,h3,h4,h5⟩:=atI_get he
 obtain⟨w,ew,rw'⟩:=r.get h2
 have hl:=r.length
 have hn:=line63
 have fin:EP X pins σ Q w s:=⟨z,H,I,rw',q⟩
 exact subscriptTail_builtinR (x:=w) pl.typeIs slot_tuple_getitem.lookup
  (getItem_tuple (j:=j) (Q:=fun r s'=>r=w/\EP X pins σ Q r s') pl (by lia) (by lia) (by rw [List.size_toArray,<- hl]; exact h1) (by simpa using ew) ⟨rfl,fin⟩) hs
theorem ix_str:IxR X rIxS:=by
 intro value slice pins s σ H x y v u Q I rx ry h hs
 obtain⟨z,i,c,rfl,rfl,hz,he,q⟩:=h
 walk_at"z13"
 obtain⟨t',rfl⟩:=ry
 obtain⟨j,h1,h2,h3,h4,h5⟩:=atI_get he
 have hl:z.cps.toList.length=z.length:=by simp [Str.length]
 rw [hl] at h1 h4 h5
 have hn:=line63
 exact tail_any (typeIs_str s z t) slot_str_getitem.lookup (getItem_str (c:=c) (by
  have e1:decide (i < -(2 ^ 63:Int))=false:=decide_eq_false (by lia)
  have e2:decide (i ≥ 2 ^ 63)=false:=decide_eq_false (by lia)
  rw [e1,e2,Bool.or_false]) (by rw [h1]; simpa using h2) ⟨.str ⟨#[c]⟩,H,I.tok _,⟨_,rfl⟩,q⟩) hs
theorem mapSeq_set (its:List Value) (n j:Nat) (u:Value):Obj.mapSeq (·.setIfInBounds j u) { cls:=.type "list", data:=.seq its.toArray n } = { cls:=.type "list", data:=.seq (its.set j u).toArray n }:=by
 simp [Obj.mapSeq]
theorem Inv.lst {pins:List (Addr×Obj)} {σ:St} {H:Hp} {s:Shared} {p:Addr} {xs:List V} (I:Inv X pins σ H s) (h:H p=some (.lst xs)) :
 ∃ (its:List Value) (n:Nat),Vals xs its/\s.heap.get? p=some { cls:=.type "list", data:=.seq its.toArray n }/\xs.length<=sizeLine:=by
 obtain⟨z,its,n,r,e⟩:=I.hok p _ h
 exact⟨its,n,r,e,z⟩
theorem Inv.lstUpd {pins:List (Addr×Obj)} {σ:St} {H:Hp} {s:Shared} {p:Addr} {xs ys:List V} {its its':List Value} {n n':Nat} {f:Obj->Obj} (I:Inv X pins σ H s) (h:H p=some (.lst xs))
 (ho:s.heap.get? p=some { cls:=.type "list", data:=.seq its.toArray n }) (hf:f { cls:=.type "list", data:=.seq its.toArray n } = { cls:=.type "list", data:=.seq its'.toArray n' }) (r:Vals ys its') (hz:ys.length<=sizeLine) (t:Nat) :
 Inv X pins σ (upd H p (.lst ys)) { s with heap:=s.heap.update p f,toks:=t }:=by
 have e:(s.heap.update p f).get? p=some { cls:=.type "list", data:=.seq its'.toArray n' }:=by
  rw [Heap.get?_update_self f ho (by rw [hf] <;> rfl),hf]
 refine I.write (x:=p) (e:=p) (by rw [h]; trivial) (.inl rfl) (fun b u hb q=>(Heap.get?_update_other _ _ (Ne.symm hb)).trans q) ⟨_,e⟩ ?_
 exact⟨hz,its',n',r,e⟩
def rSetL:V->V->V->Hp->(Hp->Prop)->Prop:=fun o i v H Q=>∃ p xs k j,o=.ref p/\i=.int k/\H p=some (.lst xs)/\ixN xs.length k=some j/\Q (upd H p (.lst (xs.set j v)))
theorem set_list:PSet X rSetL:=by
 intro pins s σ H o i v ov iv u Q I ro ri rv h
 obtain⟨p,xs,k,j,rfl,rfl,hp,hj,q⟩:=h
 cases ro
 obtain⟨t,rfl⟩:=ri
 obtain⟨its,n,r,ho,hz⟩:=I.lst hp
 obtain⟨h1,h2,h3,h4⟩:=ixN_seq hj
 have hl:=r.length
 have hn:=line63
 have I':Inv X pins σ (upd H p (.lst (xs.set j v))) { s with heap:=s.heap.update p (Obj.mapSeq (·.setIfInBounds j u)) } :=
  I.lstUpd hp ho (mapSeq_set its n j u) (r.set rv j) (by rw [List.length_set]; exact hz) s.toks
 by_cases h0:0<=k
 ·have hk:k.toNat=j:=by
   rw [seqIndex_of h0 h4] at h1
   exact Option.some.inj h1
  exact PySem.W.ki_setAt ho h0 (by lia) (by rw [List.size_toArray,<- hl]; exact h4) (by rw [hk]; exact⟨_,I',q⟩)
 ·have hk:(k+(its.toArray.size:Int)).toNat=j:=by
   rw [seqIndex_neg (by lia) h3] at h1
   rw [List.size_toArray,<- hl]
   exact Option.some.inj h1
  exact PySem.W.ki_setBack ho (by lia) (by rw [List.size_toArray,<- hl]; exact h3) (by lia) (by rw [hk]; exact⟨_,I',q⟩)
theorem slice_bounds (lo hi:Option Int) (n:Nat):(sliceBounds lo hi none n).1=((HT.sIx n 0 lo:Nat):Int)/\(sliceBounds lo hi none n).2.1=((HT.sIx n n hi:Nat):Int)/\(sliceBounds lo hi none n).2.2=1:=by
 refine⟨?_,?_,rfl⟩
 ·cases lo with
  | none=>simp [sliceBounds,HT.sIx]
  | some i =>
    simp only [sliceBounds,HT.sIx,Option.getD_none,show (1:Int) > 0 by decide,if_true]
    by_cases h:i<0
    ·simp only [h,if_true] <;> lia
    ·simp only [h,if_false] <;> lia
 ·cases hi with
  | none=>simp [sliceBounds,HT.sIx]
  | some i =>
    simp only [sliceBounds,HT.sIx,Option.getD_none,show (1:Int) > 0 by decide,if_true]
    by_cases h:i<0
    ·simp only [h,if_true] <;> lia
    ·simp only [h,if_false] <;> lia
theorem slicePick_cut (its:List Value) (lo hi:Option Int):slicePick its.toArray lo hi none=((its.drop (HT.sIx its.length 0 lo)).take (HT.sIx its.length its.length hi - HT.sIx its.length 0 lo)).toArray:=by
 obtain⟨h1,h2,h3⟩:=slice_bounds lo hi its.toArray.size
 unfold slicePick
 rw [h1,h2,h3]
 simp only [sliceRange_one,pick_run,List.size_toArray] <;> rfl
def rSlL (K:PySem.W.Frag):V->Option Int->Option Int->Hp->VK->Prop:=fun x lo hi H Q=>∃ a xs,x=.ref a/\SqL K H a xs/\∀ p,H p=none->Q (.ref p) (upd H p (.lst (cutV xs lo hi)))
theorem sl_list:SlR X (rSlL X.K):=by
 intro pins s σ H x v vl vu lo hi sl Q I rx hs pl pu h
 obtain⟨a,xs,rfl,hx,q⟩:=h
 cases rx
 obtain⟨its,r,ht,hz⟩:=I.list hx
 have hlen:=r.length
 refine⟨"list", _,slot_list_getitem.lookup,ht.isList.typeIs,?_⟩
 refine wpAny_getItem_list_slice ht.isList hs pl pu .none (by simp) ?_ (by rw [List.size_toArray] <;> lia)
 rw [slicePick_cut,<- hlen]
 refine⟨.ref s.heap.objs.size,_,I.laid (t':=s.toks) (o:=.lst (cutV xs lo hi)) (fun b ob q=>Heap.get?_push_of_some _ q) (Nat.le_refl _) ?_,rfl,q _ (I.hok.fresh (Nat.le_refl _))⟩
 exact⟨Nat.le_trans (cutV_length xs lo hi) hz,_,0,(r.drop (HT.sIx xs.length 0 lo)).take (HT.sIx xs.length xs.length hi - HT.sIx xs.length 0 lo),Heap.get?_push_size _ rfl⟩
def flatV:V->Bool
 | .non=>true
 | .bl _=>true
 | .int _=>true
 | .str _=>true
 | _=>false
def eqV:V->V->Bool
 | .non,.non=>true
 | .bl a,.bl b=>a == b
 | .bl a,.int b=>(if a then 1 else 0) == b
 | .int a,.bl b=>a == (if b then 1 else 0)
 | .int a,.int b=>a == b
 | .str a,.str b=>a == b
 | _,_=>false
theorem eqAt_V {A:Around} {s:Shared} {y x:V} {u v:Value} (ry:RelV y u) (rx:RelV x v) (fy:flatV y=true) (fx:flatV x=true):SeqAt.EqAt A s u v (eqV y x):=by
 cases y with
 | non =>
   cases ry
   cases x with
   | non=>cases rx; exact SeqAt.EqAt.same _
   | bl b=>cases rx; exact SeqAt.EqAt.none_bool b
   | int b=>obtain⟨t,rfl⟩:=rx; exact SeqAt.EqAt.none_int b t
   | str b=>obtain⟨t,rfl⟩:=rx; exact SeqAt.EqAt.none_str b t
   | _=>exact absurd (show false=true from fx) Bool.false_ne_true
 | bl a =>
   cases ry
   cases x with
   | non=>cases rx; exact SeqAt.EqAt.bool_none a
   | bl b=>cases rx; exact SeqAt.EqAt.bool_bool a b
   | int b=>obtain⟨t,rfl⟩:=rx; exact SeqAt.EqAt.bool_int a b t
   | str b=>obtain⟨t,rfl⟩:=rx; exact SeqAt.EqAt.bool_str a b t
   | _=>exact absurd (show false=true from fx) Bool.false_ne_true
 | int a =>
   obtain⟨t',rfl⟩:=ry
   cases x with
   | non=>cases rx; exact SeqAt.EqAt.int_none a t'
   | bl b=>cases rx; exact SeqAt.EqAt.int_bool a t' b
   | int b=>obtain⟨t,rfl⟩:=rx; exact SeqAt.EqAt.int_int a t' b t
   | str b=>obtain⟨t,rfl⟩:=rx; exact SeqAt.EqAt.int_str a t' b t
   | _=>exact absurd (show false=true from fx) Bool.false_ne_true
 | str a =>
   obtain⟨t',rfl⟩:=ry
   cases x with
   | non=>cases rx; exact SeqAt.EqAt.str_none a t'
   | bl b=>cases rx; exact SeqAt.EqAt.str_bool a t' b
   | int b=>obtain⟨t,rfl⟩:=rx; exact SeqAt.EqAt.str_int a t' b t
   | str b=>obtain⟨t,rfl⟩:=rx; exact SeqAt.EqAt.str_str a t' b t
   | _=>exact absurd (show false=true from fx) Bool.false_ne_true
 | _=>exact absurd (show false=true from fy) Bool.false_ne_true
def eqU (x:V) (u:Value):Bool:=match u with
 | .none=>eqV .non x
 | .bool b=>eqV (.bl b) x
 | .int i _=>eqV (.int i) x
 | .str z _=>eqV (.str z) x
 | _=>false
theorem eqU_of {x y:V} {u:Value} (r:RelV y u) (f:flatV y=true):eqU x u=eqV y x:=by
 cases y with
 | non=>cases r; rfl
 | bl b=>cases r; rfl
 | int i=>obtain⟨t,rfl⟩:=r; rfl
 | str z=>obtain⟨t,rfl⟩:=r; rfl
 | _=>exact absurd (show false=true from f) Bool.false_ne_true
theorem any_eqU {x:V}:∀ {xs:List V} {us:List Value},Vals xs us->xs.all flatV=true->us.any (eqU x)=xs.any fun y=>eqV y x
 | _,_,.nil,_=>rfl
 | y :: xs,u :: us,.cons r t,f=>by
   rw [List.all_cons,Bool.and_eq_true] at f
   rw [List.any_cons,List.any_cons,eqU_of r f.1,any_eqU t f.2]
theorem mem_eqAt {A:Around} {s:Shared} {x:V} {v:Value} (rx:RelV x v) (fx:flatV x=true):∀ {xs:List V} {us:List Value},Vals xs us->xs.all flatV=true->∀ u∈us,SeqAt.EqAt A s u v (eqU x u)
 | _,_,.nil,_=>fun u hu=>by cases hu
 | y :: xs,u :: us,.cons r t,f=>fun u' hu=>by
   rw [List.all_cons,Bool.and_eq_true] at f
   rcases List.mem_cons.mp hu with rfl | hu
   ·rw [eqU_of r f.1]; exact eqAt_V r rx f.1 fx
   ·exact mem_eqAt rx fx t f.2 u' hu
def inV (x:V) (xs:List V):Bool:=xs.any fun y=>eqV y x
def rIn (K:PySem.W.Frag) (neg:Bool):R2:=fun x y H Q=>∃ p xs,y=.ref p/\(SqL K H p xs\/SqT K H p xs)/\flatV x=true/\xs.all flatV=true/\Q (.bl (if neg then !inV x xs else inV x xs)) H
theorem op_in_seq:OpR X (compareOp .In) (rIn X.K false):=by
 walk_at"z7"
 obtain⟨p,xs,rfl,hq,fx,fs,q⟩:=h
 cases ry
 rcases hq with hq | hq
 ·obtain⟨its,r,pl,hz⟩:=I.list hq
  refine SeqAt.in_listAt (eqU x) pl.isList (fun w hw=>mem_eqAt rx fx r fs w (by simpa using hw)) ⟨.bl _,H,I,rfl,?_⟩
  rw [show its.toArray.any (eqU x)=its.any (eqU x) by simp,any_eqU r fs]
  exact q
 ·obtain⟨its,r,pl,hz⟩:=I.tuple hq
  refine SeqAt.in_tupleAt (eqU x) pl (fun w hw=>mem_eqAt rx fx r fs w (by simpa using hw)) ⟨.bl _,H,I,rfl,?_⟩
  rw [show its.toArray.any (eqU x)=its.any (eqU x) by simp,any_eqU r fs]
  exact q
theorem op_notIn_seq:OpR X (compareOp .NotIn) (rIn X.K true):=by
 walk_at"z7"
 obtain⟨p,xs,rfl,hq,fx,fs,q⟩:=h
 cases ry
 rcases hq with hq | hq
 ·obtain⟨its,r,pl,hz⟩:=I.list hq
  refine SeqAt.notIn_listAt (eqU x) pl.isList (fun w hw=>mem_eqAt rx fx r fs w (by simpa using hw)) ⟨.bl _,H,I,rfl,?_⟩
  rw [show its.toArray.any (eqU x)=its.any (eqU x) by simp,any_eqU r fs]
  exact q
 ·obtain⟨its,r,pl,hz⟩:=I.tuple hq
  refine SeqAt.notIn_tupleAt (eqU x) pl (fun w hw=>mem_eqAt rx fx r fs w (by simpa using hw)) ⟨.bl _,H,I,rfl,?_⟩
  rw [show its.toArray.any (eqU x)=its.any (eqU x) by simp,any_eqU r fs]
  exact q
theorem CallR.or {f:Value} {r r':List V->Hp->VK->Prop} (h:CallR X f r) (h':CallR X f r'):CallR X f (fun xs H Q=>r xs H Q\/r' xs H Q):=by
 intro pins s σ H xs us Q I rs q
 rcases q with q | q
 ·exact h pins s σ H xs us Q I rs q
 ·exact h' pins s σ H xs us Q I rs q
def tyV (K:PySem.W.Frag) (T:String) (x:V) (H:Hp):Prop:=match x with
 | .str _=>T = "str"
 | .int _=>T = "int"
 | .ref p=>(T = "list" /\ ∃ xs,SqL K H p xs)\/(T = "tuple" /\ ∃ o,K.lookup p=some o/\o.cls=.type "tuple" /\ o.dict=none) \/
  (T = "dict" /\ ((∃ kvs,H p=some (.dK kvs))\/∃ kvs,H p=some (.dT kvs)))\/(T = "set" /\ ∃ S n,H p=some (.set S n))
 | _=>False
theorem tyV_is {pins:List (Addr×Obj)} {σ:St} {H:Hp} {s:Shared} {T:String} {x:V} {v:Value} (I:Inv X pins σ H s) (r:RelV x v) (ty:tyV X.K T x H) :
 s.TypeIs v T/\∀ a,v=.ref a->∃ ob,s.heap.get? a=some ob/\ob.dict=none:=by
 cases x with
 | str z =>
   obtain⟨t,rfl⟩:=r
   cases (show T = "str" from ty)
   exact⟨typeIs_str s z t,fun _ e=>nomatch e⟩
 | int i =>
   obtain⟨t,rfl⟩:=r
   cases (show T = "int" from ty)
   exact⟨typeIs_int s i t,fun _ e=>nomatch e⟩
 | ref p =>
   cases r
   rcases ty with ⟨rfl,xs,hq⟩ | ⟨rfl,o,hk,hc,hd⟩ | ⟨rfl,hk⟩ | ⟨rfl,S,n,hk⟩
   ·obtain⟨its,_,pl,_⟩:=I.list hq
    refine⟨pl.isList.typeIs,fun a e=>?_⟩
    cases e
    obtain⟨o,n,e,c,hd,_⟩:=pl
    exact⟨o,e,hd⟩
   ·refine⟨⟨o,I.kIn p o hk,hc⟩,fun a e=>?_⟩
    cases e
    exact⟨o,I.kIn _ o hk,hd⟩
   ·have z:∃ o,s.heap.get? p=some o/\o.ExactDict:=by
     rcases hk with ⟨kvs,hk⟩ | ⟨kvs,hk⟩
     ·obtain⟨_,_,_,_,o,_,_,e,ex,_⟩:=I.hok p _ hk
      exact⟨o,e,ex⟩
     ·obtain⟨_,_,_,_,o,_,_,e,ex,_⟩:=I.hok p _ hk
      exact⟨o,e,ex⟩
    obtain⟨o,e,ex⟩:=z
    refine⟨⟨o,e,ex.1⟩,fun a e2=>?_⟩
    cases e2
    exact⟨o,e,ex.2.1⟩
   ·obtain⟨o,_,_,_,e,ex,_⟩:=I.hok p _ hk
    refine⟨⟨o,e,ex.1⟩,fun a e2=>?_⟩
    cases e2
    exact⟨o,e,ex.2.1⟩
 | _=>exact False.elim ty
def tBM0 (K:PySem.W.Frag) (T:String) (r:V->List V->Hp->VK->Prop) (to:TE):TE:=fun σ H Q=>to σ H fun x H1=>tyV K T x H1/\r x [] H1 Q
def tBM (K:PySem.W.Frag) (T:String) (r:V->List V->Hp->VK->Prop) (to:TE) (t:TA):TE:=fun σ H Q=>to σ H fun x H1=>tyV K T x H1/\t σ H1 fun xs H2=>r x xs H2 Q
variable {o e:Expr} {es:List Expr} {to:TE} {t:TA} {name:Str} {apos cpos:Pos} {T id:String} {r:V->List V->Hp->VK->Prop}
theorem pe_bm0 (pa:PlainAttrs T) (slot:Slot T name id) (hty:typeOf (.builtin id)=pure (.type "method_descriptor")) (hm:MtR X id r) (ho:PE X o to)
 (hbase:attributeBase o name X.env (eval o X.env)=eval o X.env:=by rfl) (hline:(apos.endLine == cpos.line)=true:=by rfl):PE X (.Call (.Attribute o name apos) [] [] cpos) (tBM0 X.K T r to):=by
 walk_at"z3"
 refine wpAny_Call_method0_late hbase hline (thn (ho pins s σ H _ I h) fun v s1 ⟨x,H1,I1,r1,ty,q1⟩=>?_)
 obtain⟨h1,h2⟩:=tyV_is I1 r1 ty
 exact⟨T,id,pa,slot,hty,h1,h2,Calls.callWith_builtin rfl (PySem.evalArgs_none (hm pins s1 σ H1 x [] v [] Q I1 r1 .nil q1))⟩
theorem pe_bm (pa:PlainAttrs T) (slot:Slot T name id) (hty:typeOf (.builtin id)=pure (.type "method_descriptor")) (hm:MtR X id r) (ho:PE X o to) (ha:PA X (e :: es) t)
 (hbase:attributeBase o name X.env (eval o X.env)=eval o X.env:=by rfl)
 (hfew:((backTo cpos (starEach (e :: es) X.env)).all (fun x=>!x.1) && (backToKw cpos (keywordEach [] X.env)).all (fun x=>x.1.isSome)
  && decide ((e :: es).length+([]:List Keyword).length+(if ([]:List Keyword).isEmpty then 0 else 1)<30))=true:=by rfl)
 (hline:(apos.endLine == cpos.line)=true:=by rfl) (hs:starEach (e :: es) X.env=(false,eval e X.env) :: starEach es X.env:=by rfl) (hplain:(backTo cpos (starEach es X.env)).any (·.1)=false:=by rfl) :
 PE X (.Call (.Attribute o name apos) (e :: es) [] cpos) (tBM X.K T r to t):=by
 walk_at"z3"
 refine wpAny_Call_method_late hbase hfew hline rfl (thn (ho pins s σ H _ I h) fun v s1 ⟨x,H1,I1,r1,ty,q1⟩=>?_)
 obtain⟨h1,h2⟩:=tyV_is I1 r1 ty
 refine⟨T,id,pa,slot,hty,h1,h2,?_⟩
 have hA:=ha cpos pins s1 σ H1 _ I1 q1
 rw [hs] at hA ⊢
 refine Calls.callWith_builtin (by show (false || (backTo cpos (starEach es X.env)).any (·.1))=false; rw [hplain] <;> rfl) (Calls.evalArgs_plain ?_)
 exact thn hA fun us s2 ⟨vs,H2,I2,r2,q2⟩=>hm pins s2 σ H2 x vs v us Q I2 r1 r2 q2
end
end L2
namespace L2
open PySem PySem.Spec PyProof.Rows
def MtM (X:Cx) (id:String) (r:V->List V->Hp->VK->Prop):Prop :=
 ∀ (pins:List (Addr×Obj)) (s:Shared) (σ:St) (H:Hp) (x:V) (xs:List V) (v:Value) (us:List Value) (Q:VK),Inv X pins σ H s->RelV x v->Vals xs us->r x xs H Q ->
  wpAny (model X.prog X.w) X.A (call (.builtin id) (v :: us)) (EP X pins σ Q) X.xe s
theorem Vals.one:∀ {x:V} {us:List Value},Vals [x] us->∃ u,us=[u]/\RelV x u
 | _,_,.cons r .nil=>⟨_,rfl,r⟩
theorem Vals.zero:∀ {us:List Value},Vals [] us->us=[]
 | _,.nil=>rfl
theorem Vals.dropLast {xs:List V} {us:List Value} (h:Vals xs us):Vals xs.dropLast us.dropLast:=by
 induction h with
 | nil=>exact .nil
 | cons r t ih =>
   cases t with
   | nil=>exact .nil
   | cons q t'=>exact .cons r ih
theorem Vals.rep {xs:List V} {us:List Value} (h:Vals xs us):∀ k:Nat,Vals (List.replicate k xs).flatten (List.replicate k us).flatten
 | 0=>.nil
 | k+1=>by
   rw [List.replicate_succ,List.replicate_succ,List.flatten_cons,List.flatten_cons]
   exact Vals.append h (Vals.rep h k)
theorem erase_last {α:Type} (l:List α):l.eraseIdx (l.length - 1)=l.dropLast:=by
 induction l with
 | nil=>rfl
 | cons a r ih =>
   cases r with
   | nil=>rfl
   | cons b r =>
     have e:(a :: b :: r).length - 1=((b :: r).length - 1)+1:=by
      have h1:(a :: b :: r).length=r.length+2:=rfl
      have h2:(b :: r).length=r.length+1:=rfl
      lia
     rw [e,List.eraseIdx_cons_succ,ih]
     all_goals rfl
theorem foldl_rep (its:List Value):∀ (k:Nat) (acc:List Value),
 List.foldl (fun x1 x2=>x1++x2) acc.toArray (List.replicate k its.toArray)=(acc++(List.replicate k its).flatten).toArray
 | 0,acc=>by simp
 | k+1,acc=>by
   have e:acc.toArray++its.toArray=(acc++its).toArray:=by simp
   have e2:(acc++its)++(List.replicate k its).flatten=acc++(List.replicate (k+1) its).flatten:=by
    rw [List.replicate_succ,List.flatten_cons,List.append_assoc]
   rw [<- e2,<- foldl_rep its k (acc++its),<- e,List.replicate_succ,List.foldl_cons]
section
variable {X:Cx} {pins:List (Addr×Obj)} {σ:St} {H:Hp} {s:Shared} {l b:Addr} {xs ys zs:List V}
theorem Inv.lset {its its':List Value} {n:Nat} {f:Array Value->Array Value} {t':Nat} (I:Inv X pins σ H s) (hH:H l=some (.lst xs))
 (e:s.heap.get? l=some { cls:=.type "list", data:=.seq its.toArray n }) (hf:f its.toArray=its'.toArray) (hv:Vals ys its') (hz:ys.length<=sizeLine) :
 Inv X pins σ (upd H l (.lst ys)) { s with heap:=s.heap.update l (Obj.mapSeq f),toks:=t' }:=by
 have q:=PySem.IsL.update e f
 rw [hf] at q
 refine I.write (x:=l) (e:=l) (by rw [hH]; exact trivial) (.inl rfl) (fun b' u hb hu=>(Heap.get?_update_other s.heap (Obj.mapSeq f) (Ne.symm hb)).trans hu) ⟨_,q⟩ ?_
 exact⟨hz,its',_,hv,q⟩
theorem Inv.lnew {its:List Value} {t':Nat} (I:Inv X pins σ H s) (hv:Vals ys its) (hz:ys.length<=sizeLine) :
 Inv X pins σ (upd H s.heap.objs.size (.lst ys)) { s with heap:=s.heap.push { cls:=.type "list", data:=.seq its.toArray },toks:=t' } :=
 I.laid (fun _ _ q=>Heap.get?_push_of_some _ q) (Nat.le_refl _) ⟨hz,its,0,hv,Heap.get?_push_size _ rfl⟩
theorem Inv.fresh (I:Inv X pins σ H s):H s.heap.objs.size=none:=I.hok.fresh (Nat.le_refl _)
theorem Inv.lstM (I:Inv X pins σ H s) (hH:H l=some (.lst xs)):xs.length<=sizeLine/\∃ (its:List Value) (n:Nat),Vals xs its/\xs.length=its.length/\s.heap.get? l=some { cls:=.type "list", data:=.seq its.toArray n }:=by
 obtain⟨z,its,n,r,e⟩:=I.hok l _ hH
 exact⟨z,its,n,r,r.length,e⟩
theorem notLongL {n:Nat} (h:n<=sizeLine):Builtin.List.listTooLong n=false:=by
 unfold Builtin.List.listTooLong
 exact decide_eq_false (by lia)
end
section
variable {X:Cx}
def rAppend:V->List V->Hp->VK->Prop:=fun x vs H Q=>∃ l xs y,x=.ref l/\vs=[y]/\H l=some (.lst xs)/\xs.length<sizeLine/\Q .non (upd H l (.lst (xs++[y])))
theorem mt_append:MtM X "list.append" rAppend:=by
 intro pins s σ H x vs v us Q I rx rv h
 obtain⟨l,xs,y,rfl,rfl,hH,hz,q⟩:=h
 cases rx
 obtain⟨u,rfl,ru⟩:=rv.one
 obtain⟨z,its,n,r,hl,e⟩:=I.lstM hH
 refine call_meets F.slot_list_append ⟨_,e,rfl⟩ F.entry_list_append (F.args_list_append_2 _ _) (PySem.list_append l its.toArray n u (by rw [List.size_toArray]; lia)) ⟨e,?_⟩
 refine⟨.non,_,I.lset (its':=its++[u]) hH e (by simp) (r.append (.cons ru .nil)) ?_,rfl,q⟩
 rw [List.length_append,List.length_singleton]
 lia
def rPop:V->List V->Hp->VK->Prop:=fun x vs H Q=>∃ l xs y,x=.ref l/\vs=[]/\H l=some (.lst xs)/\xs[xs.length - 1]? = some y/\Q y (upd H l (.lst xs.dropLast))
theorem mt_pop:MtM X "list.pop" rPop:=by
 intro pins s σ H x vs v us Q I rx rv h
 obtain⟨l,xs,y,rfl,rfl,hH,hy,q⟩:=h
 cases rx
 have hus:=rv.zero
 subst hus
 obtain⟨z,its,n,r,hl,e⟩:=I.lstM hH
 obtain⟨u,hu,ru⟩:=r.get hy
 have hy':its.toArray[its.toArray.size - 1]? = some u:=by
  show its.toArray[its.length - 1]? = some u
  rw [<- Array.getElem?_toList,<- hl]
  exact hu
 refine call_meets F.slot_list_pop ⟨_,e,rfl⟩ F.entry_list_pop (F.args_list_pop_1 _) (MeetsSeq.list_pop_last l its.toArray n u hy' (by rw [List.size_toArray]; lia)) ⟨e,?_⟩
 refine⟨y,_,I.lset (its':=its.dropLast) hH e ?_ r.dropLast ?_,ru,q⟩
 ·show its.toArray.eraseIdxIfInBounds (its.toArray.size - 1)=its.dropLast.toArray
  rw [List.size_toArray,List.eraseIdxIfInBounds_toArray,erase_last]
 ·rw [List.length_dropLast]
  lia
def rCat:R2:=fun x y H Q=>∃ l b xs zs,x=.ref l/\y=.ref b/\H l=some (.lst xs)/\H b=some (.lst zs)/\xs.length+zs.length<=sizeLine/\∀ p,H p=none->Q (.ref p) (upd H p (.lst (xs++zs)))
theorem op_cat:OpR X (binaryOp .Add) rCat:=by
 walk_at"z7"
 obtain⟨l,b,xs,zs,rfl,rfl,hH,hB,hz,q⟩:=h
 cases rx
 cases ry
 obtain⟨z,its,n,r,hl,e⟩:=I.lstM hH
 obtain⟨z2,its2,n2,r2,hl2,e2⟩:=I.lstM hB
 refine PySem.P.add_list e e2 ?_ (by rw [List.size_toArray,List.size_toArray]; lia)
 have ea:its.toArray++its2.toArray=(its++its2).toArray:=by simp
 rw [ea]
 exact⟨.ref _,_,I.lnew (t':=s.toks) (r.append r2) (by rw [List.length_append]; lia),rfl,q _ I.fresh⟩
def rRep:R2:=fun x y H Q=>∃ l k xs,x=.ref l/\y=.int k/\H l=some (.lst xs)/\-(2 ^ 63)<=k/\k<2 ^ 63/\xs.length*k.toNat<=sizeLine /\
 ∀ p,H p=none->Q (.ref p) (upd H p (.lst (List.replicate k.toNat xs).flatten))
theorem len_rep {α:Type} (xs:List α) (k:Nat):(List.replicate k xs).flatten.length=k*xs.length:=by
 induction k with
 | zero=>simp
 | succ k ih=>rw [List.replicate_succ,List.flatten_cons,List.length_append,ih,Nat.succ_mul,Nat.add_comm]
theorem op_rep:OpR X (binaryOp .Mult) rRep:=by
 walk_at"z7"
 obtain⟨l,k,xs,rfl,rfl,hH,h1,h2,hz,q⟩:=h
 cases rx
 obtain⟨t,rfl⟩:=ry
 obtain⟨z,its,n,r,hl,e⟩:=I.lstM hH
 have hlen:its.toArray.size*k.toNat<=sizeLine:=by rw [List.size_toArray,<- hl]; exact hz
 have hcap:¬ its.toArray.size*k.toNat > (2 ^ 63 - 1) / 8:=by
  have:(sizeLine:Nat)<=(2 ^ 63 - 1) / 8:=by decide
  lia
 have hfit:¬ (!Builtin.List.listFitsIndex k)=true:=by
  rw [fitsIndex_both h1 h2]
  exact Bool.false_ne_true
 have hlong:¬ Builtin.List.listTooLong (its.toArray.size*k.toNat)=true:=by
  rw [notLongL hlen]
  exact Bool.false_ne_true
 have hnew:List.foldl (fun x1 x2=>x1++x2) #[] (List.replicate (if its.toArray.isEmpty=true then 0 else k.toNat) its.toArray)=(List.replicate k.toNat its).flatten.toArray:=by
  have f0:∀ m:Nat,List.foldl (fun x1 x2=>x1++x2) #[] (List.replicate m its.toArray)=(List.replicate m its).flatten.toArray:=fun m=>by
   have:=foldl_rep its m []
   rw [List.nil_append] at this
   exact this
  rw [f0]
  cases its with
  | nil=>simp
  | cons a r'=>rw [if_neg (by simp)]
 refine wpAny_binaryOp_repeat_ref (T := "list") (U := "int") (by decide) ⟨_,e,rfl⟩ (fun s'=>typeIs_int s' k t) noFill_list_mul F.fills_int_mul F.slot_int_rmul repeat_list F.slot_int_index.lookup
  (call_meets F.slot_int_rmul (typeIs_int s k t) F.entry_int_rmul (F.args_int_rmul_2 _ _) (int___rmul___int_list k t l its.toArray n)
   ⟨e,rfl,⟨_,e,rfl⟩,call_meets F.slot_list_mul ⟨_,e,rfl⟩ F.entry_list_mul (F.args_list_mul_2 _ _) (AutoListH.list___mul___list_int_3 l its.toArray n k t hfit hcap hlong) ⟨e,?_⟩⟩)
 rw [hnew]
 exact⟨.ref _,_,I.lnew (t':=s.toks) (r.rep k.toNat) (by rw [len_rep,Nat.mul_comm]; exact hz),rfl,q _ I.fresh⟩
end
section
variable {prog:Program} {w:World} {A:Around} {E:Value->Shared->Prop} {s:Shared}
end
section
variable {X:Cx}
end
end L2
namespace Att
open PySem PySem.W PySem.Calls PyProof.Rows
theorem ints_of_wellAll {P:Params} {h:Heap}:∀ (ns:List Int) (vs:List Value),WellAll P h vs (ns.map WData.int)->IntsAre vs ns:=by
 intro ns
 induction ns with
 | nil =>
   intro vs w
   rw [List.map_nil] at w
   cases w
   exact .nil
 | cons n ns ih =>
   intro vs w
   rw [List.map_cons] at w
   cases w with
   | cons a b =>
     cases a
     exact .cons _ _ (ih _ b)
theorem script_of {l:OpenLaw} {n:Nat} (hn:l.most=some n) {P:Params} {h:Heap} {args:List WData} {vals:List Value}
 (hpre:l.row.toRowW.claim.pre args=true) (hwl:WellAll P h vals args) :
 ∃ a vs ns,vals=[Value.ref a]/\args=[WData.list (ns.map WData.int)]/\h.get? a=some { cls:=.type "list", data:=.seq vs.toArray }/\IntsAre vs ns/\ns.length<=n:=by
 have hsh:WShape.hasAll [] args [.list .int]=true:=(pre_splitW hpre).1
 have hc:l.pre.holds [] { args:=args }=true:=(pre_splitW hpre).2
 obtain⟨d,r,rfl,h1,h2⟩:=hasAllW_cons hsh
 obtain rfl:=hasAllW_nil h2
 obtain⟨xs,rfl,h3⟩:=hasW_list h1
 obtain⟨ns,rfl⟩:=items_int h3
 have hlen:ns.length<=n:=by
  unfold OpenLaw.pre at hc
  have h4:(WTm.not (.lt (.lit (.int (n:Int))) (.len (.arg 0)))).holds [] { args:=[.list (ns.map .int)] }=true:=by
   have h4:=(holds_andW hc).1
   rw [hn] at h4
   exact h4
  have h5:=condW_of h4 (w_not (w_lt w_lit (w_len_list (w_arg rfl))))
  rw [List.length_map] at h5
  refine Nat.le_of_not_lt fun q=>?_
  have q':(n:Int)<((ns.length:Nat):Int):=by lia
  first
   | (rw [decide_eq_true q'] at h5; exact absurd h5 (by decide))
   | (simp at h5; lia)
 cases hwl with
 | cons w1 w2 =>
   cases w2
   cases w1 with
   | list ho hall=>exact⟨_,_,ns,rfl,rfl,ho,ints_of_wellAll ns _ hall,hlen⟩
theorem post_true (l:OpenLaw) (args:List WData):l.row.toRowW.claim.post args (.bool true) args=true :=
 postW_of (r:=l.row.toRowW) (X:=(true == true))
  (show WShape.has [] (.bool true) .bool=true by first | rfl | decide | simp [WShape.has,WShape.arms,WShape.armsAll])
  (show (WTm.eq .res (.lit (.bool true))).value [] { args:=args,res:=some (.bool true),after:=args }=some (.bool (true == true)) from w_eq_bool (w_res rfl) w_lit) rfl
theorem attach_call {l:OpenLaw} {n:Nat} {q:Program} {loose:List Str} {XP:(Str->Option Value)->Heap->Prop} {YP:World->Heap->Prop} {d:DefRec}
 (hn:l.most=some n) (hdf:d.params.defaults=[])
 (call:∀ (w:World) (s₀ s₁:Shared) (mg mb:Str->Option Value) (fa:Addr) (o:Obj) (pm cd doc:Value) (a:Addr) (vs:List Value) (ns:List Int),
  Ground q loose [] XP w s₀ mg mb s₁.heap->YP w s₁.heap ->
  s₁.heap.get? fa=some o->o.data=.func (docDef d.name d.params d.body d.scope pm cd doc)->s₁.heap.CodeRec cd d.name->mg d.name=some (.ref fa) ->
  s₁.heap.get? a=some { cls:=.type "list", data:=.seq vs.toArray }->IntsAre vs ns->ns.length<=n->s₁.gens = #[] ->
  codeAny (model l.prog w) callerA (.call (.ref fa) ⟨[.ref a],[]⟩) (fun r s'=>r=.ok (.ret (.bool true))/\OldK s₁.heap s'.heap/\s'.os=s₁.os/\AllBare s'.gens) s₁) :
 WalkO q loose XP YP l.row.toRowW d [] (fun f vs=>PySem.call f vs):=by
 intro w s₀ s₁ mg mb G Y fa o pm cd doc dV kV ho hd hcd hD hmg hg args vals as hpre hlay hrd hwl hlo
 obtain rfl:dV=.none:=Dflts.none hD hdf
 obtain rfl:kV=.none:=Dflts.noKw hD
 obtain⟨a,vs,ns,rfl,rfl,hobj,hints,hlen⟩:=script_of hn hpre hwl
 refine enter_call (codeAny_mono (call w s₀ s₁ mg mb fa o pm cd doc a vs ns G Y ho (fd_plain hd) hcd hmg hobj hints hlen hg) fun r s' hq=>?_)
 obtain⟨rfl,h2,h3,h4⟩:=hq
 exact⟨.inl ⟨.bool true,.bool true,[],rfl,fun _=>rfl,.bool true,post_true l _,fun _=>⟨List.Pairwise.nil,fun _ hm=>(nomatch hm)⟩⟩,h2,h3,h4⟩
section
variable {prog:Program} {w:World} {A:Around} {E:Value->Shared->Prop} {s:Shared} {K:Frag}
end
end Att
namespace L2
open PySem PySem.Spec PyProof.Rows
theorem vals_ints:∀ {vs:List Value} {ns:List Int},IntsAre vs ns->Vals (ns.map V.int) vs
 | _,_,.nil=>.nil
 | _,_,.cons n t h=>.cons ⟨t,rfl⟩ (vals_ints h)
def Only (H:Hp):Prop:=∀ b,H b=none\/∃ o xs,H b=some (.frz o (.lst xs))
theorem law_call {P:Program} {w:World} {K:PySem.W.Frag} {mg mb:Str->Option Value} {CX:CXT} {k:Nat} {fa a:Addr} {fd:FuncData} {x:Str} {sp:Sp} {s₁:Shared} {vs:List Value} {ns:List Int}
 (KX:K.In s₁.heap) (hns:s₁.heap.Ns mainGlobals mg) (hb:s₁.heap.Ns builtinsNs mb) (hbb:∀ x:Str,x ≠ "__name__" -> mb x=bootBuiltins x) (hlim:s₁.heap.NoLimit) (hg:s₁.gens = #[])
 (ha:s₁.heap.get? a=some { cls:=.type "list", data:=.seq vs.toArray }) (hi:IntsAre vs ns) (hl:ns.length<=sizeLine) (hr:Room k callerA)
 (F:∀ base:Heap,K.In base->base.Ns mainGlobals mg->FnOk P w K mg base CX k fa fd [x] sp) (hbind:∀ (s:Shared) (u:Value),BindsTo s fd ⟨[u],[]⟩ [(x,u)])
 (hsp:∀ H:Hp,Only H->SqL K H a (ns.map V.int)->sp [.ref a] H (fun v _=>v=.bl true) fun _ _ _=>False)
 (hCX:∀ H e s',CX [] H s₁ (fun _ _ _=>False) e s'->False) :
 codeAny (model P w) callerA (.call (.ref fa) ⟨[.ref a],[]⟩) (fun r s'=>r=.ok (.ret (.bool true))/\OldK s₁.heap s'.heap/\s'.os=s₁.os/\AllBare s'.gens) s₁:=by
 have rv:=vals_ints hi
 have lenV:=hi.length
 have core:∀ H:Hp,Only H->SqL K H a (ns.map V.int)->HOk P w H s₁.heap->(∀ b,H b≠none->b=a)->(H a≠none->K.lookup a=none) ->
  codeAny (model P w) callerA (.call (.ref fa) ⟨[.ref a],[]⟩) (fun r s'=>r=.ok (.ret (.bool true))/\OldK s₁.heap s'.heap/\s'.os=s₁.os/\AllBare s'.gens) s₁:=by
  intro H hO hS hok hA hK
  have base_of:∀ {b:Addr} {o:Obj},s₁.heap.get? b=some o->H b=none->(hidT s₁.heap H).get? b=some o:=fun e n=>hidT_get e n
  have noA:∀ {b:Addr} {o:Obj} {es:Array DictEntry} {ep:Nat},s₁.heap.get? b=some o->o.data=.dict es ep->H b=none:=fun {b o es ep} e d=>by
   cases q:H b with
   | none=>rfl
   | some u =>
     have e':b=a:=hA b (by rw [q]; simp)
     subst e'
     rw [ha] at e; cases e
     have d':Data.seq vs.toArray _=Data.dict es ep:=d
     cases d'
  have nsK:∀ {b:Addr} {m:Str->Option Value},s₁.heap.Ns b m->(hidT s₁.heap H).Ns b m:=fun {b m} ⟨o,es,ep,e,d,r⟩=>⟨o,es,ep,base_of e (noA e d),d,r⟩
  have hKb:K.In (hidT s₁.heap H):=fun b o e=>base_of (KX b o e) (by
   cases q:H b with
   | none=>rfl
   | some u =>
     have e':b=a:=hA b (by rw [q]; simp)
     subst e'
     rw [hK (by rw [q]; simp)] at e; cases e)
  have hM:Mod K mg (hidT s₁.heap H):=⟨hKb,nsK hns,⟨mb,nsK hb,hbb⟩,let ⟨mc,h1,h2⟩:=hlim; ⟨mc,nsK h1,h2⟩⟩
  have e0:Env0 P w K mg (hidT s₁.heap H) callerA [] s₁ H:=⟨rfl,hM,fun b o e=>of_hidT e,Nat.le_of_eq (hidT_size _ _),trivial,fun b hb=>absurd (show b∈([]:List Addr) from hb) (by simp),hok,.of_eq hg⟩
  refine codeAny_mono ((F _ hKb (nsK hns)).run callerA [] s₁ H ⟨[.ref a],[]⟩ [.ref a] [.ref a] _ _ hr e0 (hbind s₁ (.ref a)) (.cons rfl .nil) (hsp H hO hS)) fun r s' h=>?_
  cases r with
  | error e=>exact (hCX H e s' h).elim
  | ok fl =>
    cases fl with
    | next=>exact False.elim h
    | brk=>exact False.elim h
    | cont=>exact False.elim h
    | ret u =>
      obtain⟨v,H',os,bare,un,hok',r',q⟩:=h
      have q':v=.bl true:=q
      subst q'
      obtain rfl:u=Value.bool true:=r'
      refine⟨rfl,OldK.of_keep fun b o e=>?_,os,bare⟩
      cases q:H b with
      | none=>exact un.keep b o e q (by intro z; exact absurd (show b∈([]:List Addr) from z) (by simp)) (by simp)
      | some u =>
        rcases hO b with z | ⟨ob,xs,z⟩
        ·rw [q] at z; cases z
        ·have z2:=un.frzs b ob _ z
         obtain⟨e1,_⟩:=hok b _ z
         obtain⟨e2,_⟩:=hok' b _ z2
         rw [e] at e1; cases e1
         exact e2
 cases hk:K.lookup a with
 | some o =>
   have e:=KX a o hk
   rw [ha] at e
   cases e
   refine core (fun _=>none) (fun _=>.inl rfl) (.inr ⟨_,vs.toArray,_,hk,rfl,rfl,rfl,by rw [List.size_toArray,lenV]; exact hl,by simpa using rv⟩) (fun b u z=>by have z':(none:Option HO)=some u:=z; cases z') (fun b z=>absurd rfl z) fun z=>absurd rfl z
 | none =>
   refine core (fun b=>if b=a then some (.frz { cls:=.type "list", data:=.seq vs.toArray } (.lst (ns.map V.int))) else none) (fun b=>?_) (.inl (.inr ⟨{ cls:=.type "list", data:=.seq vs.toArray },if_pos rfl⟩)) (fun b u z=>?_) (fun b z=>?_) fun _=>hk
   ·by_cases hb:b=a
    ·exact .inr ⟨_,_,if_pos hb⟩
    ·exact .inl (if_neg hb)
   ·by_cases hb:b=a
    ·have z':=(if_pos hb).symm.trans z
     cases z'
     subst hb
     exact⟨ha,by rw [List.length_map]; exact hl,vs,_,rv,ha⟩
    ·have z':=(if_neg hb).symm.trans z
     cases z'
   ·by_cases hb:b=a
    ·exact hb
    ·exact absurd (if_neg hb) z
end L2
namespace L2
open PySem PySem.Spec PyProof.Rows
theorem walk_of {l:PySem.W.OpenLaw} {n k:Nat} {q:Program} {loose:List Str} {XP:(Str->Option Value)->Heap->Prop} {YP:World->Heap->Prop} {d:DefRec} {K:Params->PySem.W.Frag} {CX:World->CXT} {sp:World->Sp} {x:Str}
 (hn:l.most=some n) (hn2:n<=sizeLine) (hdf:d.params.defaults=[]) (hr:Room k callerA)
 (hY:∀ (w:World) (h:Heap),YP w h->(K w.params).In h)
 (F:∀ (w:World) (mg:Str->Option Value) (fa:Addr) (h:Heap),(K w.params).In h->h.Ns mainGlobals mg->mg d.name=some (.ref fa) ->
  ∃ fd:FuncData,(∀ (s:Shared) (u:Value),BindsTo s fd ⟨[u],[]⟩ [(x,u)]) /\
   ∀ base:Heap,(K w.params).In base->base.Ns mainGlobals mg->FnOk l.prog w (K w.params) mg base (CX w) k fa fd [x] (sp w))
 (hsp:∀ (w:World) (H:Hp) (a:Addr) (ns:List Int),ns.length<=n->Only H->SqL (K w.params) H a (ns.map V.int)->sp w [.ref a] H (fun v _=>v=.bl true) fun _ _ _=>False)
 (hCX:∀ (w:World) (H:Hp) (s:Shared) (e:Value) (s':Shared),CX w [] H s (fun _ _ _=>False) e s'->False) :
 PySem.W.WalkO q loose XP YP l.row.toRowW d [] (fun f vs=>PySem.call f vs):=by
 refine Att.attach_call hn hdf fun w s₀ s₁ mg mb fa o pm cd doc a vs ns G Y ho hd hcd hmg hobj hints hlen hg=>?_
 have KX:=hY w _ Y
 obtain⟨fd,hb,hF⟩:=F w mg fa _ KX G.T.g hmg
 exact law_call KX G.T.g G.T.b G.T.builtins G.T.nolimit hg hobj hints (Nat.le_trans hlen hn2) hr hF hb (fun H hO hS=>hsp w H a ns hlen hO hS) fun H e s'=>hCX w H s₁ e s'
end L2
namespace L2
open PySem PySem.Spec PyProof.Rows
def inClass (s:Stmt) (j:Nat):Stmt:=match s with
 | .ClassDef _ _ _ body _ _ _ _ _ _ _=>body.getD j (.Pass ⟨0,0,0,0⟩)
 | _=>.Pass ⟨0,0,0,0⟩
def defArgs (s:Stmt):Arguments:=match s with
 | .FunctionDef _ a _ _ _ _ _ _ _ _=>a
 | _=>{ posonlyargs:=[],args:=[],vararg:=none,kwonlyargs:=[],kw_defaults:=[],kwarg:=none,defaults:=[] }
def defBody (s:Stmt):List Stmt:=match s with
 | .FunctionDef _ _ b _ _ _ _ _ _ _=>b
 | _=>[]
def defScope (s:Stmt):Scope:=match s with
 | .FunctionDef _ _ _ _ _ _ sc _ _ _=>sc
 | _=>{ kind:=.function,names:=[],isGenerator:=false,isCoroutine:=false }
abbrev CX0:CXT:=fun _ _ _ _ _ _=>False
abbrev E0:XK:=fun _ _ _=>False
theorem pass0 {X:Cx}:Passes CX0 X E0:=fun _ _ _ _ _ _ _ h=>h.elim
structure Fun (K:PySem.W.Frag) (x qual:Str) (st:Stmt) (f:Addr) (fd:FuncData):Prop where
 ex:∃ (oc:Value) (od:Option Addr) (kV doc pm:Value) (an:Option Addr) (cdv ct:Value) (osl:Array (Option Value)),
  fd=PySem.W.fnOf x qual (defArgs st) (defBody st) (defScope st) .none kV doc pm an cdv ct/\K.lookup f=some ⟨oc,od,.func fd,osl⟩/\PySem.W.codeIn K cdv qual=true
 kp:PySem.W.keepIn K (.ref f)=true
section
variable {P:Program} {w:World} {K:PySem.W.Frag} {mg:Str->Option Value} {base:Heap}
theorem Fun.ok {x qual:Str} {st:Stmt} {f:Addr} {fd:FuncData} {N ps:List Str} {k:Nat} {sp:Sp} (F:Fun K x qual st f fd) (S:FnScope N ps (defScope st)) (len:∀ vs H Q E,sp vs H Q E->vs.length=ps.length)
 (hbody:∀ (cdv:Value) (A:Around) (outer:List Env) (s:Shared) (H:Hp) (vs:List V) (Q:VK) (E:XK),Room k (A.deeper (envOfC qual (defScope st) s.heap.objs.size f cdv))->sp vs H Q E ->
  ∃ t,PSs (cxOf CX0 P w K mg base N qual (defScope st) f cdv A outer s H E).nox (defBody st) t/\t { nx:=fun _ H'=>Q .non H',rt:=Q } (start N vs) H):FnOk P w K mg base CX0 (k+1) f fd ps sp:=by
 walk_at"z15"
 refine fn_of lk hcd S len fun A outer s H vs Q E hr hsp=>?_
 obtain⟨t,h,q⟩:=hbody cdv A outer s H vs Q E hr hsp
 exact⟨t,h.nox,q⟩
theorem Fun.binds {x qual:Str} {st:Stmt} {f:Addr} {fd:FuncData} {ps:List Str} (F:Fun K x qual st f fd)
 (h:∀ (kV doc pm:Value) (an:Option Addr) (cdv ct:Value) (us:List Value),us.length=ps.length->bindArgs (PySem.W.fnOf x qual (defArgs st) (defBody st) (defScope st) .none kV doc pm an cdv ct) ⟨us,[]⟩=pure (ps.zip us)):Binds K fd ps []:=by
 walk_at"z15"
 exact .all (h kV doc pm an cdv ct)
theorem fun_mk {x qual:Str} {st:Stmt} {f:Addr} {oc:Value} {od an:Option Addr} {osl:Array (Option Value)} {kV doc pm cdv ct:Value} (l:K.lookup f=some ⟨oc,od,.func (PySem.W.fnOf x qual (defArgs st) (defBody st) (defScope st) .none kV doc pm an cdv ct),osl⟩)
 (c:PySem.W.codeIn K cdv qual=true) (k:PySem.W.keepIn K (.ref f)=true):Fun K x qual st f (PySem.W.fnOf x qual (defArgs st) (defBody st) (defScope st) .none kV doc pm an cdv ct):=⟨⟨oc,od,kV,doc,pm,an,cdv,ct,osl,rfl,l,c⟩,k⟩
end
section
variable {X:Cx}
theorem pv (i:Nat) {x:Str} {pos:Pos} (hN:X.N[i]? = some x:=by rfl) (hv:Vis X.env.scope x:=by first | exact Or.inl rfl | exact Or.inr (Or.inl rfl) | exact Or.inr (Or.inr rfl)) (hd:(x == ("__debug__" : Str))=false:=by decide)
 (hcd:(x == ("__classdict__" : Str))=false:=by decide):PE X (.Name x pos) (tVar i):=pe_var hN hv hd hcd
end
theorem iteF {A B:Prop} (h:B):if false=true then A else B:=by
 rw [if_neg Bool.false_ne_true]
 exact h
theorem iteT {A B:Prop} (h:A):if true=true then A else B:=by
 rw [if_pos rfl]
 exact h
def Same (H H':Hp):Prop:=∀ b o,H b=some o->H' b=some o
theorem Same.refl (H:Hp):Same H H:=fun _ _ h=>h
theorem Same.trans {H H1 H2:Hp} (a:Same H H1) (b:Same H1 H2):Same H H2:=fun c o h=>b c o (a c o h)
theorem Same.free {H H':Hp} (e:Same H H') {l:Addr} (h:H' l=Option.none):H l=Option.none:=by
 cases q:H l with
 | none=>rfl
 | some o =>
   rw [e l o q] at h
   cases h
theorem Same.seq {K:PySem.W.Frag} {H H':Hp} {a:Addr} {xs:List V} (e:Same H H') (h:SqL K H a xs):SqL K H' a xs:=by
 rcases h with (h | ⟨o,h⟩) | h
 ·exact .inl (.inl (e _ _ h))
 ·exact .inl (.inr ⟨o,e _ _ h⟩)
 ·exact .inr h
end L2
namespace L2
open PySem PySem.Spec PyProof.Rows
def PdAt (K:PySem.W.Frag) (H:Hp):Nat->PyData->V->Prop
 | 0,d,v=>match d with
   | .none=>v=.non
   | .bool b=>v=.bl b
   | .int i=>v=.int i
   | .str x=>v=.str x/\PyData.strOk x=true
   | _=>False
 | n+1,d,v=>match d with
   | .none=>v=.non
   | .bool b=>v=.bl b
   | .int i=>v=.int i
   | .str x=>v=.str x/\PyData.strOk x=true
   | .list ds=>∃ a xs,v=.ref a/\SqL K H a xs/\Paired (PdAt K H n) ds xs
   | .tuple ds=>∃ a xs,v=.ref a/\SqT K H a xs/\Paired (PdAt K H n) ds xs
   | .dict _=>False
section
variable {X:Cx} {pins:List (Addr×Obj)} {σ:St} {H:Hp} {s:Shared}
theorem pd_reads (I:Inv X pins σ H s):∀ (n:Nat) (d:PyData) (v:V) (u:Value),PdAt X.K H n d v->RelV v u->∃ as,Reads s.heap u d as:=by
 intro n
 induction n with
 | zero =>
   intro d v u h r
   cases d with
   | none=>cases (show v=.non from h); cases (show u=Value.none from r); exact⟨_,Reads.none⟩
   | bool b=>cases (show v=.bl b from h); cases (show u=Value.bool b from r); exact⟨_,Reads.bool b⟩
   | int i=>cases (show v=.int i from h); obtain⟨t,rfl⟩:=(show ∃ t,u=Value.int i t from r); exact⟨_,Reads.int i t⟩
   | str x=>cases (show v=.str x/\_ from h).1; obtain⟨t,rfl⟩:=(show ∃ t,u=Value.str x t from r); exact⟨_,Reads.str x t⟩
   | list _=>exact (show False from h).elim
   | tuple _=>exact (show False from h).elim
   | dict _=>exact (show False from h).elim
 | succ n ih =>
   have all:∀ (ds:List PyData) (xs:List V) (us:List Value),Paired (PdAt X.K H n) ds xs->Vals xs us->∃ as,ReadsAll s.heap us ds as:=by
    intro ds xs us p
    induction p generalizing us with
    | nil=>intro r; cases r; exact⟨_,ReadsAll.nil⟩
    | cons q _ hi =>
      intro r
      cases r with
      | cons r1 rr =>
        obtain⟨as,h1⟩:=ih _ _ _ q r1
        obtain⟨bs,h2⟩:=hi _ rr
        exact⟨_,ReadsAll.cons h1 h2⟩
   intro d v u h r
   cases d with
   | none=>cases (show v=.non from h); cases (show u=Value.none from r); exact⟨_,Reads.none⟩
   | bool b=>cases (show v=.bl b from h); cases (show u=Value.bool b from r); exact⟨_,Reads.bool b⟩
   | int i=>cases (show v=.int i from h); obtain⟨t,rfl⟩:=(show ∃ t,u=Value.int i t from r); exact⟨_,Reads.int i t⟩
   | str x=>cases (show v=.str x/\_ from h).1; obtain⟨t,rfl⟩:=(show ∃ t,u=Value.str x t from r); exact⟨_,Reads.str x t⟩
   | list ds =>
     obtain⟨a,xs,rfl,hq,hp⟩:=(show ∃ a xs,v=.ref a/\SqL X.K H a xs/\Paired (PdAt X.K H n) ds xs from h)
     cases (show u=Value.ref a from r)
     obtain⟨its,rv,pl,hz⟩:=I.list hq
     obtain⟨as,ra⟩:=all _ _ _ hp rv
     obtain⟨o,ho,hc,k,hd⟩:=pl.isList
     exact⟨_,reads_list_at ho hc hd (by simpa using ra)⟩
   | tuple ds =>
     obtain⟨a,xs,rfl,hq,hp⟩:=(show ∃ a xs,v=.ref a/\SqT X.K H a xs/\Paired (PdAt X.K H n) ds xs from h)
     cases (show u=Value.ref a from r)
     obtain⟨its,rv,pl,hz⟩:=I.tuple hq
     obtain⟨as,ra⟩:=all _ _ _ hp rv
     obtain⟨o,ho,hc,k,hd⟩:=(show s.heap.IsTuple a its.toArray from pl)
     exact⟨_,reads_tuple_at ho hc hd (by simpa using ra)⟩
   | dict _=>exact (show False from h).elim
end
theorem pd_shape {K:PySem.W.Frag} {H:Hp}:∀ (n:Nat) (d:PyData) (v:V),PdAt K H n d v->d.canLay0=true/\d.depth<=n:=by
 intro n
 induction n with
 | zero =>
   intro d v h
   cases d with
   | str x=>simp [PyData.canLay0,PyData.depth,(show v=.str x/\PyData.strOk x=true from h).2]
   | list _=>exact (show False from h).elim
   | tuple _=>exact (show False from h).elim
   | dict _=>exact (show False from h).elim
   | _=>simp [PyData.canLay0,PyData.depth]
 | succ n ih =>
   have all:∀ (ds:List PyData) (xs:List V),Paired (PdAt K H n) ds xs->PyData.canLayAll0 ds=true/\PyData.depthAll ds<=n:=by
    intro ds xs p
    induction p with
    | nil=>simp [PyData.canLayAll0,PyData.depthAll]
    | cons q _ hi =>
      have h1:=ih _ _ q
      simp only [PyData.canLayAll0,PyData.depthAll,h1.1,hi.1,Bool.and_self,true_and]
      have a1:=h1.2
      have a2:=hi.2
      lia
   intro d v h
   cases d with
   | str x=>simp [PyData.canLay0,PyData.depth,(show v=.str x/\PyData.strOk x=true from h).2]
   | list ds =>
     obtain⟨a,xs,rfl,hq,hp⟩:=(show ∃ a xs,v=.ref a/\SqL K H a xs/\Paired (PdAt K H n) ds xs from h)
     have q:=all _ _ hp
     have q2:=q.2
     simp only [PyData.canLay0,PyData.depth,q.1,true_and]
     lia
   | tuple ds =>
     obtain⟨a,xs,rfl,hq,hp⟩:=(show ∃ a xs,v=.ref a/\SqT K H a xs/\Paired (PdAt K H n) ds xs from h)
     have q:=all _ _ hp
     have q2:=q.2
     simp only [PyData.canLay0,PyData.depth,q.1,true_and]
     lia
   | dict _=>exact (show False from h).elim
   | _=>simp [PyData.canLay0,PyData.depth]
def rEqP (K:PySem.W.Frag):R2:=fun x y H Q=>∃ d e,PdAt K H 9 d x/\PdAt K H 9 e y/\Q (.bl (PyData.eqv d e)) H
def rNeP (K:PySem.W.Frag):R2:=fun x y H Q=>∃ d e,PdAt K H 9 d x/\PdAt K H 9 e y/\Q (.bl (!PyData.eqv d e)) H
section
variable {X:Cx}
theorem pd_shaped {K:PySem.W.Frag} {H:Hp} {d:PyData} {v:V} (h:PdAt K H 9 d v):SeqAt.shaped d=true:=by
 have q:=pd_shape 9 d v h
 unfold SeqAt.shaped
 rw [q.1,Bool.true_and]
 exact decide_eq_true (Nat.le_trans q.2 (by decide))
theorem op_eqP (hu:X.A.units+64<cLine):OpR X (compareOp .Eq) (rEqP X.K):=by
 walk_at"z7"
 obtain⟨d,e,hd,he,q⟩:=h
 obtain⟨as,ra⟩:=pd_reads I 9 d x v hd rx
 obtain⟨bs,rb⟩:=pd_reads I 9 e y u he ry
 exact eq_dataH ra rb (pd_shaped hd) (pd_shaped he) hu ⟨.bl _,H,I,rfl,q⟩
theorem op_neP (hu:X.A.units+64<cLine):OpR X (compareOp .NotEq) (rNeP X.K):=by
 walk_at"z7"
 obtain⟨d,e,hd,he,q⟩:=h
 obtain⟨as,ra⟩:=pd_reads I 9 d x v hd rx
 obtain⟨bs,rb⟩:=pd_reads I 9 e y u he ry
 exact ne_dataH ra rb (pd_shaped hd) (pd_shaped he) hu ⟨.bl _,H,I,rfl,q⟩
end
abbrev iL (ns:List Int):List V:=ns.map V.int
abbrev pL (ns:List Int):PyData:=.list (ns.map PyData.int)
theorem eqvAll_ints:∀ (xs ys:List Int),PyData.eqvAll (xs.map PyData.int) (ys.map PyData.int)=decide (xs=ys)
 | [],[]=>by simp [PyData.eqvAll]
 | [],y :: ys=>by simp [PyData.eqvAll]
 | x :: xs,[]=>by simp [PyData.eqvAll]
 | x :: xs,y :: ys=>by
   simp only [List.map_cons,PyData.eqvAll,PyData.eqv,eqvAll_ints xs ys,List.cons.injEq]
   by_cases h1:x=y <;> by_cases h2:xs=ys <;> simp [h1,h2]
theorem eqv_pints (xs ys:List Int):PyData.eqv (pL xs) (pL ys)=decide (xs=ys):=by
 show PyData.eqvAll _ _=_
 exact eqvAll_ints xs ys
theorem paired_ints {K:PySem.W.Frag} {H:Hp} {n:Nat}:∀ ns:List Int,Paired (PdAt K H n) (ns.map PyData.int) (iL ns)
 | []=>.nil
 | i :: ns=>.cons (by cases n <;> exact (rfl:V.int i=V.int i)) (paired_ints ns)
theorem pd_ints {K:PySem.W.Frag} {H:Hp} {n:Nat} {a:Addr} {ns:List Int} (h:SqL K H a (iL ns)):PdAt K H (n+1) (pL ns) (.ref a):=⟨a,iL ns,rfl,h,paired_ints ns⟩
theorem pd_int {K:PySem.W.Frag} {H:Hp} {n:Nat} {i:Int}:PdAt K H n (.int i) (.int i):=by cases n <;> exact (rfl:V.int i=V.int i)
theorem pd_bl {K:PySem.W.Frag} {H:Hp} {n:Nat} {b:Bool}:PdAt K H n (.bool b) (.bl b):=by cases n <;> exact (rfl:V.bl b=V.bl b)
section
variable {K:PySem.W.Frag} {σ:St} {H:Hp} {Q:VK}
theorem i_var {i:Nat} {v:V} (h:σ[i]? = some (some v)) (q:Q v H):tVar i σ H Q:=⟨v,h,q⟩
theorem i_I0 {g:Int->Int->V} {i j:Int} (q:Q (g i j) H):rI0 g (.int i) (.int j) H Q:=⟨i,j,rfl,rfl,q⟩
theorem i_U {g:Int->V} {i:Int} (q:Q (g i) H):rU g (.int i) H Q:=⟨i,rfl,q⟩
theorem beq_dec (i j:Int):(i == j)=decide (i=j):=by
 by_cases h:i=j <;> simp [h]
theorem i_eqI {i j:Int} (q:Q (.bl (decide (i=j))) H):rEqP K (.int i) (.int j) H Q:=⟨_,_,pd_int,pd_int,by rw [<- beq_dec] at q; simpa [PyData.eqv] using q⟩
theorem i_neI {i j:Int} (q:Q (.bl (!decide (i=j))) H):rNeP K (.int i) (.int j) H Q:=⟨_,_,pd_int,pd_int,by rw [<- beq_dec] at q; simpa [PyData.eqv] using q⟩
theorem i_eqL {a b:Addr} {xs ys:List Int} (ha:SqL K H a (iL xs)) (hb:SqL K H b (iL ys)) (q:Q (.bl (decide (xs=ys))) H):rEqP K (.ref a) (.ref b) H Q:=⟨_,_,pd_ints ha,pd_ints hb,by rw [eqv_pints]; exact q⟩
end
def rAddP:R2:=fun x y H Q=>rI0 (fun i j=>.int (i+j)) x y H Q\/rCat x y H Q
def rIxP (K:PySem.W.Frag):R2:=fun x y H Q=>rIxL K x y H Q\/rIxT K x y H Q
def rMulP:R2:=fun x y H Q=>rI CMul (fun i j=>.int (i*j)) x y H Q\/rRep x y H Q
section
variable {X:Cx}
theorem op_addP:OpR X (binaryOp .Add) rAddP:=op_add.or op_cat
theorem op_mulP:OpR X (binaryOp .Mult) rMulP:=op_mul.or op_rep
theorem ix_P:IxR X (rIxP X.K):=ix_list.or ix_tup
end
section
variable {K:PySem.W.Frag} {σ:St} {H:Hp} {Q:VK}
theorem i_addI {i j:Int} (q:Q (.int (i+j)) H):rAddP (.int i) (.int j) H Q:=.inl ⟨i,j,rfl,rfl,q⟩
theorem i_addL {a b:Addr} {xs ys:List V} (ha:H a=some (.lst xs)) (hb:H b=some (.lst ys)) (hl:xs.length+ys.length<=sizeLine) (q:∀ p,H p=none->Q (.ref p) (upd H p (.lst (xs++ys)))):rAddP (.ref a) (.ref b) H Q:=.inr ⟨a,b,xs,ys,rfl,rfl,ha,hb,hl,q⟩
theorem i_mulI {i j:Int} (c:CMul i j) (q:Q (.int (i*j)) H):rMulP (.int i) (.int j) H Q:=.inl ⟨i,j,rfl,rfl,c,q⟩
theorem atI_ints {ns:List Int} {i:Int} (h0:0<=i) (h1:i<ns.length):∃ v,atI (iL ns) i=some (.int v)/\ns[i.toNat]? = some v/\v∈ns:=by
 have hl:i.toNat<ns.length:=by lia
 refine⟨ns[i.toNat],?_,by simp [hl],List.getElem_mem hl⟩
 have:=atI_nat (xs:=iL ns) (j:=i.toNat) (v:=.int ns[i.toNat]) (by simp [iL,hl])
 rwa [Int.toNat_of_nonneg h0] at this
theorem i_ixL {p:Addr} {ns:List Int} {i:Int} (h:SqL K H p (iL ns)) (h0:0<=i) (h1:i<ns.length) (q:∀ v,ns[i.toNat]? = some v->v∈ns->Q (.int v) H):rIxP K (.ref p) (.int i) H Q:=by
 obtain⟨v,e1,e2,e3⟩:=atI_ints h0 h1
 exact .inl ⟨p,_,i,_,rfl,rfl,h,e1,q v e2 e3⟩
theorem i_ixN {p:Addr} {xs:List V} {i:Int} {v:V} (h:SqL K H p xs) (h0:0<=i) (e:xs[i.toNat]? = some v) (q:Q v H):rIxP K (.ref p) (.int i) H Q:=by
 have:=atI_nat (xs:=xs) (j:=i.toNat) (v:=v) e
 rw [Int.toNat_of_nonneg h0] at this
 exact .inl ⟨p,_,i,_,rfl,rfl,h,this,q⟩
theorem i_ixT {p:Addr} {xs:List V} {i:Int} {v:V} (h:SqT K H p xs) (h0:0<=i) (e:xs[i.toNat]? = some v) (q:Q v H):rIxP K (.ref p) (.int i) H Q:=by
 have:=atI_nat (xs:=xs) (j:=i.toNat) (v:=v) e
 rw [Int.toNat_of_nonneg h0] at this
 exact .inr ⟨p,_,i,_,rfl,rfl,h,this,q⟩
theorem i_ixLast {p:Addr} {xs:List V} {v:V} (h:SqL K H p (xs++[v])) (q:Q v H):rIxP K (.ref p) (.int (-1)) H Q:=.inl ⟨p,_,_,_,rfl,rfl,h,atI_last xs v,q⟩
end
def Callee (P:Program) (w:World) (K:PySem.W.Frag) (mg:Str->Option Value) (base:Heap) (x:Str) (k:Nat) (sp:Sp):Prop :=
 ∃ f fd ps,FnOk P w K mg base CX0 k f fd ps sp/\mg x=some (.ref f)/\PySem.W.keepIn K (.ref f)=true/\Binds K fd ps []
def Def (K:PySem.W.Frag) (mg:Str->Option Value) (x:Str) (st:Stmt):Prop:=∃ f fd,Fun K x x st f fd/\mg x=some (.ref f)
section
variable {X:Cx} {x:Str} {k:Nat} {sp:Sp} {e:Expr} {es:List Expr} {t:TA} {p pos:Pos}
theorem pe_callN (C:Callee X.prog X.w X.K X.mg X.base x k sp) (hr:Room k X.A) (hg:Gl X x) (ha:PA X (e :: es) t)
 (he:starEach (e :: es) X.env=(false,eval e X.env) :: starEach es X.env:=by rfl) (hpl:(backTo pos (starEach es X.env)).any (·.1)=false:=by rfl)
 (hdb:(x == ("__debug__" : Str))=false:=by decide):PE X (.Call (.Name x p) (e :: es) [] pos) (tCall sp [] E0 t):=by
 obtain⟨f,fd,ps,F,hm,hk,hb⟩:=C
 exact pe_call F hr hg hm hk hb .nil pass0 ha (hdb:=hdb) (he:=he) (hpl:=hpl)
def rTru (K:PySem.W.Frag) (x:V) (H:Hp) (Q:Bool->Hp->Prop):Prop:=∃ k,TruV K x H k/\Q k H
def tTru (K:PySem.W.Frag) (ta:TE):TT:=fun σ H Q=>ta σ H fun x H'=>rTru K x H' Q
theorem pt_truthN {a:Expr} {ta:TE} (ha:PE X a ta) (he:∀ whole,isTrue a X.env whole=(do let v <- whole; standAt a.pos; holding [v] (truthy v))) :
 PT X a (tTru X.K ta):=pt_truth ha he
end
theorem Def.ok {P:Program} {w:World} {K:PySem.W.Frag} {mg:Str->Option Value} {base:Heap} {x:Str} {st:Stmt} {N ps:List Str} {k:Nat} {sp:Sp} (D:Def K mg x st) (S:FnScope N ps (defScope st))
 (bd:∀ (kV doc pm:Value) (an:Option Addr) (cdv ct:Value) (us:List Value),us.length=ps.length->bindArgs (PySem.W.fnOf x x (defArgs st) (defBody st) (defScope st) .none kV doc pm an cdv ct) ⟨us,[]⟩=pure (ps.zip us))
 (len:∀ vs H Q E,sp vs H Q E->vs.length=ps.length)
 (hbody:∀ (f:Addr) (cdv:Value) (A:Around) (outer:List Env) (s:Shared) (H:Hp) (vs:List V) (Q:VK) (E:XK),Room k (A.deeper (envOfC x (defScope st) s.heap.objs.size f cdv))->sp vs H Q E ->
  ∃ t,PSs (cxOf CX0 P w K mg base N x (defScope st) f cdv A outer s H E).nox (defBody st) t/\t { nx:=fun _ H'=>Q .non H',rt:=Q } (start N vs) H):Callee P w K mg base x (k+1) sp:=by
 obtain⟨f,fd,F,hm⟩:=D
 exact⟨f,fd,ps,F.ok S len fun cdv A outer s H vs Q E hr h=>hbody f cdv A outer s H vs Q E hr h,hm,F.kp,F.binds bd⟩
def rLen (K:PySem.W.Frag):List V->Hp->VK->Prop:=fun xs H Q=>∃ x n,xs=[x]/\LenV K x H n/\Q (.int n) H
def rIsi (K:PySem.W.Frag):List V->Hp->VK->Prop:=fun xs H Q=>∃ x t n b,xs=[x,.ty n]/\TyOf K H x t/\PySem.W.kitOne K t (.type n)=some b/\Q (.bl b) H
def rIntOf:List V->Hp->VK->Prop:=fun xs H Q=>(∃ i,xs=[.int i]/\Q (.int i) H)\/∃ k,xs=[.bl k]/\Q (.int (if k then 1 else 0)) H
def rAbs:List V->Hp->VK->Prop:=fun xs H Q=>∃ i,xs=[.int i]/\Q (.int (if i<0 then -i else i)) H
section
variable {X:Cx}
theorem call_lenN:CallR X (.builtin "len") (rLen X.K):=call_len
theorem call_intN:CallR X (.type "int") rIntOf:=call_int1
theorem call_absN:CallR X (.builtin "abs") rAbs:=call_abs
theorem call_isinstanceN:CallR X (.builtin "isinstance") (rIsi X.K):=by
 walk_at"z12"
 obtain⟨x,t,n,b,rfl,ty,e,q⟩:=h
 obtain⟨u,c,rfl,rx,rc⟩:=vals2 r
 cases (show c=Value.type n from rc)
 exact isinst_ok I rx ty e fun tk=>⟨.bl b,H,I.tok tk,rfl,q⟩
end
section
variable {K:PySem.W.Frag} {σ:St} {H:Hp} {Q:VK}
theorem i_len {p:Addr} {xs:List V} (h:SqL K H p xs) (q:Q (.int xs.length) H):rLen K [.ref p] H Q:=⟨_,_,rfl,.inl ⟨xs,h,rfl⟩,q⟩
theorem i_lenI {p:Addr} {ns:List Int} (h:SqL K H p (iL ns)) (q:Q (.int ns.length) H):rLen K [.ref p] H Q:=⟨_,_,rfl,.inl ⟨_,h,rfl⟩,by simpa [iL] using q⟩
theorem i_intB {k:Bool} (q:Q (.int (if k then 1 else 0)) H):rIntOf [.bl k] H Q:=.inr ⟨k,rfl,q⟩
theorem i_abs {i:Int} (q:Q (.int (if i<0 then -i else i)) H):rAbs [.int i] H Q:=⟨i,rfl,q⟩
theorem isi_ii:PySem.W.kitOne K (.type "int") (.type "int")=some true:=by kernel_rfl
theorem isi_ib:PySem.W.kitOne K (.type "int") (.type "bool")=some false:=by kernel_rfl
theorem isi_ll:PySem.W.kitOne K (.type "list") (.type "list")=some true:=by kernel_rfl
theorem isi_il:PySem.W.kitOne K (.type "int") (.type "list")=some false:=by kernel_rfl
theorem isi_id:PySem.W.kitOne K (.type "int") (.type "dict")=some false:=by kernel_rfl
theorem isi_it:PySem.W.kitOne K (.type "int") (.type "tuple")=some false:=by kernel_rfl
theorem isi_bb:PySem.W.kitOne K (.type "bool") (.type "bool")=some true:=by kernel_rfl
theorem i_isiII {i:Int} (q:Q (.bl true) H):rIsi K [.int i,.ty "int"] H Q:=⟨_,_,_,true,rfl,.int i,isi_ii,q⟩
theorem i_isiIB {i:Int} (q:Q (.bl false) H):rIsi K [.int i,.ty "bool"] H Q:=⟨_,_,_,false,rfl,.int i,isi_ib,q⟩
theorem i_isiIL {i:Int} (q:Q (.bl false) H):rIsi K [.int i,.ty "list"] H Q:=⟨_,_,_,false,rfl,.int i,isi_il,q⟩
theorem i_isiID {i:Int} (q:Q (.bl false) H):rIsi K [.int i,.ty "dict"] H Q:=⟨_,_,_,false,rfl,.int i,isi_id,q⟩
theorem i_isiIT {i:Int} (q:Q (.bl false) H):rIsi K [.int i,.ty "tuple"] H Q:=⟨_,_,_,false,rfl,.int i,isi_it,q⟩
theorem i_isiBB {b:Bool} (q:Q (.bl true) H):rIsi K [.bl b,.ty "bool"] H Q:=⟨_,_,_,true,rfl,.bl b,isi_bb,q⟩
end
theorem i_if {p:Prop} [Decidable p] {A B:Prop} (h1:p->A) (h2:¬ p->B):if decide p=true then A else B:=by
 by_cases h:p
 ·rw [decide_eq_true h]; exact iteT (h1 h)
 ·rw [decide_eq_false h]; exact iteF (h2 h)
theorem i_ifn {p:Prop} [Decidable p] {A B:Prop} (h1:¬ p->A) (h2:p->B):if (!decide p)=true then A else B:=by
 by_cases h:p
 ·rw [decide_eq_true h]; exact iteF (h2 h)
 ·rw [decide_eq_false h]; exact iteT (h1 h)
theorem iteNT {A B:Prop} (h:B):if (!true)=true then A else B:=iteF h
theorem iteNF {A B:Prop} (h:A):if (!false)=true then A else B:=iteT h
theorem szl {n:Nat} (h:n<=100000):n<=sizeLine:=Nat.le_trans h (by rw [sizeLine_eq]; decide)
theorem szlt {n:Nat} (h:n<=100000):n<sizeLine:=Nat.lt_of_le_of_lt h (by rw [sizeLine_eq]; decide)
theorem same_upd {H:Hp} {l:Addr} {o:HO} (h:H l=none):Same H (upd H l o):=fun b u e=>by rw [upd_ne (ne_of_none e h)]; exact e
def SameBut (l:Addr) (H H':Hp):Prop:=∀ b o,b≠l->H b=some o->H' b=some o
theorem cmul_l {i j:Int} (h1:-(2 ^ 64)<i) (h2:i<2 ^ 64):CMul i j:=.inl ⟨h1,h2⟩
theorem cmul_r {i j:Int} (h1:-(2 ^ 64)<j) (h2:j<2 ^ 64):CMul i j:=.inr ⟨h1,h2⟩
end L2
namespace L2
open PySem PySem.Spec PyProof.Rows
theorem bt_int:bootBuiltins "int" = some (.type "int"):=by first | exact PySem.boot_int | exact PySem.Pv.boot_int | exact PyProof.Rows.boot_int
theorem bt_str:bootBuiltins "str" = some (.type "str"):=by first | exact PySem.boot_str | exact PySem.Pv.boot_str | exact PyProof.Rows.boot_str
theorem bt_isinstance:bootBuiltins "isinstance" = some (.builtin "isinstance"):=by first | exact PySem.boot_isinstance | exact PySem.Pv.boot_isinstance | exact PyProof.Rows.boot_isinstance
theorem bt_min:bootBuiltins "min" = some (.builtin "min"):=by first | exact PySem.boot_min | exact PySem.Pv.boot_min | exact PyProof.Rows.boot_min
theorem bt_max:bootBuiltins "max" = some (.builtin "max"):=by first | exact PySem.boot_max | exact PySem.Pv.boot_max | exact PyProof.Rows.boot_max
theorem bt_sum:bootBuiltins "sum" = some (.builtin "sum"):=by first | exact PySem.boot_sum | exact PySem.Pv.boot_sum | exact PyProof.Rows.boot_sum
theorem bt_abs:bootBuiltins "abs" = some (.builtin "abs"):=by first | exact PySem.boot_abs | exact PySem.Pv.boot_abs | exact PyProof.Rows.boot_abs
theorem bt_len:bootBuiltins "len" = some (.builtin "len"):=by first | exact PySem.boot_len | exact PySem.Pv.boot_len | exact PyProof.Rows.boot_len
section
variable {X:Cx} {pos p1 p2:Pos} {k1 k2:Nat}
theorem pe_powK {i j r:Int} (h:0<=j/\j<=1000000/\i.natAbs<2 ^ 64/\i ^ j.toNat=r):PE X (.BinOp (.Constant (.int i) k1 p1) .Pow (.Constant (.int j) k2 p2) pos) (tC (.int r)):=by
 intro pins s σ H Q I q
 refine pe_op op_pow pe_int pe_int pins s σ H Q I ?_
 exact⟨i,j,rfl,rfl,⟨h.1,h.2.1,h.2.2.1⟩,by have e:=h.2.2.2; subst e; exact q⟩
theorem pe_negK {i r:Int} (h:-i=r):PE X (.UnaryOp .USub (.Constant (.int i) k1 p1) pos) (tC (.int r)):=by
 intro pins s σ H Q I q
 refine pe_un un_neg pe_int pins s σ H Q I ?_
 exact⟨i,rfl,by subst h; exact q⟩
end
section
variable {K:PySem.W.Frag} {σ:St} {H:Hp} {Q:VK} {i j:Int}
theorem i_div (h0:0<j) (h1:j<1073741824) (q:Q (.int (i / j)) H):rI CDiv (fun i j=>.int (i / j)) (.int i) (.int j) H Q:=⟨i,j,rfl,rfl,⟨h0,h1⟩,q⟩
theorem i_mod (h0:0<j) (q:Q (.int (i % j)) H):rI (fun _ j=>0<j) (fun i j=>.int (i % j)) (.int i) (.int j) H Q:=⟨i,j,rfl,rfl,h0,q⟩
theorem i_app {l:Addr} {xs:List V} {y:V} (h:H l=some (.lst xs)) (hl:xs.length<sizeLine) (q:Q .non (upd H l (.lst (xs++[y])))):rAppend (.ref l) [y] H Q:=⟨l,xs,y,rfl,rfl,h,hl,q⟩
end
end L2
namespace L2
open PySem PySem.Spec PyProof.Rows
def LoopI (J:It) (g:TG) (tb:TS) (D:Ends) (σ:St) (H1:Hp):Prop:=∃ W:Nat->Nat->St->Hp->Prop,(∃ m,W 0 m σ H1)/\∀ i m σ H,W i m σ H ->
 (J.stop i H/\D.nx σ H)\/(J.go i H/\∃ N:St->Hp->Prop,(∀ σ' H',N σ' H'->∃ m',m'<m/\W (i+1) m' σ' H')/\∀ x H',J.yld i H x H'->g x σ H' fun σ2 H2=>tb { D with nx:=N,ct:=N,bk:=D.nx } σ2 H2)
theorem tFor_eq (wi:TI) (g:TG) (tb:TS):tFor wi g tb=fun D σ H=>wi σ H fun J H1=>LoopI J g tb D σ H1:=rfl
theorem lp_list {K:PySem.W.Frag} {a:Addr} {xs:List V} {g:TG} {tb:TS} {D:Ends} {σ:St} {H:Hp} (Pv:Nat->St->Hp->Prop) (h0:Pv 0 σ H) (hl:∀ i σ H,i<=xs.length->Pv i σ H->SqL K H a xs)
 (hs:∀ i x σ H,xs[i]? = some x->Pv i σ H->g x σ H fun σ2 H2=>tb { D with nx:=Pv (i+1),ct:=Pv (i+1),bk:=D.nx } σ2 H2) (hd:∀ σ H,Pv xs.length σ H->D.nx σ H):LoopI (Itl K a) g tb D σ H:=for_list Pv h0 hl hs hd
theorem lp_ints {K:PySem.W.Frag} {a:Addr} {ns:List Int} {g:TG} {tb:TS} {D:Ends} {σ:St} {H:Hp} (Pv:Nat->St->Hp->Prop) (h0:Pv 0 σ H) (hl:∀ i σ H,i<=ns.length->Pv i σ H->SqL K H a (iL ns))
 (hs:∀ i x σ H,ns[i]? = some x->Pv i σ H->g (.int x) σ H fun σ2 H2=>tb { D with nx:=Pv (i+1),ct:=Pv (i+1),bk:=D.nx } σ2 H2) (hd:∀ σ H,Pv ns.length σ H->D.nx σ H):LoopI (Itl K a) g tb D σ H:=by
 have e:(iL ns).length=ns.length:=by simp [iL]
 refine for_list (xs:=iL ns) Pv h0 (fun i σ H h p=>hl i σ H (by rw [e] at h; exact h) p) (fun i x σ H hx p=>?_) (fun σ H p=>hd σ H (by rw [e] at p; exact p))
 rw [List.getElem?_map] at hx
 cases q:ns[i]? with
 | none=>rw [q] at hx; cases hx
 | some z =>
   rw [q] at hx
   cases hx
   exact hs i z σ H q p
theorem lp_range {lo:Int} {n:Nat} {g:TG} {tb:TS} {D:Ends} {σ:St} {H:Hp} (Pv:Nat->St->Hp->Prop) (h0:Pv 0 σ H)
 (hs:∀ i σ H,i<n->Pv i σ H->g (.int (lo+i)) σ H fun σ2 H2=>tb { D with nx:=Pv (i+1),ct:=Pv (i+1),bk:=D.nx } σ2 H2) (hd:∀ σ H,Pv n σ H->D.nx σ H):LoopI (Itr lo n) g tb D σ H:=for_range Pv h0 hs hd
theorem i_truB {K:PySem.W.Frag} {b:Bool} {H:Hp} {Q:Bool->Hp->Prop} (q:Q b H):rTru K (.bl b) H Q:=⟨b,rfl,q⟩
theorem i_truL {K:PySem.W.Frag} {p:Addr} {xs:List V} {H:Hp} {Q:Bool->Hp->Prop} (h:SqL K H p xs) (q:Q (!xs.isEmpty) H):rTru K (.ref p) H Q:=⟨_,.inl ⟨xs,h,rfl⟩,q⟩
end L2
namespace L2
open PySem PySem.Spec PyProof.Rows
def rMenu (xs:List V) (y:V) (H:Hp) (Q:VK):Prop:=∃ i v,y=.int i/\atI xs i=some v/\Q v H
def tMenu (t:TA) (ti:TE):TE:=fun σ H Q=>t σ H fun xs H1=>xs.length<=sizeLine/\ti σ H1 fun y H2=>rMenu xs y H2 Q
section
variable {X:Cx} {es:List Expr} {b:Expr} {t:TA} {tb:TE} {p1 pos:Pos}
theorem item_raw {X:Cx} {value slice:Expr} {pins:List (Addr×Obj)} {s:Shared} {σ:St} {H:Hp} {p:Addr} {its:List Value} {xs:List V} {i:Int} {tk:Tok} {z:V} {Q:VK} (I:Inv X pins σ H s) (r:Vals xs its) (hz:xs.length<=sizeLine)
 (pl:s.heap.IsList p its.toArray) (he:atI xs i=some z) (q:Q z H) (hs:subscripted slice false (.ref p) (.int i tk)=operate [.ref p,.int i tk] (getItem (.ref p) (.int i tk))) :
 wpAny (model X.prog X.w) X.A (subscriptTail value slice (.ref p) (.int i tk)) (EP X pins σ Q) X.xe s:=by
 obtain⟨j,h1,h2,h3,h4,h5⟩:=atI_get he
 obtain⟨w,ew,rw'⟩:=r.get h2
 have hl:=r.length
 have hn:=line63
 have fin:EP X pins σ Q w s:=⟨z,H,I,rw',q⟩
 by_cases h0:0<=i
 ·have hj:i.toNat=j:=by
   rw [seqIndex_of h0 h5] at h1
   exact Option.some.inj h1
  exact item_listR pl h0 (by lia) (by rw [hj]; simpa using ew) fin hs
 ·have hj:(i+(its.toArray.size:Int)).toNat=j:=by
   rw [seqIndex_neg (by lia) h4] at h1
   rw [List.size_toArray,<- hl]
   exact Option.some.inj h1
  exact subscriptTail_builtinR (x:=w) pl.typeIs slot_list_getitem.lookup
   (wpAny_getItem_list_neg (Q:=fun r s'=>r=w/\EP X pins σ Q r s') pl (by lia) (by rw [List.size_toArray] <;> lia) (by lia) (by rw [hj]; simpa using ew) ⟨rfl,fin⟩) hs
theorem pe_menu (h:PA X es t) (hb:PE X b tb) (hs:PlainIx b):PE X (.Subscript (.List es p1) b pos) (tMenu t tb):=by
 intro pins s σ H Q I hq
 refine Subscript_ (wpAny_List_spliced (thn (h p1 pins s σ H _ I hq) fun us s1 ⟨xs,H1,I1,r,z,q⟩=>⟨by rw [<- r.length]; exact z,?_⟩))
 have hf:H1 s1.heap.objs.size=none:=I1.hok.fresh (Nat.le_refl _)
 have I2:=I1.kept (t':=s1.toks) (h':=s1.heap.push { cls:=.type "list", data:=.seq us.toArray 0 }) (fun b u e=>Heap.get?_push_of_some _ e)
 have I3:=I2.pins_of (pins':=pins++[(s1.heap.objs.size,{ cls:=.type "list", data:=.seq us.toArray 0 })]) (fun p hp=>by
  rcases List.mem_append.mp hp with hp | hp
  ·exact I2.pin p (List.mem_append_right _ hp)
  ·have e:p=(s1.heap.objs.size,({ cls:=.type "list", data:=.seq us.toArray 0 }:Obj)):=by simpa using hp
   subst e
   refine⟨Heap.get?_push_size _ rfl,hf,Nat.ne_of_gt I1.lt,I1.nofs (Nat.le_refl _),fun v e=>?_⟩
   have e':Data.seq us.toArray 0=Data.cell v:=e
   cases e')
 refine thn (hb _ _ σ H1 _ I3 q) fun u s2 ⟨y,H2,I4,r4,i,v,hy,hv,qq⟩=>?_
 subst hy
 obtain⟨tk,rfl⟩:=r4
 have pn:=(I4.pin (s1.heap.objs.size,{ cls:=.type "list", data:=.seq us.toArray 0 }) (by simp)).1
 exact item_raw I4.unpinned r z ⟨_,pn,rfl,_,rfl⟩ hv qq (hs _ _)
end
section
variable {H:Hp} {Q:VK} {i:Int}
theorem i_menu2 {xa xb:Int} (h0:0<=i) (h1:i<2) (q:∀ z,(i=0/\z=xa)\/(i=1/\z=xb)->Q (.int z) H):rMenu [.int xa,.int xb] (.int i) H Q:=by
 have hi:i=0\/i=1:=by lia
 rcases hi with h | h
 ·subst h; exact⟨0,_,rfl,rfl,q _ (by simp)⟩
 ·subst h; exact⟨1,_,rfl,rfl,q _ (by simp)⟩
theorem i_menu3 {xa xb xc:Int} (h0:0<=i) (h1:i<3) (q:∀ z,(i=0/\z=xa)\/(i=1/\z=xb)\/(i=2/\z=xc)->Q (.int z) H):rMenu [.int xa,.int xb,.int xc] (.int i) H Q:=by
 have hi:i=0\/i=1\/i=2:=by lia
 rcases hi with h | h | h
 ·subst h; exact⟨0,_,rfl,rfl,q _ (by simp)⟩
 ·subst h; exact⟨1,_,rfl,rfl,q _ (by simp)⟩
 ·subst h; exact⟨2,_,rfl,rfl,q _ (by simp)⟩
end
theorem cxOf_K (CX:CXT) (P:Program) (w:World) (K:PySem.W.Frag) (mg:Str->Option Value) (base:Heap) (N:List Str) (qual:Str) (scope:Scope) (f:Addr) (cd:Value) (A:Around) (outer:List Env) (s:Shared) (H:Hp) (E:XK):(cxOf CX P w K mg base N qual scope f cd A outer s H E).K=K:=rfl
end L2
namespace L2
open PySem PySem.Spec PyProof.Rows
def tJoin (t u:TS):TS:=fun D σ H=>∃ Pj:St->Hp->Prop,t { D with nx:=Pj } σ H/\∀ σ' H',Pj σ' H'->u D σ' H'
theorem pss_join {X:Cx} {st:Stmt} {rest:List Stmt} {t u:TS} (h1:PS X st t) (h2:PSs X rest u):PSs X (st :: rest) (tJoin t u):=by
 intro pins s σ H D I h
 obtain⟨Pj,ht,hu⟩:=h
 refine wpAny_execs_cons (thn (h1 pins s σ H _ I ht) fun f s1 q=>?_)
 cases f with
 | next =>
   obtain⟨σ1,H1,I1,q1⟩:=q
   exact h2 pins s1 σ1 H1 D I1 (hu _ _ q1)
 | brk=>exact q
 | cont=>exact q
 | ret u=>exact q
end L2
namespace L2
open PySem PySem.Spec PyProof.Rows
theorem take_min {α:Type} (xs:List α) (k:Nat):xs.take (min k xs.length)=xs.take k:=by
 by_cases h:k<=xs.length
 ·rw [Nat.min_eq_left h]
 ·rw [Nat.min_eq_right (by lia),List.take_of_length_le (by lia),List.take_of_length_le (by lia)]
theorem drop_min {α:Type} (xs:List α) (k:Nat):xs.drop (min k xs.length)=xs.drop k:=by
 by_cases h:k<=xs.length
 ·rw [Nat.min_eq_left h]
 ·rw [Nat.min_eq_right (by lia),List.drop_of_length_le (by lia),List.drop_of_length_le (by lia)]
theorem sIx_pos (n d:Nat) {b:Int} (h:0<=b):HT.sIx n d (some b)=min b.toNat n:=by
 have:=HT.sIx_nat n d b.toNat
 rwa [Int.toNat_of_nonneg h] at this
theorem cut_to {xs:List V} {b:Int} (h:0<=b):cutV xs none (some b)=xs.take b.toNat:=by
 unfold cutV
 rw [HT.sIx_none,sIx_pos _ _ h,Nat.sub_zero,List.drop_zero,take_min]
theorem cut_from {xs:List V} {a:Int} (h:0<=a):cutV xs (some a) none=xs.drop a.toNat:=by
 unfold cutV
 rw [HT.sIx_none,sIx_pos _ _ h,drop_min,List.take_of_length_le]
 rw [List.length_drop]; lia
theorem cut_mid {xs:List V} {a b:Int} (h:0<=a) (h2:0<=b):cutV xs (some a) (some b)=(xs.drop a.toNat).take (b.toNat - a.toNat):=by
 unfold cutV
 rw [sIx_pos _ _ h,sIx_pos _ _ h2,drop_min]
 by_cases e:b.toNat<=xs.length
 ·by_cases e2:a.toNat<=xs.length
  ·rw [Nat.min_eq_left e,Nat.min_eq_left e2]
  ·rw [List.drop_of_length_le (by lia)]; simp
 ·rw [Nat.min_eq_right (by lia)]
  by_cases e2:a.toNat<=xs.length
  ·rw [Nat.min_eq_left e2,List.take_of_length_le (by rw [List.length_drop]; lia),List.take_of_length_le (by rw [List.length_drop]; lia)]
  ·rw [List.drop_of_length_le (by lia)]; simp
section
variable {K:PySem.W.Frag} {H:Hp} {Q:VK} {a:Addr} {ns:List Int}
theorem i_slTo {b:Int} (h:SqL K H a (iL ns)) (hb:0<=b) (q:∀ p,H p=none->Q (.ref p) (upd H p (.lst (iL (ns.take b.toNat))))):rSlL K (.ref a) none (some b) H Q :=
 ⟨a,_,rfl,h,fun p hp=>by rw [cut_to hb,<- List.map_take]; exact q p hp⟩
theorem i_slFrom {b:Int} (h:SqL K H a (iL ns)) (hb:0<=b) (q:∀ p,H p=none->Q (.ref p) (upd H p (.lst (iL (ns.drop b.toNat))))):rSlL K (.ref a) (some b) none H Q :=
 ⟨a,_,rfl,h,fun p hp=>by rw [cut_from hb,<- List.map_drop]; exact q p hp⟩
theorem i_slMid {b c:Int} (h:SqL K H a (iL ns)) (hb:0<=b) (hc:0<=c) (q:∀ p,H p=none->Q (.ref p) (upd H p (.lst (iL ((ns.drop b.toNat).take (c.toNat - b.toNat)))))):rSlL K (.ref a) (some b) (some c) H Q :=
 ⟨a,_,rfl,h,fun p hp=>by rw [cut_mid hb hc,<- List.map_drop,<- List.map_take]; exact q p hp⟩
end
end L2
namespace L2
open PySem PySem.Spec PyProof.Rows
theorem Inv.track {X:Cx} {pins:List (Addr×Obj)} {σ:St} {H:Hp} {s:Shared} {D:Addr} {o:HO} (I:Inv X pins σ H s) (hn:H D=none) (hL:D≠X.env.locals) (h1:X.s₀.heap.objs.size<=D)
 (h2:∀ x c,X.env.cells.lookup x=some c->c≠D) (h3:∀ p∈X.pn++pins,p.1≠D) (new:ObjOk X.prog X.w (upd H D o) s.heap D o):Inv X pins σ (upd H D o) s:=by
 have up:∀ b u,H b=some u->upd H D o b=some u:=fun b u e=>by rw [upd_ne (ne_of_none e hn)]; exact e
 have un:∀ b,b≠D->H b=none->upd H D o b=none:=fun b hb e=>by rw [upd_ne hb]; exact e
 refine⟨I.ok,I.os,I.bare,⟨I.base.keep,I.base.slot,fun b ob e n hx=>un b (Nat.ne_of_lt (Nat.lt_of_lt_of_le (Heap.lt_size e) h1)) (I.base.free b ob e n hx),I.base.there,fun b xs e=>up _ _ (I.base.tups b xs e),fun b ob u e=>up _ _ (I.base.frzs b ob u e),fun b ps e=>?_⟩,
  I.loc,I.cell,un _ (Ne.symm hL) I.free,fun x c e=>un _ (h2 x c e) (I.freeC x c e),fun p hp=>?_,fun b u e=>?_,I.len⟩
 ·obtain⟨m,e'⟩:=I.base.tbls b ps e
  exact⟨m,up _ _ e'⟩
 ·obtain⟨e,n,r⟩:=I.pin p hp
  exact⟨e,un _ (h3 p hp) n,r⟩
 ·by_cases hb:b=D
  ·subst hb
   rw [upd_same] at e
   cases e
   exact new
  ·rw [upd_ne hb] at e
   exact (I.hok b u e).stay (fun _ _ _ q=>q) (fun c q=>up _ _ q) fun c xs q=>up _ _ q
def clOf (env:Env):List (Str×NameKind)->List (Str×Addr)->List (Str×Addr)
 | [],acc=>acc
 | (n,k) :: r,acc=>clOf env r (if (k == .free)=true then (n,(env.cells.lookup n).getD 0) :: acc else acc)
theorem closure_go {env:Env}:∀ (names:List (Str×NameKind)) (acc:List (Str×Addr)),(∀ y∈names,y.2=.free->∃ c,env.cells.lookup y.1=some c) ->
 (forIn names acc fun (x:Str×NameKind) (r:List (Str×Addr))=>match x with
  | (name,kind)=>if (kind == .free)=true then do
   let a <- cellOf env name
   pure (ForInStep.yield ((name,a) :: r))
   else pure (ForInStep.yield r):Sem (List (Str×Addr)))=pure (clOf env names acc)
 | [],acc,_=>rfl
 | (n,k) :: r,acc,h=>by
   rw [List.forIn_cons,clOf]
   by_cases hk:(k == NameKind.free)=true
   ·obtain⟨c,hc⟩:=h (n,k) (List.mem_cons_self) (by simpa using hk)
    have hc':env.cells.lookup n=some c:=hc
    simp only [hk,if_true,cellOf,hc',Option.getD_some]
    exact closure_go r _ fun y hy=>h y (List.mem_cons_of_mem _ hy)
   ·simp only [hk,Bool.false_eq_true,if_false]
    exact closure_go r _ fun y hy=>h y (List.mem_cons_of_mem _ hy)
theorem closure_eq {env:Env} {scope:Scope} (h:∀ y∈scope.names,y.2=.free->∃ c,env.cells.lookup y.1=some c):closureFor scope env=pure (clOf env scope.names []):=by
 have q:=closure_go scope.names [] h
 unfold closureFor
 exact (congrArg (fun z=>z >>= fun r=>pure r) q).trans rfl
theorem clOf_get {env:Env} {x:Str} {c:Addr}:∀ (names:List (Str×NameKind)) (acc:List (Str×Addr)),(∀ y∈names,y.2=.free->∃ c,env.cells.lookup y.1=some c)->(∀ x c,acc.lookup x=some c->env.cells.lookup x=some c) ->
 (clOf env names acc).lookup x=some c->env.cells.lookup x=some c
 | [],acc,_,ha,e=>ha x c e
 | (n,k) :: r,acc,h,ha,e=>by
   rw [clOf] at e
   refine clOf_get r _ (fun y hy=>h y (List.mem_cons_of_mem _ hy)) ?_ e
   intro y d hd
   by_cases hk:(k == NameKind.free)=true
   ·rw [if_pos hk] at hd
    obtain⟨c',hc⟩:=h (n,k) List.mem_cons_self (by simpa using hk)
    have hc':env.cells.lookup n=some c':=hc
    rw [List.lookup_cons] at hd
    cases hy:y == n with
    | true =>
      rw [hy] at hd
      have e1:y=n:=by simpa using hy
      subst e1
      rw [hc'] at hd ⊢
      exact hd
    | false =>
      rw [hy] at hd
      exact ha y d hd
   ·rw [if_neg hk] at hd
    exact ha y d hd
theorem clOf_has {env:Env} {x:Str}:∀ (names:List (Str×NameKind)) (acc:List (Str×Addr)),((x,NameKind.free)∈names\/∃ c,acc.lookup x=some c)->∃ c,(clOf env names acc).lookup x=some c
 | [],acc,h=>by
   rcases h with h | h
   ·exact absurd h (by simp)
   ·exact h
 | (n,k) :: r,acc,h=>by
   rw [clOf]
   refine clOf_has r _ ?_
   rcases h with h | ⟨c,h⟩
   ·rcases List.mem_cons.mp h with e | e
    ·cases e
     exact .inr ⟨_,by rw [if_pos (by rfl),List.lookup_cons,beq_self_eq_true]⟩
    ·exact .inl e
   ·refine .inr ?_
    by_cases hk:(k == NameKind.free)=true
    ·rw [if_pos hk,List.lookup_cons]
     cases x == n with
     | true=>exact⟨_,rfl⟩
     | false=>exact⟨c,h⟩
    ·rw [if_neg hk]; exact⟨c,h⟩
theorem relabel_get {scope:Scope} {env:Env} {x:Str} {k:NameKind} (h:(relabel scope env).names.lookup x=some k):(x,k)∈scope.names\/(k=.cell/\(x,NameKind.free)∈scope.names):=by
 have m:=PySem.mem_of_lookup h
 unfold relabel at m
 obtain⟨⟨n,k0⟩,hm,e⟩:=List.mem_map.mp m
 dsimp only at e
 split at e
 ·rename_i hc
  cases e
  have:k0=.free:=by
   have:=(Bool.and_eq_true _ _ ▸ (Bool.and_eq_true _ _ ▸ hc).1:_/\_).1
   simpa using this
  subst this
  exact .inr ⟨rfl,hm⟩
 ·cases e
  exact .inl hm
theorem relabel_freeN {env:Env}:∀ {names:List (Str×NameKind)} {x:Str},names.lookup x=some .free ->
 (names.map fun (n,k)=>if (k == NameKind.free && env.scope.kind == .function && env.kindOf n == some .cell) then (n,NameKind.cell) else (n,k)).lookup x=some .cell \/
 (names.map fun (n,k)=>if (k == NameKind.free && env.scope.kind == .function && env.kindOf n == some .cell) then (n,NameKind.cell) else (n,k)).lookup x=some .free
 | [],_,h=>by simp at h
 | (n,k) :: r,x,h=>by
   have ih:=@relabel_freeN env r x
   show List.lookup x ((if (k == NameKind.free && env.scope.kind == .function && env.kindOf n == some .cell)=true then (n,NameKind.cell) else (n,k)) :: _)=_\/List.lookup x ((if (k == NameKind.free && env.scope.kind == .function && env.kindOf n == some .cell)=true then (n,NameKind.cell) else (n,k)) :: _)=_
   cases hx:x == n with
   | true =>
     simp only [List.lookup_cons,hx] at h
     cases h
     by_cases hc:(NameKind.free == NameKind.free && env.scope.kind == .function && env.kindOf n == some .cell)=true
     ·rw [if_pos hc]; left; simp [List.lookup_cons,hx]
     ·rw [if_neg hc]; right; simp [List.lookup_cons,hx]
   | false =>
     simp only [List.lookup_cons,hx] at h
     by_cases hc:(k == NameKind.free && env.scope.kind == .function && env.kindOf n == some .cell)=true
     ·rw [if_pos hc]; simp only [List.lookup_cons,hx]; exact ih h
     ·rw [if_neg hc]; simp only [List.lookup_cons,hx]; exact ih h
theorem relabel_free {scope:Scope} {env:Env} {x:Str} (h:scope.names.lookup x=some .free):(relabel scope env).names.lookup x=some .cell\/(relabel scope env).names.lookup x=some .free:=relabel_freeN h
def cxC (X:Cx) (scope:Scope) (C:Addr) (N:List Str) (s₂:Shared) (H₂:Hp) (ex:List Addr):Cx :=
 { X with N:=N,s₀:=s₂,H₀:=H₂,env:=compEnvC scope (clOf X.env scope.names []) C X.env,outer:=X.stack,stack:=X.stack,ex:=ex,fn:=fun _=>false,pn:=[],xe:=fun _ _=>False }
def FrOk (X:Cx) (scope:Scope):List Str->List (Option Nat)->Prop
 | [],[]=>True
 | _ :: N,none :: fr=>FrOk X scope N fr
 | x :: N,some j :: fr=>(X.N[j]? = some x/\(X.env.kindOf x=some .cell\/X.env.kindOf x=some .free)/\scope.names.lookup x=some .free)/\FrOk X scope N fr
 | _,_=>False
def stC (fr:List (Option Nat)) (σ:St):St:=fr.map fun o=>o.bind fun j=>(σ[j]?).join
structure CompOk (X:Cx) (scope:Scope) (N:List Str) (fr:List (Option Nat)):Prop where
 kind:scope.kind=.function
 ncell:∀ y∈scope.names,y.2≠.cell
 names:∀ y∈scope.names,y.2=.local->scope.names.lookup y.1=some .local
 frees:∀ y∈scope.names,y.2=.free->X.env.kindOf y.1=some .cell\/X.env.kindOf y.1=some .free
 fr:FrOk X scope N fr
theorem FrOk.len {X:Cx} {scope:Scope}:∀ {N:List Str} {fr:List (Option Nat)},FrOk X scope N fr->fr.length=N.length
 | [],[],_=>rfl
 | _ :: N,none :: fr,h=>by simp [FrOk.len (N:=N) (fr:=fr) h]
 | _ :: N,some j :: fr,h=>by simp [FrOk.len (N:=N) (fr:=fr) h.2]
 | [],_ :: _,h=>h.elim
 | _ :: _,[],h=>h.elim
theorem FrOk.get {X:Cx} {scope:Scope}:∀ {N:List Str} {fr:List (Option Nat)} {i j:Nat} {x:Str},FrOk X scope N fr->N[i]? = some x->fr[i]? = some (some j)->X.N[j]? = some x/\(X.env.kindOf x=some .cell\/X.env.kindOf x=some .free)/\scope.names.lookup x=some .free
 | [],_,i,j,x,h,e,_=>by simp at e
 | y :: N,[],_,_,_,h,_,_=>h.elim
 | y :: N,none :: fr,0,j,x,h,e,e2=>by simp at e2
 | y :: N,none :: fr,i+1,j,x,h,e,e2=>FrOk.get (N:=N) (fr:=fr) (i:=i) h (by simpa using e) (by simpa using e2)
 | y :: N,some k :: fr,0,j,x,h,e,e2=>by
   simp at e e2
   subst e e2
   exact h.1
 | y :: N,some k :: fr,i+1,j,x,h,e,e2=>FrOk.get (N:=N) (fr:=fr) (i:=i) h.2 (by simpa using e) (by simpa using e2)
theorem stC_get {fr:List (Option Nat)} {σ:St} {i:Nat} {v:V} (h:(stC fr σ)[i]? = some (some v)):∃ j,fr[i]? = some (some j)/\σ[j]? = some (some v):=by
 unfold stC at h
 rw [List.getElem?_map] at h
 cases e:fr[i]? with
 | none=>rw [e] at h; cases h
 | some o =>
   rw [e] at h
   cases o with
   | none=>cases h
   | some j =>
     refine⟨j,rfl,?_⟩
     have h':(σ[j]?).join=some v:=by simpa using h
     cases e2:σ[j]? with
     | none=>rw [e2] at h'; cases h'
     | some w=>rw [e2] at h'; cases w with
       | none=>cases h'
       | some z=>cases h'; rfl
section
variable {X:Cx} {scope:Scope} {N:List Str} {fr:List (Option Nat)}
theorem CompOk.cells (c:CompOk X scope N fr) (ok:X.Ok):∀ y∈scope.names,y.2=.free->∃ c,X.env.cells.lookup y.1=some c:=fun y hy e=>ok.has y.1 (c.frees y hy e)
theorem CompOk.get (c:CompOk X scope N fr) (ok:X.Ok) {x:Str} {a:Addr} (h:(clOf X.env scope.names []).lookup x=some a):X.env.cells.lookup x=some a :=
 clOf_get scope.names [] (c.cells ok) (fun _ _ z=>by simp at z) h
theorem comp_ok {pins:List (Addr×Obj)} {σ:St} {H:Hp} {s₂:Shared} {C:Addr} {fp:List Addr} (c:CompOk X scope N fr) (I:Inv X pins σ H s₂) (hC:s₂.heap.objs.size<=C) (hfp:∀ b∈fp,FpOk X pins H b/\b<s₂.heap.objs.size) :
 (cxC X scope C N s₂ H fp).Ok where
 mod:=I.ok.mod
 kind:=c.kind
 glob:=I.ok.glob
 blt:=I.ok.blt
 above:=hC
 inj:=fun x y a h1 h2=>I.ok.inj x y a (c.get I.ok h1) (c.get I.ok h2)
 has:=fun x h=>by
  have hm:(x,NameKind.free)∈scope.names:=by
   rcases h with h | h
   ·rcases relabel_get h with z | ⟨_,z⟩
    ·exact absurd rfl (c.ncell _ z)
    ·exact z
   ·rcases relabel_get h with z | ⟨z,_⟩
    ·exact z
    ·cases z
  exact clOf_has scope.names [] (.inl hm)
 cab:=fun x a h=>by cases h
 hd:=I.ok.hd
 frames:=I.ok.frames
 stk:=.inl rfl
 exf:=fun b hb=>⟨Nat.ne_of_lt (Nat.lt_of_lt_of_le (hfp b hb).2 hC),fun x a h=>(hfp b hb).1.2.2.2.2.1 x a (c.get I.ok h)⟩
 bs:=I.bs
 bsz:=Nat.le_trans I.ok.bsz I.sz
 noex:=fun b o e hb=>by
  rcases (hfp b hb).1.2.2.2.1 with z | z
  ·exact I.ok.noex b o e z
  ·have h1:b<X.base.objs.size:=Heap.lt_size e
   have h2:=I.ok.bsz
   exact absurd (Nat.lt_of_lt_of_le h1 (Nat.le_trans h2 z)) (Nat.lt_irrefl _)
 exfs:=fun b hb z=>by
  rcases List.mem_cons.mp (I.stkSub b z) with e | e
  ·exact (hfp b hb).1.2.1 e
  ·exact (hfp b hb).1.2.2.1 e
 funs:=I.stack
 frf:=I.stkFree
theorem comp_inv {pins:List (Addr×Obj)} {σ:St} {H:Hp} {s₂:Shared} {C:Addr} {fp:List Addr} {h₄:Heap} {tk:Nat} (c:CompOk X scope N fr) (I:Inv X pins σ H s₂) (hC:s₂.heap.objs.size<=C) (hfp:∀ b∈fp,FpOk X pins H b/\b<s₂.heap.objs.size)
 (hk:∀ b o,s₂.heap.get? b=some o->h₄.get? b=some o) (hn:h₄.Ns C fun _=>none):Inv (cxC X scope C N s₂ H fp) [] (stC fr σ) H { s₂ with heap:=h₄,toks:=tk }:=by
 refine⟨comp_ok c I hC hfp,rfl,I.bare,Un.kept hk,⟨_,hn,fun i x v e1 e2 e3=>?_⟩,fun x a e=>?_,I.hok.fresh hC,fun x a e=>I.freeC x a (c.get I.ok e),fun p hp=>absurd (show p∈([]:List (Addr×Obj)) from hp) (by simp),I.hok.kept hk,?_⟩
 ·obtain⟨j,f1,f2⟩:=stC_get e2
  obtain⟨g1,g2,g3⟩:=c.fr.get e1 f1
  obtain⟨m,hm,hl⟩:=I.loc
  have vis:Vis X.env.scope x:=by
   rcases g2 with g | g
   ·exact .inr (.inl g)
   ·exact .inr (.inr g)
  obtain⟨u,ru,lk⟩:=hl j x v g1 f2 vis
  refine⟨u,ru,?_⟩
  rcases lk with ⟨k,_⟩ | ⟨_,a,ea,o,ho,hd⟩
  ·rcases g2 with g | g <;> (rw [k] at g; cases g)
  ·obtain⟨a',ea'⟩:=clOf_has (env:=X.env) scope.names [] (.inl (PySem.mem_of_lookup g3))
   have e5:=c.get I.ok ea'
   rw [ea] at e5
   cases e5
   have kd:(cxC X scope C N s₂ H fp).env.kindOf x=some .cell\/(cxC X scope C N s₂ H fp).env.kindOf x=some .free:=relabel_free g3
   exact .inr ⟨kd,a,ea',o,hk _ _ ho,hd⟩
 ·obtain⟨v,o,ho,hd⟩:=I.cell x a (c.get I.ok e)
  exact⟨v,o,hk _ _ ho,hd⟩
 ·unfold stC
  rw [List.length_map]
  exact c.fr.len
end
section
variable {prog:Program} {w:World} {A:Around} {E:Value->Shared->Prop} {R:Result->Shared->Prop} {s:Shared}
theorem compLoop_any {elt target iter:Expr} {ifs:List Expr} {scope:Scope} {pos:Pos} {it acc:Value} {env:Env} (I:Nat->Shared->Prop)
 (turn:∀ n s,I n s->wpAny (model prog w) A (pyNext it) (fun r s₁=>match r with
  | none=>R (.ok .next) s₁
  | some v=>wpAny (model prog w) A (letOwnedTupleGo target it v) (fun _ s₀=>wpAny (model prog w) A (assign target env v) (fun _ s₂ =>
   wpAny (model prog w) A (forIn ifs true fun c r=>if r=true then do let ok <- isTrue c env (eval c env); pure (ForInStep.yield ok) else pure (ForInStep.yield r)) (fun ok s₃ =>
    if ok=true then wpAny (model prog w) A (eval elt env) (fun x s₄ =>
     wpAny (model prog w) A (call (.builtin "list.append") [acc,x]) (fun _ s₅=>∃ m,m<n/\I m s₅) (fun _ _=>False) s₄) (fun _ _=>False) s₃
    else ∃ m,m<n/\I m s₃) (fun _ _=>False) s₂) (fun _ _=>False) s₀) (fun _ _=>False) s₁) (fun _ _=>False) s)
 (n:Nat) (h:I n s) :
 codeAny (model prog w) A (.compLoop (.ListComp elt [⟨target,iter,ifs,0⟩] scope pos) 0 it acc env) R s:=by
 refine codeAny_loop rfl I (fun n s hI=>?_) n h
 show wpAny _ A ((compTurn (.ListComp elt [⟨target,iter,ifs,0⟩] scope pos) 0 it acc env).onRaise (fun x=>do noteFrame x env; theTreesLotGoes x)) _ _ s
 refine wpAny_noted ?_
 rw [compTurn_list]
 have nf:∀ {α:Type} {m:Sem α} {Q:α->Shared->Prop} {F:Value->Shared->Prop} {s:Shared},wpAny (model prog w) A m Q (fun _ _=>False) s->wpAny (model prog w) A m Q F s:=fun h=>wpAny_mono h (fun _ _ x=>x) fun _ _ x=>x.elim
 refine wpAny_bind (wpAny_standAt (wpAny_bind (wpAny_mono (nf (turn n s hI)) (fun r s₁ h₁=>?_) fun _ _ h'=>h')))
 cases r with
 | none=>exact wpAny_pure h₁
 | some v =>
   refine wpAny_bind (wpAny_mono (nf h₁) (fun _ s₀ h₀=>?_) fun _ _ h'=>h')
   refine wpAny_bind (wpAny_mono (nf h₀) (fun _ s₂ h₂=>wpAny_bind (wpAny_mono (nf h₂) (fun ok s₃ h₃=>?_) fun _ _ h'=>h')) fun _ _ h'=>h')
   cases ok with
   | false=>exact wpAny_pure ⟨rfl,h₃⟩
   | true =>
     exact wpAny_bind (wpAny_bind (wpAny_mono (nf h₃) (fun x s₄ h₄=>wpAny_bind (wpAny_mono (nf h₄) (fun _ s₅ h₅=>wpAny_pure (wpAny_pure ⟨rfl,h₅⟩)) fun _ _ h'=>h')) fun _ _ h'=>h'))
end
def Wk (fr:List (Option Nat)) (σ σ2:St):Prop:=σ2.length = σ.length/\∀ (i j:Nat),fr[i]? = some (some j)->σ2[i]? = σ[i]?
theorem Wk.trans {fr:List (Option Nat)} {a b c:St} (h1:Wk fr a b) (h2:Wk fr b c):Wk fr a c:=⟨h2.1.trans h1.1,fun i j e=>(h2.2 i j e).trans (h1.2 i j e)⟩
def GW (fr:List (Option Nat)) (g:TG):Prop:=∀ x σ H (Q Q':St->Hp->Prop),(∀ σ2 H2,Wk fr σ σ2->Q σ2 H2->Q' σ2 H2)->g x σ H Q->g x σ H Q'
def GWs (fr:List (Option Nat)) (g:TGs):Prop:=∀ x σ H (Q Q':St->Hp->Prop),(∀ σ2 H2,Wk fr σ σ2->Q σ2 H2->Q' σ2 H2)->g x σ H Q->g x σ H Q'
theorem gw_name {fr:List (Option Nat)} {i:Nat} (h:fr[i]? = some none):GW fr (gName i):=fun x σ H Q Q' k q=>by
 refine k _ _ ⟨by simp,fun a j e=>?_⟩ q
 have:i≠a:=fun z=>by subst z; rw [h] at e; cases e
 rw [List.getElem?_set_ne this]
theorem gws_nil {fr:List (Option Nat)}:GWs fr gNil:=fun x σ H Q Q' k q=>⟨q.1,k _ _ ⟨rfl,fun _ _ _=>rfl⟩ q.2⟩
theorem gws_cons {fr:List (Option Nat)} {t:TG} {u:TGs} (h1:GW fr t) (h2:GWs fr u):GWs fr (gCons t u):=fun x σ H Q Q' k q=>by
 obtain⟨v,r,e,q⟩:=q
 exact⟨v,r,e,h1 v σ H _ _ (fun σ' H' w1 q1=>h2 r σ' H' _ _ (fun σ2 H2 w2 q2=>k _ _ (w1.trans w2) q2) q1) q⟩
theorem gw_tup {fr:List (Option Nat)} {K:PySem.W.Frag} {n:Nat} {t:TGs} (h:GWs fr t):GW fr (gTup K n t):=fun x σ H Q Q' k q=>by
 obtain⟨a,xs,e1,e2,e3,q⟩:=q
 exact⟨a,xs,e1,e2,e3,h xs σ H _ _ k q⟩
def PIfs (X:Cx) (ifs:List Expr) (t:TT):Prop :=
 ∀ (pins:List (Addr×Obj)) (s:Shared) (σ:St) (H:Hp) (Q:Bool->Hp->Prop),Inv X pins σ H s->t σ H Q ->
  wpAny (model X.prog X.w) X.A (forIn ifs true fun c r=>if r=true then do let ok <- isTrue c X.env (eval c X.env); pure (ForInStep.yield ok) else pure (ForInStep.yield r)) (TP X pins σ Q) X.xe s
def tNoIf:TT:=fun _ H Q=>Q true H
theorem pifs_nil {X:Cx}:PIfs X [] tNoIf:=fun _ _ _ H _ I h=>wpAny_tests_nil ⟨H,I,h⟩
theorem pifs_one {X:Cx} {c:Expr} {t:TT} (h:PT X c t):PIfs X [c] t:=fun pins s σ H Q I q=>wpAny_tests_one (h pins s σ H Q I q)
def CompI (J:It) (g:TG) (ti:TT) (te:TE) (σc:St) (H1:Hp) (Q:VK):Prop:=∃ W:Nat->Nat->List V->Hp->Prop,(∃ m,W 0 m [] H1)/\∀ i m ys H,W i m ys H->ys.length<sizeLine /\
 ((J.stop i H/\∀ l,H l=none->Q (.ref l) (upd H l (.lst ys)))\/(J.go i H/\∃ M:List V->Hp->Prop,(∀ ys' H',M ys' H'->∃ m',m'<m/\W (i+1) m' ys' H') /\
   ∀ x H',J.yld i H x H'->g x σc H' fun σ2 H2=>ti σ2 H2 fun b H3=>if b=true then te σ2 H3 fun y H4=>M (ys++[y]) H4 else M ys H3))
def tComp (fr:List (Option Nat)) (wi:TI) (g:TG) (ti:TT) (te:TE):TE:=fun σ H Q=>wi σ H fun J H1=>CompI J g ti te (stC fr σ) H1 Q
structure Aside (X:Cx) (pins:List (Addr×Obj)) (H:Hp) (C:Addr):Prop where
 fr:H C=none
 ne:C≠X.env.locals
 ab:X.s₀.heap.objs.size<=C
 cl:∀ x c,X.env.cells.lookup x=some c->c≠C
 pn:∀ p∈X.pn++pins,p.1≠C
theorem Inv.aside {X:Cx} {pins:List (Addr×Obj)} {σ:St} {H H':Hp} {s:Shared} {C:Addr} (I:Inv X pins σ H s) (hC:s.heap.objs.size<=C) (hn:H' C=none):Aside X pins H' C:=by
 obtain⟨a,b,c,d,e,f⟩:=I.fpOk hC hn
 exact⟨hn,b,Nat.le_trans I.sz hC,e,f⟩
def lob (us:List Value) (n:Nat):Obj:={ cls:=.type "list", dict:=none,data:=.seq us.toArray n }
section
variable {X:Cx} {scope:Scope} {N:List Str} {fr:List (Option Nat)} {tg iter elt:Expr} {ifs:List Expr} {pos:Pos} {J:It} {g:TG} {ti:TT} {te:TE}
theorem comp_core {pins:List (Addr×Obj)} {σ:St} {H:Hp} {s₂:Shared} {it:Addr} {fp:List Addr} {tn:Nat->Heap->Prop} {Q:VK} {E:Value->Shared->Prop} (c:CompOk X scope N fr) (hc:X.calm=true) (I:Inv X pins σ H s₂)
 (T:Turn X.prog X.w X.K tg J fp it tn) (st:tn 0 s₂.heap) (hfp:∀ b∈fp,FpOk X pins H b)
 (hg:∀ C,PG (cxC X scope C N s₂ H fp) tg g) (hi:∀ C,PIfs (cxC X scope C N s₂ H fp) ifs ti) (he:∀ C,PE (cxC X scope C N s₂ H fp) elt te) (gw:GW fr g) (hq:CompI J g ti te (stC fr σ) H Q)
 {RR:Value->Addr->Result->Shared->Prop}
 (hRR:∀ D C H' ys s',Inv X pins σ (upd H' D (.lst ys)) s'->Aside X pins (upd H' D (.lst ys)) C->(∃ m,s'.heap.Ns C m)->Q (.ref D) (upd H' D (.lst ys))->RR (.ref D) C (.ok .next) s') :
 wpAny (model X.prog X.w) X.A (newList []) (fun acc s₃=>wpAny (model X.prog X.w) X.A (newFunctionEnv scope X.env.globals (clOf X.env scope.names []) [] X.env.qual none .none (some X.env)) (fun cenv s₄ =>
  codeAny (model X.prog X.w) X.A (.compStart (.ListComp elt [⟨tg,iter,ifs,0⟩] scope pos) 0 (.ref it) acc { cenv with scope:=relabel scope X.env }) (RR acc cenv.locals) s₄) E s₃) E s₂:=by
 refine wpAny_newObj_type (wpAny_newFunctionEnv c.ncell (by intro y hy; simp at hy) (fun h₁ hns₁ hsb₁=>?_) c.kind)
 dsimp only at hns₁ hsb₁ ⊢
 generalize hH2:s₂.heap.push { cls:=.type "list", dict:=none,data:=.seq ([]:List Value).toArray }=H2 at hns₁ hsb₁ ⊢
 have hC:H2.objs.size=s₂.heap.objs.size+1:=by rw [<- hH2,Heap.size_push]
 have hCle:s₂.heap.objs.size<=H2.objs.size:=by rw [hC]; exact Nat.le_succ _
 have hDC:s₂.heap.objs.size≠H2.objs.size:=by rw [hC]; exact Nat.ne_of_lt (Nat.lt_succ_self _)
 have old:∀ b o,s₂.heap.get? b=some o->h₁.get? b=some o:=fun b o e=>hsb₁.extBut b o (by rw [hC]; exact Nat.ne_of_lt (Nat.lt_succ_of_lt (Heap.lt_size e))) (Heap.get?_push_of_some _ (hH2 ▸ Heap.get?_push_of_some _ e))
 have hacc:h₁.get? s₂.heap.objs.size=some (lob [] 0):=hsb₁.extBut _ _ hDC (Heap.get?_push_of_some _ (hH2 ▸ Heap.get?_push_size _ rfl))
 generalize hD:s₂.heap.objs.size=D at *
 generalize hCC:H2.objs.size=C at *
 have hfp2:∀ b∈fp,FpOk X pins H b/\b<s₂.heap.objs.size:=fun b hb=>⟨hfp b hb,by obtain⟨o,e,_⟩:=T.obj _ _ st b hb; exact Heap.lt_size e⟩
 have hns₂:h₁.Ns C fun _=>none:=hns₁
 have I0:Inv (cxC X scope C N s₂ H fp) [] (stC fr σ) H { s₂ with heap:=h₁,toks:=s₂.toks+([]:List (Str×Value)).length }:=comp_inv c I (by rw [hD]; exact hCle) hfp2 old hns₂
 have st₁:tn 0 h₁:=T.keep _ _ _ st fun b hb o e=>old b o e
 have hDn:∀ b∈fp,b≠D:=fun b hb=>by rw [<- hD]; exact Nat.ne_of_lt (hfp2 b hb).2
 have dAs:∀ {H':Hp},H' D=none->(D≠(cxC X scope C N s₂ H fp).env.locals/\(cxC X scope C N s₂ H fp).s₀.heap.objs.size<=D/\∀ x a,(cxC X scope C N s₂ H fp).env.cells.lookup x=some a->a≠D):=fun hn=>⟨hDC,Nat.le_of_eq hD,fun x a e z=>by
  obtain⟨v,o,ho,_⟩:=I.cell x a (c.get I.ok e)
  have:=Heap.lt_size ho
  rw [z,<- hD] at this
  exact Nat.lt_irrefl _ this⟩
 obtain⟨W,⟨m0,w0⟩,turn⟩:=hq
 have loop:codeAny (model X.prog X.w) X.A (.compLoop (.ListComp elt [⟨tg,iter,ifs,0⟩] scope pos) 0 (.ref it) (.ref D) (compEnvC scope (clOf X.env scope.names []) C X.env)) (RR (.ref D) C) { s₂ with heap:=h₁,toks:=s₂.toks+([]:List (Str×Value)).length }:=by
  refine compLoop_any (fun n s'=>∃ i ys us k H',Inv (cxC X scope C N s₂ H fp) [] (stC fr σ) H' s'/\tn i s'.heap/\(∀ b∈fp,H' b=none)/\s'.heap.get? D=some (lob us k)/\Vals ys us/\H' D=none/\W i n ys H') ?_ m0
   ⟨0,[],[],0,H,I0,st₁,fun b hb=>(hfp b hb).1,hacc,.nil,by rw [<- hD]; exact I.hok.fresh (Nat.le_refl _),w0⟩
  rintro n s3 ⟨i,ys,us,k,H3,I3,st3,fr3,hD3,rv3,hDn3,w3⟩
  obtain⟨hlen,alt⟩:=turn i n ys H3 w3
  obtain⟨d1,d2,d3⟩:=dAs hDn3
  have I3p:Inv (cxC X scope C N s₂ H fp) [(D,lob us k)] (stC fr σ) H3 s3:=I3.pins_of fun p hp=>by
   have e:p=(D,lob us k):=by simpa using hp
   subst e
   refine⟨hD3,hDn3,d1,fun z=>?_,fun v e=>by cases (show Data.seq us.toArray k=Data.cell v from e)⟩
   have z':D∈frs X.stack:=z
   rcases List.mem_cons.mp (I.stkSub D z') with e | e
   ·have:=I.lt
    rw [<- e,<- hD] at this
    exact Nat.lt_irrefl _ this
   ·exact I.nofs (Nat.le_of_eq hD) e
  have stat:∀ {H':Hp},(∀ b∈fp,H' b=none)->∀ b∈fp,FpOk (cxC X scope C N s₂ H fp) [(D,lob us k)] H' b:=fun hn b hb=>by
   obtain⟨q1,q2⟩:=hfp2 b hb
   refine⟨hn b hb,Nat.ne_of_lt (Nat.lt_of_lt_of_le q2 (by rw [hD]; exact hCle)),fun z=>?_,.inl hb,fun x a e=>q1.2.2.2.2.1 x a (c.get I.ok e),fun p hp=>?_⟩
   ·exact (comp_ok c I (by rw [hD]; exact hCle) hfp2).exfs b hb z
   ·have e:p=(D,lob us k):=by simpa [cxC] using hp
    subst e
    exact (hDn b hb).symm
  rcases alt with ⟨stop,qn⟩ | ⟨go,M,hM,step⟩
  ·refine thn (T.done (cxC X scope C N s₂ H fp) rfl rfl rfl hc i _ s3 _ H3 _ I3p (stat fr3) st3 stop) fun r s4 ⟨hr,I4⟩=>?_
   subst hr
   have pD:=(I4.pin (D,lob us k) (by simp)).1
   have I4':Inv (cxC X scope C N s₂ H fp) [] (stC fr σ) H3 s4:=I4.pins_of fun p hp=>absurd hp (by simp)
   have IX:Inv X pins σ H3 s4:=I.call' I4'.os I4'.base I4'.hok I4'.bare fun b hb=>by
    obtain⟨q1,q2,q3,q4,q5,q6⟩:=hfp b hb
    exact⟨q4,q2,q5,q6⟩
   have aD:Aside X pins H3 D:=I.aside (Nat.le_of_eq hD) hDn3
   have IT:Inv X pins σ (upd H3 D (.lst ys)) s4:=IX.track hDn3 aD.ne aD.ab aD.cl aD.pn ⟨Nat.le_of_lt hlen,us,k,rv3,pD⟩
   refine hRR D C H3 ys s4 IT ?_ ?_ (qn D hDn3)
   ·refine I.aside (by rw [hD]; exact hCle) ?_
    rw [upd_ne (Ne.symm hDC)]
    exact I4'.free
   ·obtain⟨m,hm,_⟩:=I4'.loc
    exact⟨m,hm⟩
  ·refine thn (T.item (cxC X scope C N s₂ H fp) rfl rfl rfl hc i _ s3 _ H3 _ I3p (stat fr3) st3 go) fun r s4 ⟨u,hr,h4⟩=>?_
   subst hr
   refine thn h4 fun _ s5 ⟨x,H5,I5,r5,y5,st5,fr5⟩=>?_
   have I5':=I5.pinned (stat fr5) (T.obj _ _ st5)
   refine thn (hg C _ s5 _ H5 x u _ I5' r5 (gw x _ H5 _ _ (fun σ2 H2 wk q=>And.intro wk q) (step x H5 y5))) fun _ s6 ⟨σ6,H6,I6,wk6,q6⟩=>?_
   refine thn (hi C _ s6 σ6 H6 _ I6 q6) fun ok s7 ⟨H7,I7,q7⟩=>?_
   have back:∀ {σ8:St} {H8:Hp} {s8:Shared},σ8 = σ6->Inv (cxC X scope C N s₂ H fp) ([(D,lob us k)]++pinsAt fp s5.heap) σ8 H8 s8->Inv (cxC X scope C N s₂ H fp) [] (stC fr σ) H8 s8/\tn (i+1) s8.heap/\(∀ b∈fp,H8 b=none)/\s8.heap.get? D=some (lob us k)/\H8 D=none:=fun {σ8 H8 s8} e8 I8=>by
    subst e8
    have pf:∀ b o,b∈fp->s5.heap.get? b=some o->s8.heap.get? b=some o/\H8 b=none:=fun b o hb e=>by
     have:=I8.pin (b,o) (List.mem_append_right _ (List.mem_append_right _ (mem_pinsAt hb e)))
     exact⟨this.1,this.2.1⟩
    refine⟨(I8.pins_of (pins':=[]) fun p hp=>absurd hp (by simp)).weak wk6.1.symm fun a v e=>?_,T.keep _ _ _ st5 fun b hb o e=>(pf b o hb e).1,fun b hb=>?_,(I8.pin (D,lob us k) (by simp)).1,(I8.pin (D,lob us k) (by simp)).2.1⟩
    ·obtain⟨j,f1,_⟩:=stC_get e
     rw [wk6.2 a j f1]
     exact e
    ·obtain⟨o,e,_⟩:=T.obj _ _ st5 b hb
     exact (pf b o hb e).2
   cases ok with
   | false =>
     obtain⟨m',hm,w7⟩:=hM _ _ (by simpa using q7)
     obtain⟨a1,a2,a3,a4,a5⟩:=back rfl I7
     exact⟨m',hm,i+1,ys,us,k,H7,a1,a2,a3,a4,rv3,a5,w7⟩
   | true =>
     have q7':te σ6 H7 fun y H4=>M (ys++[y]) H4:=by simpa using q7
     refine thn (he C _ s7 σ6 H7 _ I7 q7') fun v s8 ⟨y,H8,I8,ry,q8⟩=>?_
     obtain⟨m',hm,w8⟩:=hM _ _ q8
     obtain⟨a1,a2,a3,a4,a5⟩:=back rfl I8
     have hus:us.toArray.size<=sizeLine:=by
      rw [List.size_toArray,<- rv3.length]
      exact Nat.le_of_lt hlen
     refine wpAny_list_append_plain (hsz:=hus) (l:=D) (items:=us.toArray) ⟨_,a4⟩ fun h₅ hl₅ hs₅=>?_
     obtain⟨k',hl₅'⟩:=hl₅
     obtain⟨e1,e2,e3⟩:=dAs a5
     refine⟨m',hm,i+1,ys++[y],us++[v],k',H8,a1.turned (t':=s8.toks) (fun b o hb e=>(hs₅.2 b hb).trans e) a5 e1 (.inr e2) e3 (fun p hp=>absurd (show p∈([]:List (Addr×Obj)) from hp) (by simp)),T.keep _ _ _ a2 fun b hb o e=>(hs₅.2 b (hDn b hb)).trans e,a3,?_,rv3.append (.cons ry .nil),a5,w8⟩
     show h₅.get? D=_
     rw [hl₅']
     simp [lob]
 exact codeAny_compStart_list loop (T.self _ _ _ _ _ st₁ loop)
theorem pe_comp {wi:TI} (c:CompOk X scope N fr) (hc:X.calm=true) (hi:PI X tg iter wi) (hg:∀ C s₂ H fp,PG (cxC X scope C N s₂ H fp) tg g) (hf:∀ C s₂ H fp,PIfs (cxC X scope C N s₂ H fp) ifs ti) (he:∀ C s₂ H fp,PE (cxC X scope C N s₂ H fp) elt te) (gw:GW fr g)
 (hs:∀ x,foldedSetIterable iter X.env x=pure x:=by intro _; rfl):PE X (.ListComp elt [⟨tg,iter,ifs,0⟩] scope pos) (tComp fr wi g ti te):=by
 walk_at"z3"
 rw [eval_ListComp]
 refine wpAny_comprehension_free (use:=none) rfl hs (closure_eq (c.cells I.ok)) c.kind c.names (thn (hi pins s σ H _ I h) fun v s1 h1=>thn h1 fun itv s2 h2=>?_)
 obtain⟨it,fp,tn,J,H2,e,I2,T,st2,f2,q⟩:=h2
 subst e
 refine comp_core (RR:=fun acc C=>compPost (model X.prog X.w) X.A X.xe none (EP X pins σ Q) acc C) c hc I2 T st2 f2 (fun C=>hg C _ _ _) (fun C=>hf C _ _ _) (fun C=>he C _ _ _) gw q ?_
 intro D C H' ys s' IT as hm q
 obtain⟨m,hm⟩:=hm
 exact⟨m,hm,fun h' sb=>⟨.ref D,_,IT.turned (t':=s'.toks) (fun b o hb e=>(sb.2 b hb).trans e) as.fr as.ne (.inr as.ab) as.cl as.pn,rfl,q⟩⟩
theorem ps_setC {wi:TI} {i:Nat} {x:Str} {pos' spos:Pos} (hN:X.N.Nodup) (hn:X.N[i]? = some x) (hx:Loc X.env.scope x) (c:CompOk X scope N fr) (hc:X.calm=true) (hi:PI X tg iter wi) (hg:∀ C s₂ H fp,PG (cxC X scope C N s₂ H fp) tg g) (hf:∀ C s₂ H fp,PIfs (cxC X scope C N s₂ H fp) ifs ti) (he:∀ C s₂ H fp,PE (cxC X scope C N s₂ H fp) elt te) (gw:GW fr g)
 (hsw:swapsWith (.ListComp elt [⟨tg,iter,ifs,0⟩] scope pos) (some (.Name x pos')) spos.line X.env=pure true:=by rfl) (hs:∀ x,foldedSetIterable iter X.env x=pure x:=by intro _; rfl)
 (hfl:X.fn x=true\/X.env.scope.names.lookup x=some .local:=by first | exact .inl rfl | exact .inr rfl | assumption) :
 PS X (.Assign [.Name x pos'] (.ListComp elt [⟨tg,iter,ifs,0⟩] scope pos) spos) (tAsg (tComp fr wi g ti te) (gName i)):=by
 walk_at"z3"
 rw [exec_Assign_Name_used _ _ _ _ hsw]
 refine wpAny_bind (wpAny_standAt (wpAny_bind ?_))
 show wpAny _ X.A (do let _ <- comprehension (.ListComp elt [⟨tg,iter,ifs,0⟩] scope pos) scope X.env _ (newList []) false (eval iter X.env) (some (assign (.Name x pos') X.env))) _ _ s
 refine wpAny_bind (wpAny_mono (wpAny_comprehension_free (use:=some (assign (.Name x pos') X.env)) (Q:=fun _ s'=>SP X pins Q .next s') rfl hs (closure_eq (c.cells I.ok)) c.kind c.names
  (thn (hi pins s σ H _ I h) fun v s1 h1=>thn h1 fun itv s2 h2=>?_)) (fun _ s' hq=>wpAny_pure (wpAny_pure hq)) fun _ _ e=>e)
 obtain⟨it,fp,tn,J,H2,e,I2,T,st2,f2,q⟩:=h2
 subst e
 refine comp_core (RR:=fun acc C=>compPost (model X.prog X.w) X.A X.xe (some (assign (.Name x pos') X.env)) (fun _ s'=>SP X pins Q .next s') acc C) c hc I2 T st2 f2 (fun C=>hg C _ _ _) (fun C=>hf C _ _ _) (fun C=>he C _ _ _) gw q ?_
 intro D C H' ys s' IT as hm q
 obtain⟨m,hm⟩:=hm
 show wpAny _ X.A (assign (.Name x pos') X.env (.ref D)) _ _ _
 refine wpAny_assign_Name (store_ok2 IT hN hn hx (v:=.ref D) rfl (fun s2 I3 hsb=>?_) hfl)
 obtain⟨a,sb,ha⟩:=hsb
 have hne:C≠a:=by
  rcases ha with ha | ha
  ·rw [ha]; exact as.ne
  ·exact (as.cl _ _ ha).symm
 refine⟨m,hm.sameBut sb hne,fun h' sb'=>⟨_,_,I3.turned (t':=s2.toks) (fun b o hb e=>(sb'.2 b hb).trans e) as.fr as.ne (.inr as.ab) as.cl as.pn,q⟩⟩
end
end L2
namespace L2
open PySem PySem.Spec PyProof.Rows
theorem Inv.turnedL {X:Cx} {pins:List (Addr×Obj)} {σ:St} {H:Hp} {s:Shared} {h':Heap} {t':Nat} {fp:List Addr} (I:Inv X pins σ H s) (hf:∀ b∈fp,FpOk X pins H b) (k:∀ b o,b ∉ fp->s.heap.get? b=some o->h'.get? b=some o) :
 Inv X pins σ H { s with heap:=h',toks:=t' }:=by
 have nit:∀ b u,H b=some u->b ∉ fp:=fun b u e z=>by rw [(hf b z).1] at e; cases e
 refine I.step (g':=s.gens) (d':=s.drawn) (ch:=fp) (fun b hb=>?_) (fun b o _ _ hc e _=>k b o hc e) (fun b o _ _ hc e _=>⟨o.slots,k b o hc e⟩) (fun _ _ _ _ n=>n)
  (fun b o hc e=>⟨o,k b o hc e⟩) (fun _ _ e=>e) (fun _ _ _ e=>e) (fun b ps e=>⟨#[],by rw [e]; simp⟩) (fun m hm=>?_) (fun b u e=>?_) I.bare
 ·obtain⟨q1,q2,q3,q4,q5,q6⟩:=hf b hb
  exact⟨q4,q2,q5,q6⟩
 ·obtain⟨o,es,ep,ho,r⟩:=hm
  exact⟨o,es,ep,k _ o (fun z=>(hf _ z).2.1 rfl) ho,r⟩
 ·refine (I.hok b u e).stay (fun c v hc q=>k c v ?_ q) (fun _ q=>q) fun _ _ q=>q
  rcases hc with z | z
  ·rw [z]; exact nit b u e
  ·exact nit c _ z
theorem Inv.turnT {X:Cx} {pins:List (Addr×Obj)} {σ:St} {H:Hp} {s:Shared} {h':Heap} {t':Nat} {fp:List Addr} {T:Addr} {xs:List V} {its:List Value} (I:Inv X pins σ H s) (hf:∀ b∈fp,FpOk X pins H b) (k:∀ b o,b ∉ fp->s.heap.get? b=some o->h'.get? b=some o)
 (hT:s.heap.objs.size<=T) (hz:xs.length<=sizeLine) (r:Vals xs its) (it:IsTup h' T its.toArray):Inv X pins σ (upd H T (.tup xs)) { s with heap:=h',toks:=t' }:=by
 have hn:H T=none:=I.hok.fresh hT
 have a:=I.aside hT hn
 exact (I.turnedL (t':=t') hf k).track hn a.ne a.ab a.cl a.pn ⟨hz,its,r,it⟩
def Itz (K:PySem.W.Frag) (a b:Addr):It :=
 ⟨fun i H=>∃ xs ys x y,SqL K H a xs/\SqL K H b ys/\xs[i]? = some x/\ys[i]? = some y,
  fun i H v H'=>∃ T x y,v=.ref T/\H T=none/\H'=upd H T (.tup [x,y])/\(∀ xs,SqL K H a xs->xs[i]? = some x)/\∀ ys,SqL K H b ys->ys[i]? = some y,
  fun i H=>∃ xs ys,SqL K H a xs/\SqL K H b ys/\(xs.length<=i\/ys.length<=i)⟩
def ZipSt (z TI TO i1 i2 a b:Addr) (i:Nat) (h:Heap):Prop:=IsZip h z TI TO .none/\IsPair h TI (.ref i1) (.ref i2)/\(∃ u v,IsPair h TO u v)/\h.IsListIter i1 a i/\h.IsListIter i2 b i
theorem turn_zip {P:Program} {w:World} {K:PySem.W.Frag} {elts:List Expr} {kk:Nat} {tp:Pos} {z TI TO i1 i2 a b:Addr} (D:ZipApart z TI TO i1 i2 a b) :
 Turn P w K (.Tuple elts kk tp) (Itz K a b) [z,TI,TO,i1,i2] z (ZipSt z TI TO i1 i2 a b) where
 mem:=by simp
 obj:=fun i h st c hc=>by
  obtain⟨h1,h2,⟨u,v,h3⟩,⟨o1,e1,_,d1⟩,⟨o2,e2,_,d2⟩⟩:=st
  walk_at"z10"
  rcases hc with rfl | rfl | rfl | rfl | rfl
  ·exact⟨_,h1,fun v z=>by cases (show Data.fields _=Data.cell v from z)⟩
  ·exact⟨_,h2,fun v z=>by cases (show Data.seq _ _=Data.cell v from z)⟩
  ·exact⟨_,h3,fun v z=>by cases (show Data.seq _ _=Data.cell v from z)⟩
  ·exact⟨_,e1,fun v z=>by rw [d1] at z; cases z⟩
  ·exact⟨_,e2,fun v z=>by rw [d2] at z; cases z⟩
 keep:=fun i h h' st k=>by
  obtain⟨h1,h2,⟨u,v,h3⟩,h4,h5⟩:=st
  exact⟨k _ (by simp) _ h1,k _ (by simp) _ h2,⟨u,v,k _ (by simp) _ h3⟩,h4.at fun o e=>k _ (by simp) o e,h5.at fun o e=>k _ (by simp) o e⟩
 item:=by
  walk_at"z6"
  subst hP hw hK
  obtain⟨xs,ys,x,y,hx,hy,ex,ey⟩:=hg
  obtain⟨h1,h2,⟨u,v,h3⟩,h4,h5⟩:=st
  obtain⟨its,rv,p,hz⟩:=I.list hx
  obtain⟨jts,rw',q,hz'⟩:=I.list hy
  obtain⟨ux,hux,rux⟩:=rv.get ex
  obtain⟨uy,huy,ruy⟩:=rw'.get ey
  refine wpAny_pyNext_zip_item D h1 h2 h3 h4 h5 p.isList q.isList (x:=ux) (y:=uy) (by simpa using hux) (by simpa using huy) fun h' a1 a2 a3 a4 a5 a6 a7=>?_
  have lt:∀ c∈[z,TI,TO,i1,i2],c<s.heap.objs.size:=fun c hc=>by
   obtain⟨o1,e1,_⟩:=h4
   obtain⟨o2,e2,_⟩:=h5
   walk_at"z10"
   rcases hc with rfl | rfl | rfl | rfl | rfl
   ·exact Heap.lt_size h1
   ·exact Heap.lt_size h2
   ·exact Heap.lt_size h3
   ·exact Heap.lt_size e1
   ·exact Heap.lt_size e2
  have zT:z≠s.heap.objs.size:=Nat.ne_of_lt (lt z (by simp))
  refine⟨_,rfl,wpAny_letOwnedTupleGo_zip a1 fun h2' b1 b2=>?_⟩
  have hk:∀ c o,c ∉ [z,TI,TO,i1,i2]->s.heap.get? c=some o->h2'.get? c=some o:=fun c o hc e=>by
   simp only [List.mem_cons,List.not_mem_nil,or_false,not_or] at hc
   exact (b2.2 c hc.1).trans (a7 c o hc.1 hc.2.2.1 hc.2.2.2.1 hc.2.2.2.2 e)
  have I1:=I.turnT (h':=h2') (t':=s.toks) (T:=s.heap.objs.size) (xs:=[x,y]) (its:=[ux,uy]) hf hk (Nat.le_refl _) (szl (Nat.le_of_ble_eq_true rfl)) (.cons rux (.cons ruy .nil)) ⟨_,(b2.2 _ zT.symm).trans a5,rfl,_,rfl⟩
  refine⟨.ref s.heap.objs.size,_,I1,rfl,⟨_,x,y,rfl,I.hok.fresh (Nat.le_refl _),rfl,fun xs' h=>by rw [I.list_inj h hx]; exact ex,fun ys' h=>by rw [I.list_inj h hy]; exact ey⟩,?_,fun c hc=>?_⟩
  ·exact⟨b1,(b2.2 _ D.TIz).trans (a7 _ _ D.TIz D.TITO D.TIi1 D.TIi2 h2),⟨_,_,(b2.2 _ D.TOz).trans a2⟩,a3.at fun o e=>(b2.2 _ D.i1z).trans e,a4.at fun o e=>(b2.2 _ D.i2z).trans e⟩
  ·rw [upd_ne (Nat.ne_of_lt (lt c hc))]
   exact (hf c hc).1
 done:=by
  walk_at"z6"
  subst hP hw hK
  obtain⟨xs,ys,hx,hy,hl⟩:=hg
  obtain⟨h1,h2,⟨u,v,h3⟩,h4,h5⟩:=st
  obtain⟨its,rv,p,hz⟩:=I.list hx
  obtain⟨jts,rw',q,hz'⟩:=I.list hy
  have l1:=rv.length
  have l2:=rw'.length
  refine wpAny_pyNext_zip_end (I.ok.hd hc) D h1 h2 h3 h4 h5 p.isList q.isList ?_ fun h' hk=>⟨rfl,?_⟩
  ·rcases hl with hl | hl
   ·left; simp; lia
   ·right; simp; lia
  ·exact I.turnedL (t':=s.toks) hf fun c o hc e=>by
    simp only [List.mem_cons,List.not_mem_nil,or_false,not_or] at hc
    exact hk c o hc.1 hc.2.2.1 hc.2.2.2.1 hc.2.2.2.2 e
 self:=fun A i s Q E st h=>wpAny_pyIter_zip st.1 h
def iZip2 (K:PySem.W.Frag) (ta:TA):TI:=fun σ H R=>ta σ H fun vs H1=>∃ a b,vs=[.ref a,.ref b]/\(∃ xs,SqL K H1 a xs)/\(∃ ys,SqL K H1 b ys)/\R (Itz K a b) H1
theorem bt_zip:bootBuiltins "zip" = some (.type "zip"):=by first | exact PySem.boot_zip | exact PyProof.Rows.boot_zip
theorem bt_enumerate:bootBuiltins "enumerate" = some (.type "enumerate"):=by first | exact PySem.boot_enumerate | exact PyProof.Rows.boot_enumerate
section
variable {X:Cx} {elts:List Expr} {kk:Nat} {tp:Pos}
theorem pi_zip2 {a b:Expr} {ta:TA} {p pos:Pos} (hg:Gl X "zip") (hm:X.mg "zip" = none) (ha:PA X [a,b] ta) (hs:starEach [a,b] X.env=[(false,eval a X.env),(false,eval b X.env)]:=by rfl) (hs2:starEach [b] X.env=[(false,eval b X.env)]:=by rfl) :
 PI X (.Tuple elts kk tp) (.Call (.Name "zip" p) [a,b] [] pos) (iZip2 X.K ta):=by
 intro pins s σ H R I h
 refine Call_ (ld_blt I hg hm bt_zip (PyProof.Rows.callWith_type1 (thn (ha pos pins s σ H _ I h) fun us s1 ⟨vs,H1,I1,r1,q1⟩=>?_) (by rw [hs,hs2]) (by rw [hs2]; rfl)))
 obtain⟨x,y,e,⟨xs,hx⟩,⟨ys,hy⟩,q⟩:=q1
 subst e
 cases r1 with
 | cons r rr =>
   cases rr with
   | cons r' rr =>
     cases rr
     obtain⟨its,rv,pl,hz⟩:=I1.list hx
     obtain⟨jts,rw',ql,hz'⟩:=I1.list hy
     cases r
     cases r'
     have a1:x<s1.heap.objs.size:=by obtain⟨_,e,_⟩:=pl.isList; exact Heap.lt_size e
     have a2:y<s1.heap.objs.size:=by obtain⟨_,e,_⟩:=ql.isList; exact Heap.lt_size e
     refine call_zip_2 pl.isList ql.isList fun h' b1 b2 b3 b4 b5 b6 b7=>?_
     have I2:Inv X pins σ H1 { s1 with heap:=h' }:=I1.kept (t':=s1.toks) b7
     refine wpAny_pyIter_zip (s:={ s1 with heap:=h' }) b1 ⟨_,_,_,_,H1,rfl,I2,turn_zip (zipApart_new a1 a2),⟨b1,b2,⟨_,_,b3⟩,b4,b5⟩,fun c hc=>?_,q⟩
     have hc':s1.heap.objs.size<=c:=by
      walk_at"z10"
      rcases hc with rfl | rfl | rfl | rfl | rfl
      ·exact Nat.le_add_right _ _
      ·exact Nat.le_add_right _ _
      ·exact Nat.le_add_right _ _
      ·exact Nat.le_refl _
      ·exact Nat.le_add_right _ _
     exact I1.fpOk hc' (I1.hok.fresh hc')
end
def Ite (K:PySem.W.Frag) (a:Addr):It :=
 ⟨fun i H=>∃ xs x,SqL K H a xs/\xs[i]? = some x,
  fun i H v H'=>∃ T x,v=.ref T/\H T=none/\H'=upd H T (.tup [.int i,x])/\(∀ xs,SqL K H a xs->xs[i]? = some x),
  fun i H=>∃ xs,SqL K H a xs/\xs.length<=i⟩
theorem turn_enum {P:Program} {w:World} {K:PySem.W.Frag} {elts:List Expr} {kk:Nat} {tp:Pos} {e it a:Addr} (hei:e≠it) :
 Turn P w K (.Tuple elts kk tp) (Ite K a) [e,it] e (fun i h=>(∃ old,IsEnum h e it i old)/\h.IsListIter it a i) where
 mem:=by simp
 obj:=fun i h st c hc=>by
  obtain⟨⟨old,h1⟩,⟨o1,e1,_,d1⟩⟩:=st
  walk_at"z10"
  rcases hc with rfl | rfl
  ·exact⟨_,h1,fun v z=>by cases (show Data.fields _=Data.cell v from z)⟩
  ·exact⟨_,e1,fun v z=>by rw [d1] at z; cases z⟩
 keep:=fun i h h' st k=>by
  obtain⟨⟨old,h1⟩,h2⟩:=st
  exact⟨⟨old,k _ (by simp) _ h1⟩,h2.at fun o e=>k _ (by simp) o e⟩
 item:=by
  walk_at"z6"
  subst hP hw hK
  obtain⟨xs,x,hx,ex⟩:=hg
  obtain⟨⟨old,h1⟩,h2⟩:=st
  obtain⟨its,rv,p,hz⟩:=I.list hx
  obtain⟨ux,hux,rux⟩:=rv.get ex
  refine wpAny_pyNext_enum_item h1 h2 p.isList (x:=ux) (by simpa using hux) hei fun h' a1 a2 a3 a4 a5=>?_
  have lt:∀ c∈[e,it],c<s.heap.objs.size:=fun c hc=>by
   obtain⟨o1,e1,_⟩:=h2
   walk_at"z10"
   rcases hc with rfl | rfl
   ·exact Heap.lt_size h1
   ·exact Heap.lt_size e1
  have eT:e≠s.heap.objs.size:=Nat.ne_of_lt (lt e (by simp))
  refine⟨_,rfl,wpAny_letOwnedTupleGo_enum (s:={ s with heap:=h',toks:=s.toks+1 }) a1 fun h2' b1 b2=>?_⟩
  have hk:∀ c o,c ∉ [e,it]->s.heap.get? c=some o->h2'.get? c=some o:=fun c o hc q=>by
   simp only [List.mem_cons,List.not_mem_nil,or_false,not_or] at hc
   exact (b2.2 c hc.1).trans (a5 c o hc.1 hc.2 q)
  have I1:=I.turnT (h':=h2') (t':=s.toks+1) (T:=s.heap.objs.size) (xs:=[.int i,x]) (its:=[.int i s.toks,ux]) hf hk (Nat.le_refl _) (szl (Nat.le_of_ble_eq_true rfl)) (.cons ⟨_,rfl⟩ (.cons rux .nil)) ⟨_,(b2.2 _ eT.symm).trans a3,rfl,_,rfl⟩
  refine⟨.ref s.heap.objs.size,_,I1,rfl,⟨_,x,rfl,I.hok.fresh (Nat.le_refl _),rfl,fun xs' h=>by rw [I.list_inj h hx]; exact ex⟩,?_,fun c hc=>?_⟩
  ·exact⟨⟨ux,by simpa using b1⟩,a2.at fun o q=>(b2.2 _ hei.symm).trans q⟩
  ·rw [upd_ne (Nat.ne_of_lt (lt c hc))]
   exact (hf c hc).1
 done:=by
  walk_at"z6"
  subst hP hw hK
  obtain⟨xs,hx,hl⟩:=hg
  obtain⟨⟨old,h1⟩,h2⟩:=st
  obtain⟨its,rv,p,hz⟩:=I.list hx
  have l1:=rv.length
  refine wpAny_pyNext_enum_end (I.ok.hd hc) h1 h2 p.isList (by simp; lia) fun h' hk=>⟨rfl,?_⟩
  exact I.turnedL (t':=s.toks) hf fun c o hc q=>by
   simp only [List.mem_cons,List.not_mem_nil,or_false,not_or] at hc
   exact hk c o hc.2 q
 self:=fun A i s Q E st h=>by
  obtain⟨⟨old,h1⟩,_⟩:=st
  exact wpAny_pyIter_enum h1 h
def iEnum (K:PySem.W.Frag) (ta:TA):TI:=fun σ H R=>ta σ H fun vs H1=>∃ a,vs=[.ref a]/\(∃ xs,H1 a=some (.lst xs))/\R (Ite K a) H1
section
variable {X:Cx} {elts:List Expr} {kk:Nat} {tp:Pos}
theorem pi_enumerate1 {a:Expr} {ta:TA} {p pos:Pos} (hg:Gl X "enumerate") (hm:X.mg "enumerate" = none) (ha:PA X [a] ta) (hs:starEach [a] X.env=[(false,eval a X.env)]:=by rfl) :
 PI X (.Tuple elts kk tp) (.Call (.Name "enumerate" p) [a] [] pos) (iEnum X.K ta):=by
 intro pins s σ H R I h
 refine Call_ (ld_blt I hg hm bt_enumerate (PyProof.Rows.callWith_type1 (thn (ha pos pins s σ H _ I h) fun us s1 ⟨vs,H1,I1,r1,q1⟩=>?_) hs rfl))
 obtain⟨x,e,⟨xs,hx⟩,q⟩:=q1
 subst e
 cases r1 with
 | cons r rr =>
   cases rr
   cases r
   obtain⟨hz,its,n,rv,hg⟩:=(show ObjOk X.prog X.w H1 s1.heap x (.lst xs) from I1.hok x _ hx)
   refine call_enumerate_1 hg fun h' b1 b2 b3 b4=>?_
   have I2:Inv X pins σ H1 { s1 with heap:=h' }:=I1.kept (t':=s1.toks) b4
   refine wpAny_pyIter_enum (s:={ s1 with heap:=h' }) b1 ⟨_,_,_,_,H1,rfl,I2,turn_enum (Nat.ne_of_gt (Nat.lt_succ_self _)),⟨⟨_,b1⟩,b2⟩,fun c hc=>?_,q⟩
   have hc':s1.heap.objs.size<=c:=by
    walk_at"z10"
    rcases hc with rfl | rfl
    ·exact Nat.le_add_right _ _
    ·exact Nat.le_refl _
   exact I1.fpOk hc' (I1.hok.fresh hc')
end
end L2
namespace L2
open PySem PySem.Spec PyProof.Rows
section
variable {prog:Program} {w:World} {A:Around} {E:Value->Shared->Prop} {s:Shared}
theorem min_raw {l:Addr} {vs:List Value} {ns:List Int} {Q:Value->Shared->Prop} (hh:A.handled=none) (hl:s.heap.IsList l vs.toArray) (hi:IntsAre vs ns) (hne:0<ns.length)
 (h:∀ h' M (t:Tok) tk,(∀ b o,s.heap.get? b=some o->h'.get? b=some o)->M∈ns->(∀ a,a∈ns->M<=a)->Q (.int M t) { s with heap:=h',toks:=tk }):wpAny (model prog w) A (call (.builtin "min") [.ref l]) Q E s:=by
 obtain⟨xs,e⟩:=hi.allInts.items
 have hns:ns=xs.toList.map (·.1):=by
  rw [<- hi.numsOf,<- nums_intItems,<- e]
 have hsz:0<xs.size:=by
  have h3:=hne; rw [hns,List.length_map,Array.length_toList] at h3; exact h3
 rw [e] at hl
 refine min_intList hh hl hsz fun v h' tk hv hk=>?_
 obtain⟨t,rfl⟩:=intItems_at hv
 obtain⟨h1,h2⟩:=argBest_lt (numAt xs) (xs.size - 1)
 refine h _ _ t tk hk ?_ fun a ha=>?_
 ·rw [hns,numAt_eq]; exact PySem.getD_mem (by rw [List.length_map,Array.length_toList]; lia)
 ·rw [hns] at ha
  obtain⟨j,hj,rfl⟩:=mem_getD ha
  rw [List.length_map,Array.length_toList] at hj
  rw [<- numAt_eq]; exact h2 j (by lia)
theorem max_raw {l:Addr} {vs:List Value} {ns:List Int} {Q:Value->Shared->Prop} (hh:A.handled=none) (hl:s.heap.IsList l vs.toArray) (hi:IntsAre vs ns) (hne:0<ns.length)
 (h:∀ h' M (t:Tok) tk,(∀ b o,s.heap.get? b=some o->h'.get? b=some o)->M∈ns->(∀ a,a∈ns->a<=M)->Q (.int M t) { s with heap:=h',toks:=tk }):wpAny (model prog w) A (call (.builtin "max") [.ref l]) Q E s:=by
 obtain⟨xs,e⟩:=hi.allInts.items
 have hns:ns=xs.toList.map (·.1):=by
  rw [<- hi.numsOf,<- nums_intItems,<- e]
 have hsz:0<xs.size:=by
  have h3:=hne; rw [hns,List.length_map,Array.length_toList] at h3; exact h3
 rw [e] at hl
 refine max_intList hh hl hsz fun v h' tk hv hk=>?_
 obtain⟨t,rfl⟩:=intItems_at hv
 obtain⟨h1,h2⟩:=argBest_gt (numAt xs) (xs.size - 1)
 refine h _ _ t tk hk ?_ fun a ha=>?_
 ·rw [hns,numAt_eq]; exact PySem.getD_mem (by rw [List.length_map,Array.length_toList]; lia)
 ·rw [hns] at ha
  obtain⟨j,hj,rfl⟩:=mem_getD ha
  rw [List.length_map,Array.length_toList] at hj
  rw [<- numAt_eq]; exact h2 j (by lia)
theorem sum_raw {l:Addr} {vs:List Value} {ns:List Int} {Q:Value->Shared->Prop} (hh:A.handled=none) (hl:s.heap.IsList l vs.toArray) (hi:IntsAre vs ns)
 (h:∀ h' tk t',(∀ b o,s.heap.get? b=some o->h'.get? b=some o)->Q (.int ns.sum t') { s with heap:=h',toks:=tk }):wpAny (model prog w) A (call (.builtin "sum") [.ref l]) Q E s:=by
 obtain⟨xs,hx⟩:=hi.allInts.items
 have hl':s.heap.IsList l (intItems xs):=hx ▸ hl
 refine sum_intListG hh hl' fun h' tk t' hk=>?_
 have e1:ns=xs.toList.map (·.1):=by
  rw [<- nums_intItems,<- hx]
  exact (show numsOf vs.toArray.toList=ns from hi.numsOf).symm
 have e2:preSum (numAt xs) xs.size=ns.sum:=by
  rw [preSum_eq,List.take_of_length_le (by simp),e1]
 rw [e2]
 exact h h' tk t' hk
end
def rSum (K:PySem.W.Frag):List V->Hp->VK->Prop:=fun xs H Q=>∃ p ns,xs=[.ref p]/\SqL K H p (iL ns)/\Q (.int ns.sum) H
def rMin (K:PySem.W.Frag):List V->Hp->VK->Prop:=fun xs H Q=>(∃ i j,xs=[.int i,.int j]/\Q (.int (if j<i then j else i)) H)\/∃ p ns,xs=[.ref p]/\SqL K H p (iL ns)/\0<ns.length/\∀ m,m∈ns->(∀ a∈ns,m<=a)->Q (.int m) H
def rMax (K:PySem.W.Frag):List V->Hp->VK->Prop:=fun xs H Q=>(∃ i j,xs=[.int i,.int j]/\Q (.int (if j > i then j else i)) H)\/∃ p ns,xs=[.ref p]/\SqL K H p (iL ns)/\0<ns.length/\∀ m,m∈ns->(∀ a∈ns,a<=m)->Q (.int m) H
section
variable {X:Cx}
theorem call_sumN (hc:X.calm=true):CallR X (.builtin "sum") (rSum X.K):=by
 walk_at"z12"
 obtain⟨p,ns,rfl,hq,q⟩:=h
 obtain⟨u,rfl,ru⟩:=vals1 r
 cases ru
 obtain⟨its,rv,pl,hz⟩:=I.list hq
 exact sum_raw (I.ok.hd hc) pl.isList (intsAre_of rv) fun h' tk t' hk=>⟨.int _,H,I.kept (t':=tk) hk,⟨_,rfl⟩,q⟩
theorem call_minN (hc:X.calm=true):CallR X (.builtin "min") (rMin X.K):=by
 walk_at"z12"
 rcases h with h | ⟨p,ns,rfl,hq,hne,q⟩
 ·exact call_min2 hc pins s σ H xs us Q I r h
 ·obtain⟨u,rfl,ru⟩:=vals1 r
  cases ru
  obtain⟨its,rv,pl,hz⟩:=I.list hq
  exact min_raw (I.ok.hd hc) pl.isList (intsAre_of rv) hne fun h' M t tk hk h1 h2=>⟨.int M,H,I.kept (t':=tk) hk,⟨_,rfl⟩,q M h1 h2⟩
theorem call_maxN (hc:X.calm=true):CallR X (.builtin "max") (rMax X.K):=by
 walk_at"z12"
 rcases h with h | ⟨p,ns,rfl,hq,hne,q⟩
 ·exact call_max2 hc pins s σ H xs us Q I r h
 ·obtain⟨u,rfl,ru⟩:=vals1 r
  cases ru
  obtain⟨its,rv,pl,hz⟩:=I.list hq
  exact max_raw (I.ok.hd hc) pl.isList (intsAre_of rv) hne fun h' M t tk hk h1 h2=>⟨.int M,H,I.kept (t':=tk) hk,⟨_,rfl⟩,q M h1 h2⟩
end
section
variable {K:PySem.W.Frag} {H:Hp} {Q:VK} {p:Addr} {ns:List Int} {i j:Int}
theorem i_sum (h:SqL K H p (iL ns)) (q:Q (.int ns.sum) H):rSum K [.ref p] H Q:=⟨p,ns,rfl,h,q⟩
theorem i_min2 (q:∀ m,m=min i j->Q (.int m) H):rMin K [.int i,.int j] H Q:=.inl ⟨i,j,rfl,q _ (by split <;> lia)⟩
theorem i_max2 (q:∀ m,m=max i j->Q (.int m) H):rMax K [.int i,.int j] H Q:=.inl ⟨i,j,rfl,q _ (by split <;> lia)⟩
theorem i_minL (h:SqL K H p (iL ns)) (hn:0<ns.length) (q:∀ m,m∈ns->(∀ a∈ns,m<=a)->Q (.int m) H):rMin K [.ref p] H Q:=.inr ⟨p,ns,rfl,h,hn,q⟩
theorem i_maxL (h:SqL K H p (iL ns)) (hn:0<ns.length) (q:∀ m,m∈ns->(∀ a∈ns,a<=m)->Q (.int m) H):rMax K [.ref p] H Q:=.inr ⟨p,ns,rfl,h,hn,q⟩
end
section
variable {K:PySem.W.Frag} {g:TG} {tb:TS} {D:Ends} {σ:St} {H:Hp}
theorem lp_zip {a b:Addr} {xs ys:List V} (Pv:Nat->St->Hp->Prop) (h0:Pv 0 σ H) (hl:∀ i σ H,Pv i σ H->SqL K H a xs/\SqL K H b ys)
 (hs:∀ i x y T σ H,xs[i]? = some x->ys[i]? = some y->Pv i σ H->H T=none->g (.ref T) σ (upd H T (.tup [x,y])) fun σ2 H2=>tb { D with nx:=Pv (i+1),ct:=Pv (i+1),bk:=D.nx } σ2 H2)
 (hd:∀ σ H,Pv (min xs.length ys.length) σ H->D.nx σ H):LoopI (Itz K a b) g tb D σ H:=by
 refine⟨fun i m σ H=>m=min xs.length ys.length - i/\i<=min xs.length ys.length/\Pv i σ H,⟨_,rfl,Nat.zero_le _,h0⟩,?_⟩
 rintro i m σ H ⟨rfl,hi,p⟩
 obtain⟨q1,q2⟩:=hl i σ H p
 by_cases hlt:i<min xs.length ys.length
 ·have l1:i<xs.length:=by lia
  have l2:i<ys.length:=by lia
  refine .inr ⟨⟨xs,ys,xs[i],ys[i],q1,q2,by simp [l1],by simp [l2]⟩,Pv (i+1),fun σ' H' p'=>⟨_,by lia,rfl,hlt,p'⟩,fun x H' y=>?_⟩
  obtain⟨T,x1,y1,rfl,hT,rfl,ex,ey⟩:=y
  exact hs i x1 y1 T σ H (ex xs q1) (ey ys q2) p hT
 ·have e:i=min xs.length ys.length:=by lia
  refine .inl ⟨⟨xs,ys,q1,q2,by lia⟩,hd σ H (by rw [<- e]; exact p)⟩
theorem lp_enum {a:Addr} {xs:List V} (Pv:Nat->St->Hp->Prop) (h0:Pv 0 σ H) (hl:∀ i σ H,Pv i σ H->SqL K H a xs)
 (hs:∀ i x T σ H,xs[i]? = some x->Pv i σ H->H T=none->g (.ref T) σ (upd H T (.tup [.int i,x])) fun σ2 H2=>tb { D with nx:=Pv (i+1),ct:=Pv (i+1),bk:=D.nx } σ2 H2)
 (hd:∀ σ H,Pv xs.length σ H->D.nx σ H):LoopI (Ite K a) g tb D σ H:=by
 refine⟨fun i m σ H=>m=xs.length - i/\i<=xs.length/\Pv i σ H,⟨_,rfl,Nat.zero_le _,h0⟩,?_⟩
 rintro i m σ H ⟨rfl,hi,p⟩
 have q1:=hl i σ H p
 by_cases hlt:i<xs.length
 ·refine .inr ⟨⟨xs,xs[i],q1,by simp [hlt]⟩,Pv (i+1),fun σ' H' p'=>⟨_,by lia,rfl,hlt,p'⟩,fun x H' y=>?_⟩
  obtain⟨T,x1,rfl,hT,rfl,ex⟩:=y
  exact hs i x1 T σ H (ex xs q1) p hT
 ·have e:i=xs.length:=by lia
  refine .inl ⟨⟨xs,q1,by lia⟩,hd σ H (by rw [<- e]; exact p)⟩
end
section
variable {K:PySem.W.Frag} {g:TG} {ti:TT} {te:TE} {σc:St} {H:Hp} {Q:VK}
theorem cp_list {a:Addr} {xs:List V} (Pv:Nat->List V->Hp->Prop) (h0:Pv 0 [] H) (hl:∀ i ys H,Pv i ys H->SqL K H a xs/\ys.length<=i) (hx:xs.length<sizeLine)
 (hs:∀ i x ys H,xs[i]? = some x->Pv i ys H->g x σc H fun σ2 H2=>ti σ2 H2 fun b H3=>if b=true then te σ2 H3 fun y H4=>Pv (i+1) (ys++[y]) H4 else Pv (i+1) ys H3)
 (hd:∀ l ys H,Pv xs.length ys H->H l=none->Q (.ref l) (upd H l (.lst ys))):CompI (Itl K a) g ti te σc H Q:=by
 refine⟨fun i m ys H=>m=xs.length - i/\i<=xs.length/\Pv i ys H,⟨_,rfl,Nat.zero_le _,h0⟩,?_⟩
 rintro i m ys H ⟨rfl,hi,p⟩
 obtain⟨q,hy⟩:=hl i ys H p
 refine⟨by lia,?_⟩
 by_cases hlt:i<xs.length
 ·refine .inr ⟨⟨xs,xs[i],q,by simp [hlt]⟩,Pv (i+1),fun σ' H' p'=>⟨_,by lia,rfl,hlt,p'⟩,fun x H' y=>?_⟩
  obtain⟨e,y⟩:=y
  subst e
  exact hs i x ys _ (y xs q) p
 ·have e:i=xs.length:=by lia
  subst e
  exact .inl ⟨⟨xs,q,Nat.le_refl _⟩,fun l hl=>hd l ys H p hl⟩
theorem cp_range {lo:Int} {n:Nat} (Pv:Nat->List V->Hp->Prop) (h0:Pv 0 [] H) (hl:∀ i ys H,Pv i ys H->ys.length<=i) (hx:n<sizeLine)
 (hs:∀ i ys H,i<n->Pv i ys H->g (.int (lo+i)) σc H fun σ2 H2=>ti σ2 H2 fun b H3=>if b=true then te σ2 H3 fun y H4=>Pv (i+1) (ys++[y]) H4 else Pv (i+1) ys H3)
 (hd:∀ l ys H,Pv n ys H->H l=none->Q (.ref l) (upd H l (.lst ys))):CompI (Itr lo n) g ti te σc H Q:=by
 refine⟨fun i m ys H=>m=n - i/\i<=n/\Pv i ys H,⟨_,rfl,Nat.zero_le _,h0⟩,?_⟩
 rintro i m ys H ⟨rfl,hi,p⟩
 have hy:=hl i ys H p
 refine⟨by lia,?_⟩
 by_cases hlt:i<n
 ·refine .inr ⟨hlt,Pv (i+1),fun σ' H' p'=>⟨_,by lia,rfl,hlt,p'⟩,fun x H' y=>?_⟩
  obtain⟨e,y⟩:=y
  subst e y
  exact hs i ys _ hlt p
 ·have e:i=n:=by lia
  subst e
  exact .inl ⟨Nat.le_refl _,fun l hl=>hd l ys H p hl⟩
theorem cp_zip {a b:Addr} {xs ys:List V} (Pv:Nat->List V->Hp->Prop) (h0:Pv 0 [] H) (hl:∀ i zs H,Pv i zs H->SqL K H a xs/\SqL K H b ys/\zs.length<=i) (hx:min xs.length ys.length<sizeLine)
 (hs:∀ i x y T zs H,xs[i]? = some x->ys[i]? = some y->Pv i zs H->H T=none->g (.ref T) σc (upd H T (.tup [x,y])) fun σ2 H2=>ti σ2 H2 fun b H3=>if b=true then te σ2 H3 fun y H4=>Pv (i+1) (zs++[y]) H4 else Pv (i+1) zs H3)
 (hd:∀ l zs H,Pv (min xs.length ys.length) zs H->H l=none->Q (.ref l) (upd H l (.lst zs))):CompI (Itz K a b) g ti te σc H Q:=by
 refine⟨fun i m zs H=>m=min xs.length ys.length - i/\i<=min xs.length ys.length/\Pv i zs H,⟨_,rfl,Nat.zero_le _,h0⟩,?_⟩
 rintro i m zs H ⟨rfl,hi,p⟩
 obtain⟨q1,q2,hy⟩:=hl i zs H p
 refine⟨by lia,?_⟩
 by_cases hlt:i<min xs.length ys.length
 ·have l1:i<xs.length:=by lia
  have l2:i<ys.length:=by lia
  refine .inr ⟨⟨xs,ys,xs[i],ys[i],q1,q2,by simp [l1],by simp [l2]⟩,Pv (i+1),fun σ' H' p'=>⟨_,by lia,rfl,hlt,p'⟩,fun x H' y=>?_⟩
  obtain⟨T,x1,y1,rfl,hT,rfl,ex,ey⟩:=y
  exact hs i x1 y1 T zs H (ex xs q1) (ey ys q2) p hT
 ·have e:i=min xs.length ys.length:=by lia
  exact .inl ⟨⟨xs,ys,q1,q2,by lia⟩,fun l hl=>hd l zs H (by rw [<- e]; exact p) hl⟩
end
end L2
namespace L2
open PySem PySem.Spec PyProof.Rows
theorem fr_nil {X:Cx} {sc:Scope}:FrOk X sc [] []:=trivial
theorem fr_none {X:Cx} {sc:Scope} {x:Str} {N:List Str} {fr:List (Option Nat)} (h:FrOk X sc N fr):FrOk X sc (x :: N) (none :: fr):=h
theorem fr_some {X:Cx} {sc:Scope} {x:Str} {N:List Str} {fr:List (Option Nat)} {j:Nat} (h1:X.N[j]? = some x) (h2:X.env.kindOf x=some .cell\/X.env.kindOf x=some .free) (h3:sc.names.lookup x=some .free) (h:FrOk X sc N fr):FrOk X sc (x :: N) (some j :: fr):=⟨⟨h1,h2,h3⟩,h⟩
theorem pe_globI {X:Cx} {x:Str} {n:Int} {pos:Pos} (h:∃ t,X.mg x=some (.int n t)) (hg:Gl X x) (hd:(x == ("__debug__" : Str))=false:=by decide):PE X (.Name x pos) (tC (.int n)):=by
 obtain⟨t,h⟩:=h
 exact pe_glob hg h ⟨t,rfl⟩ hd
end L2
namespace L2
open PySem PySem.Spec PyProof.Rows
section
variable {X:Cx} (K:PySem.W.Frag) {tg l:Expr} {tl:TE} {pos p:Pos}
theorem op_eqK (hu:X.A.units+64<cLine) (hK:X.K=K:=by rfl):OpR X (compareOp .Eq) (rEqP K):=by subst hK; exact op_eqP hu
theorem op_neK (hu:X.A.units+64<cLine) (hK:X.K=K:=by rfl):OpR X (compareOp .NotEq) (rNeP K):=by subst hK; exact op_neP hu
theorem ix_K (hK:X.K=K:=by rfl):IxR X (rIxP K):=by subst hK; exact ix_P
theorem sl_listK (hK:X.K=K:=by rfl):SlR X (rSlL K):=by subst hK; exact sl_list
theorem call_lenK (hK:X.K=K:=by rfl):CallR X (.builtin "len") (rLen K):=by subst hK; exact call_lenN
theorem call_isinstanceK (hK:X.K=K:=by rfl):CallR X (.builtin "isinstance") (rIsi K):=by subst hK; exact call_isinstanceN
theorem call_sumK (hc:X.calm=true:=by rfl) (hK:X.K=K:=by rfl):CallR X (.builtin "sum") (rSum K):=by subst hK; exact call_sumN hc
theorem call_minK (hc:X.calm=true:=by rfl) (hK:X.K=K:=by rfl):CallR X (.builtin "min") (rMin K):=by subst hK; exact call_minN hc
theorem call_maxK (hc:X.calm=true:=by rfl) (hK:X.K=K:=by rfl):CallR X (.builtin "max") (rMax K):=by subst hK; exact call_maxN hc
theorem call_intK:CallR X (.type "int") rIntOf:=call_intN
theorem call_absK:CallR X (.builtin "abs") rAbs:=call_absN
theorem pi_listK (hl:PE X l tl) (hK:X.K=K:=by rfl):PI X tg l (iList K tl):=by subst hK; exact pi_list hl
theorem pi_zip2K {elts:List Expr} {kk:Nat} {tp:Pos} {a b:Expr} {ta:TA} (hg:Gl X "zip") (hm:X.mg "zip" = none) (ha:PA X [a,b] ta) (hs:starEach [a,b] X.env=[(false,eval a X.env),(false,eval b X.env)]:=by rfl) (hs2:starEach [b] X.env=[(false,eval b X.env)]:=by rfl) (hK:X.K=K:=by rfl) :
 PI X (.Tuple elts kk tp) (.Call (.Name "zip" p) [a,b] [] pos) (iZip2 K ta):=by subst hK; exact pi_zip2 hg hm ha hs hs2
theorem pi_enumerate1K {elts:List Expr} {kk:Nat} {tp:Pos} {a:Expr} {ta:TA} (hg:Gl X "enumerate") (hm:X.mg "enumerate" = none) (ha:PA X [a] ta) (hs:starEach [a] X.env=[(false,eval a X.env)]:=by rfl) (hK:X.K=K:=by rfl) :
 PI X (.Tuple elts kk tp) (.Call (.Name "enumerate" p) [a] [] pos) (iEnum K ta):=by subst hK; exact pi_enumerate1 hg hm ha hs
theorem pg_tupK {es:List Expr} {k:Nat} {t:TGs} (n:Nat) (h:PGs X es t) (hc:X.calm=true:=by rfl) (hn:(assignEach es X.env).length=n:=by rfl) (hst:(assignEach es X.env).findIdx? (·.1)=none:=by rfl) (hK:X.K=K:=by rfl):PG X (.Tuple es k pos) (gTup K n t):=by
 subst hK; exact pg_tup hc h hn hst
theorem pt_truthK {a:Expr} {ta:TE} (ha:PE X a ta) (he:∀ whole,isTrue a X.env whole=(do let v <- whole; standAt a.pos; holding [v] (truthy v)):=by intro _; rfl) (hK:X.K=K:=by rfl):PT X a (tTru K ta):=by
 subst hK; exact pt_truthN ha he
theorem pe_bmK {o e:Expr} {es:List Expr} {to:TE} {t:TA} {name:Str} {apos cpos:Pos} {T id:String} {r:V->List V->Hp->VK->Prop} (pa:PlainAttrs T) (slot:Slot T name id) (hty:typeOf (.builtin id)=pure (.type "method_descriptor")) (hm:MtR X id r) (ho:PE X o to) (ha:PA X (e :: es) t)
 (hbase:attributeBase o name X.env (eval o X.env)=eval o X.env:=by rfl)
 (hfew:((backTo cpos (starEach (e :: es) X.env)).all (fun x=>!x.1) && (backToKw cpos (keywordEach [] X.env)).all (fun x=>x.1.isSome)
  && decide ((e :: es).length+([]:List Keyword).length+(if ([]:List Keyword).isEmpty then 0 else 1)<30))=true:=by rfl)
 (hline:(apos.endLine == cpos.line)=true:=by rfl) (hs:starEach (e :: es) X.env=(false,eval e X.env) :: starEach es X.env:=by rfl) (hplain:(backTo cpos (starEach es X.env)).any (·.1)=false:=by rfl) (hK:X.K=K:=by rfl) :
 PE X (.Call (.Attribute o name apos) (e :: es) [] cpos) (tBM K T r to t):=by
 subst hK; exact pe_bm pa slot hty hm ho ha hbase hfew hline hs hplain
theorem pe_bm0K {o:Expr} {to:TE} {name:Str} {apos cpos:Pos} {T id:String} {r:V->List V->Hp->VK->Prop} (pa:PlainAttrs T) (slot:Slot T name id) (hty:typeOf (.builtin id)=pure (.type "method_descriptor")) (hm:MtR X id r) (ho:PE X o to)
 (hbase:attributeBase o name X.env (eval o X.env)=eval o X.env:=by rfl) (hline:(apos.endLine == cpos.line)=true:=by rfl) (hK:X.K=K:=by rfl):PE X (.Call (.Attribute o name apos) [] [] cpos) (tBM0 K T r to):=by
 subst hK; exact pe_bm0 pa slot hty hm ho hbase hline
theorem op_inK (hK:X.K=K:=by rfl):OpR X (compareOp .In) (rIn K false):=by subst hK; exact op_in_seq
theorem op_notInK (hK:X.K=K:=by rfl):OpR X (compareOp .NotIn) (rIn K true):=by subst hK; exact op_notIn_seq
end
end L2
namespace L2
open PySem PySem.Spec PyProof.Rows
section
variable {K:PySem.W.Frag} {H:Hp} {Q:VK} {n:Nat}
theorem pd_lst {t:Addr} {ds:List PyData} {xs:List V} (h:SqL K H t xs) (p:Paired (PdAt K H n) ds xs):PdAt K H (n+1) (.list ds) (.ref t):=⟨t,xs,rfl,h,p⟩
theorem i_neSame {x y:V} (d:PyData) (hx:PdAt K H 9 d x) (hy:PdAt K H 9 d y) (q:Q (.bl false) H):rNeP K x y H Q:=⟨d,d,hx,hy,by
 rw [PySem.SeqAt.eqv_refl d (pd_shape 9 d x hx).1]; exact q⟩
end
end L2
namespace L2
open PySem PySem.Spec PyProof.Rows
theorem i_popS {H:Hp} {Q:VK} {l:Addr} {xs:List V} {y:V} (h:H l=some (.lst (xs++[y]))) (q:Q y (upd H l (.lst xs))):rPop (.ref l) [] H Q:=⟨l,_,y,rfl,rfl,h,by simp,by simpa using q⟩
end L2
namespace L2
open PySem PySem.Spec PyProof.Rows
def Itd (lo:Int) (n:Nat):It:=⟨fun i _=>i<n,fun i H x H'=>H'=H/\x=.int (lo - i),fun i _=>n<=i⟩
theorem turn_down {P:Program} {w:World} {K:PySem.W.Frag} {tg:Expr} (it:Addr) (lo:Int) (n:Nat):Turn P w K tg (Itd lo n) [it] it (fun i h=>IsRangeIter h it (lo+(i:Nat)*(-1)) ((n:Int) - (i:Nat)) (-1)) where
 mem:=by simp
 obj:=fun i h st b hb=>by
  have e:b=it:=by simpa using hb
  subst e
  exact⟨_,st,fun v z=>by
   have z':Data.fields _=Data.cell v:=z
   cases z'⟩
 keep:=fun i h h' st k=>k it (by simp) _ st
 item:=by
  walk_at"z6"
  subst hP hw hK
  walk_at"z17"
  have W:=Walks.range (prog:=X.prog) (w:=X.w) (I.ok.hd hc) it lo (-1) n
  refine W.item i s _ _ hg st fun v h' tk hv st' kk=>?_
  obtain⟨t,rfl⟩:=hv
  have I1:Inv X pins σ H { s with heap:=h',toks:=tk }:=I.turned (fun b o hb e=>kk b o (by simpa using hb) e) f0 f1 f3 f4 f5
  refine⟨_,rfl,go_of (s:={ s with heap:=h',toks:=tk }) (n := "range_iterator") st' rfl rfl (by decide) ⟨.int (lo - i),H,I1,⟨t,?_⟩,⟨rfl,rfl⟩,st',fun b hb=>(hf b hb).1⟩⟩
  congr 1
  lia
 done:=by
  walk_at"z6"
  subst hP hw hK
  walk_at"z17"
  exact wpAny_pyNext_range_end (I.ok.hd hc) st (by have:n<=i:=hg; lia) fun h' eb=>⟨rfl,I.turned (t':=s.toks) (fun b o hb e=>eb b o hb e) f0 f1 f3 f4 f5⟩
 self:=fun _ _ _ _ _ st h=>wpAny_pyIter_rangeiter st h
theorem rangeSize_down (a b:Int):Builtin.Range.rangeSize a b (-1)=if a > b then a - b else 0:=by
 unfold Builtin.Range.rangeSize
 simp only [show ¬ ((-1:Int) > 0) by decide,if_false,Int.neg_neg,Int.ediv_one]
 split <;> lia
theorem small_down {a b:Int} (ha:-(2 ^ 62)<=a) (ha':a<2 ^ 62) (hb:-(2 ^ 62)<=b) (hb':b<2 ^ 62):Builtin.Range.small a b (-1)=true:=by
 unfold Builtin.Range.small
 rw [rangeSize_down]
 simp only [Builtin.Range.rangeFitsLong,Bool.and_eq_true,Bool.or_eq_true,decide_eq_true_eq,beq_iff_eq,show ¬ ((-1:Int) > 0) by decide,if_false]
 split <;> lia
section
variable {X:Cx} {tg:Expr}
theorem range_itd {pins:List (Addr×Obj)} {σ:St} {H:Hp} {s:Shared} {R:It->Hp->Prop} {E:Value->Shared->Prop} {lo hi:Int} {t u v:Tok} {tk:Nat} (I:Inv X pins σ H s) (h1:-(2 ^ 62)<=lo) (h2:lo<2 ^ 62) (h3:-(2 ^ 62)<=hi) (h4:hi<2 ^ 62)
 (q:R (Itd lo (lo - hi).toNat) H):wpAny (model X.prog X.w) X.A (pyIter (.ref s.heap.objs.size)) (PIE X pins σ tg R) E { s with heap:=s.heap.push { cls:=.type "range", data:=.fields #[.int lo t,.int hi u,.int (-1) v] },toks:=tk }:=by
 refine wpAny_pyIter_range (IsRange.new ..) (small_down h1 h2 h3 h4) ?_
 have I1:Inv X pins σ H { s with heap:=s.heap.push { cls:=.type "range", data:=.fields #[.int lo t,.int hi u,.int (-1) v] },toks:=tk }:=I.kept fun b o e=>Heap.get?_push_of_some _ e
 refine⟨(s.heap.push { cls:=.type "range", data:=.fields #[.int lo t,.int hi u,.int (-1) v] }).objs.size,[(s.heap.push { cls:=.type "range", data:=.fields #[.int lo t,.int hi u,.int (-1) v] }).objs.size],_,_,H,rfl,
  I1.kept (t':=tk) fun b o e=>Heap.get?_push_of_some _ e,turn_down _ lo (lo - hi).toNat,?_,fun b hb=>?_,q⟩
 ·have e1:lo+((0:Nat):Int)*(-1)=lo:=by simp
  have e2:(((lo - hi).toNat:Nat):Int) - ((0:Nat):Int)=Builtin.Range.rangeSize lo hi (-1):=by rw [rangeSize_down]; split <;> lia
  show IsRangeIter _ _ (lo+((0:Nat):Int)*(-1)) ((((lo - hi).toNat:Nat):Int) - ((0:Nat):Int)) (-1)
  rw [e1,e2]
  exact Heap.get?_push_size _ rfl
 ·have e:b=(s.heap.push { cls:=.type "range", data:=.fields #[.int lo t,.int hi u,.int (-1) v] }).objs.size:=by simpa using hb
  subst e
  exact I1.fpOk (Nat.le_refl _) (I1.hok.fresh (Nat.le_refl _))
def iRng3 (ta:TA):TI:=fun σ H R=>ta σ H fun vs H1=>∃ i j:Int,vs=[.int i,.int j,.int (-1)]/\(-(2 ^ 62)<=i/\i<2 ^ 62/\-(2 ^ 62)<=j/\j<2 ^ 62)/\R (Itd i (i - j).toNat) H1
theorem pi_range3 {a b c:Expr} {ta:TA} {p pos:Pos} (hg:Gl X "range") (hm:X.mg "range" = none) (ha:PA X [a,b,c] ta) (hs:starEach [a,b,c] X.env=[(false,eval a X.env),(false,eval b X.env),(false,eval c X.env)]:=by rfl) (hs2:starEach [b,c] X.env=[(false,eval b X.env),(false,eval c X.env)]:=by rfl) :
 PI X tg (.Call (.Name "range" p) [a,b,c] [] pos) (iRng3 ta):=by
 intro pins s σ H R I h
 refine Call_ (ld_blt I hg hm boot_range (PyProof.Rows.callWith_type1 (thn (ha pos pins s σ H _ I h) fun us s1 ⟨vs,H1,I1,r1,q1⟩=>?_) (by rw [hs,hs2]) (by rw [hs2]; rfl)))
 obtain⟨i,j,e,⟨q1,q2,q3,q4⟩,q⟩:=q1
 subst e
 cases r1 with
 | cons r rr =>
   cases rr with
   | cons r' rr =>
     cases rr with
     | cons r'' rr =>
       cases rr
       obtain⟨t,rfl⟩:=r
       obtain⟨t',rfl⟩:=r'
       obtain⟨t'',rfl⟩:=r''
       exact call_range_3 (by decide) (range_itd I1 q1 q2 q3 q4 q) (.inl (PyProof.noPylong_small (by lia)))
end
section
variable {K:PySem.W.Frag} {g:TG} {tb:TS} {D:Ends} {σ:St} {H:Hp}
theorem lp_down {lo:Int} {n:Nat} (Pv:Nat->St->Hp->Prop) (h0:Pv 0 σ H)
 (hs:∀ i σ H,i<n->Pv i σ H->g (.int (lo - i)) σ H fun σ2 H2=>tb { D with nx:=Pv (i+1),ct:=Pv (i+1),bk:=D.nx } σ2 H2) (hd:∀ σ H,Pv n σ H->D.nx σ H):LoopI (Itd lo n) g tb D σ H:=by
 refine⟨fun i m σ H=>m=n - i/\i<=n/\Pv i σ H,⟨n,by simp,Nat.zero_le _,h0⟩,?_⟩
 rintro i m σ H ⟨rfl,hi,p⟩
 by_cases hlt:i<n
 ·refine .inr ⟨hlt,Pv (i+1),fun σ' H' p'=>⟨n - (i+1),by lia,rfl,hlt,p'⟩,fun x H' y=>?_⟩
  obtain⟨e,y⟩:=y
  subst e y
  exact hs i σ _ hlt p
 ·have e:i=n:=by lia
  subst e
  exact .inl ⟨Nat.le_refl _,hd σ H p⟩
end
section
variable {X:Cx} (K:PySem.W.Frag)
def rAll (K:PySem.W.Frag):List V->Hp->VK->Prop:=fun xs H Q=>∃ (p:Addr) (bs:List Bool),xs=[.ref p]/\SqL K H p (bs.map V.bl)/\Q (.bl (bs.all id)) H
theorem vals_bl:∀ {bs:List Bool} {us:List Value},Vals (bs.map V.bl) us->us=bs.map Value.bool
 | [],_,h=>by cases h; rfl
 | b :: bs,_,h=>by
   cases h with
   | cons r t =>
     cases r
     rw [vals_bl t]; rfl
theorem bt_all:bootBuiltins "all" = some (.builtin "all"):=by first | exact PySem.boot_all | exact PyProof.Rows.boot_all
theorem range_allB (bs:List Bool):((List.range bs.length).all fun i=>(bs[i]?).getD true)=bs.all id:=by
 rw [Bool.eq_iff_iff,List.all_eq_true,List.all_eq_true]
 constructor
 ·intro h b hb
  obtain⟨i,hi,rfl⟩:=List.getElem_of_mem hb
  have:=h i (List.mem_range.mpr hi)
  simpa [List.getElem?_eq_getElem hi] using this
 ·intro h i hi
  have hi':=List.mem_range.mp hi
  simpa [List.getElem?_eq_getElem hi'] using h _ (List.getElem_mem hi')
theorem call_allK (hc:X.calm=true:=by rfl) (hK:X.K=K:=by rfl):CallR X (.builtin "all") (rAll K):=by
 subst hK
 walk_at"z12"
 obtain⟨p,bs,rfl,hq,q⟩:=h
 obtain⟨u,rfl,ru⟩:=vals1 r
 cases ru
 obtain⟨its,rv,pl,hz⟩:=I.list hq
 have hl:=pl.isList
 have hlt:p<s.heap.objs.size:=by obtain⟨_,e,_⟩:=hl; exact Heap.lt_size e
 have hv:=vals_bl rv
 refine call_all_walk (wpAny_pyIter_list hl ?_)
 refine⟨s.heap.objs.size,[s.heap.objs.size,p],[s.heap.objs.size],its.toArray.size,_,_,fun i=>(bs[i]?).getD true,rfl,Walks.list (A:=X.A.in1) (I.ok.hd hc) _ p (Nat.ne_of_lt hlt) its.toArray,
  ⟨⟨_,Heap.get?_push_size _ rfl,rfl,rfl⟩,hl.push _⟩,fun i v s' Q' E' hP hQ=>?_,fun h' tk hk=>?_⟩
 ·have hP':its[i]? = some v:=by simpa using hP
  rw [hv,List.getElem?_map] at hP'
  obtain⟨b,e,rfl⟩:=Option.map_eq_some_iff.mp hP'
  simp only [e,Option.getD_some] at hQ
  exact wpAny_truthy_bool hQ
 ·have e:((List.range its.toArray.size).all fun i=>(bs[i]?).getD true)=bs.all id:=by
   rw [List.size_toArray,hv,List.length_map]; exact range_allB bs
  rw [e]
  exact fin_bl (I.kept (t':=tk) fun b x e=>hk b x (fun hm=>by rw [List.mem_singleton.mp hm] at e; exact Nat.lt_irrefl _ (Heap.lt_size e)) (Heap.get?_push_of_some _ e)) q rfl
theorem i_all {p:Addr} {bs:List Bool} {H:Hp} {Q:VK} (h:SqL K H p (bs.map V.bl)) (q:Q (.bl (bs.all id)) H):rAll K [.ref p] H Q:=⟨p,bs,rfl,h,q⟩
def rIsB (neg:Bool):R2:=fun x y H Q=>∃ a b:Bool,x=.bl a/\y=.bl b/\Q (.bl (if neg then !decide (a=b) else decide (a=b))) H
theorem i_isB {a b:Bool} {H:Hp} {Q:VK} (q:Q (.bl (decide (a=b))) H):rIsB false (.bl a) (.bl b) H Q:=⟨a,b,rfl,rfl,q⟩
theorem i_isNotB {a b:Bool} {H:Hp} {Q:VK} (q:Q (.bl (!decide (a=b))) H):rIsB true (.bl a) (.bl b) H Q:=⟨a,b,rfl,rfl,q⟩
end
end L2
namespace L2
open PySem PySem.Spec PyProof.Rows
theorem dict_mapFields (o:Obj) (g:Array Value->Array Value):(o.mapFields g).dict=o.dict:=by
 rcases o with ⟨c,d,dt,sl⟩
 cases dt <;> rfl
def TrD (h B:Heap) (e:Addr) (cls fl:Value):Prop :=
 ∃ oe vs T oT ts,h.get? e=some oe/\(oe.cls=cls/\oe.dict=none)/\oe.data=.fields vs/\vs[1]? = some (.ref T)/\B.get? T=none/\T≠e/\h.get? T=some oT/\oT.data=.fields ts/\ts[3]? = some fl
structure FlyAt (B:Heap) (l:List Env) (e:Addr) (cls fl:Value) (h:Heap):Prop where
 st:B.StaysIn h
 ne:B.get? e=none
 fr:h.FunFrames B l
 tr:TrD h B e cls fl
abbrev Fly (B:Heap) (l:List Env) (e:Addr) (cls:Value) (h:Heap):Prop:=FlyAt B l e cls .none h
theorem FlyAt.there {B:Heap} {l:List Env} {e:Addr} {cls fl:Value} {h:Heap} (x:FlyAt B l e cls fl h):∃ o vs,h.get? e=some o/\o.cls=cls/\o.dict=none/\o.data=.fields vs:=by
 obtain⟨oe,vs,T,oT,ts,h1,⟨h2,h3⟩,h4,_⟩:=x.tr
 exact⟨oe,vs,h1,h2,h3,h4⟩
section
variable {M:Model} {A:Around} {E:Value->Shared->Prop} {s:Shared} {B:Heap} {env:Env} {outer:List Env} {L e:Addr}
theorem fly_entry {oe:Obj} {vs:Array Value} {head:Value} {had:Bool} {Q:Unit->Shared->Prop} (hfr:A.frames=some (env :: outer)) (hl:s.heap.FunFrames B (env :: outer)) (hf:env.frame=some L) (he:s.heap.get? e=some oe) (hB:B.StaysIn s.heap) (hn:B.get? e=none) (hd:oe.data=.fields vs) (hz:1<vs.size) (hdn:oe.dict=none)
 (k:∀ h',FlyAt B (env :: outer) e oe.cls (rawInt L) h'->s.heap.UpToSlots h'->Q () { s with heap:=h' }) :
 wpAny M A (do let fr <- frameOf env; let pl <- entryPlaceOf L had; let tb <- EntryCells.newEntry head fr .none (rawInt L) .none pl; setField (.ref e) 1 tb) Q E s:=by
 have noFr:e ∉ (env :: outer).filterMap (·.frame):=fun hm=>by
  obtain⟨_,ob,hob,hno⟩:=hl.mem hm
  rw [he] at hob
  cases hob
  exact hno vs hd
 refine wpAny_bind (wpAny_frameOf_fun hfr hl hf fun ha sa=>?_)
 refine wpAny_bind (wpAny_entryPlaceOf fun pl hpl=>?_)
 unfold EntryCells.newEntry newFields
 refine wpAny_bind (wpAny_newObj_type ?_ (hpl.sizeOk5 _ _ _ _ _))
 have ea:ha.get? e=some oe:=by rw [sa.2.1 e noFr]; exact he
 have Ba:B.StaysIn ha:=fun b o z=>by
  rw [sa.2.1 b fun hm=>by rw [(hl.mem hm).1] at z; cases z]
  exact hB b o z
 generalize hO:({ cls:=.type "traceback", dict:=none,data:=.fields ([head,.ref L,.none,rawInt L,.none]++(if pl.isEmpty then List.replicate 6 Value.none else pl)).toArray }:Obj)=oT
 have hOd:oT.data=.fields ([head,.ref L,.none,rawInt L,.none]++(if pl.isEmpty then List.replicate 6 Value.none else pl)).toArray:=by rw [<- hO]
 have hOf:oT.isFreed=false:=Obj.isFreed_of_fields hOd
 have eb:(ha.push oT).get? e=some oe:=Heap.get?_push_of_some _ ea
 have Tb:(ha.push oT).get? ha.objs.size=some oT:=Heap.get?_push_size _ hOf
 have Te:ha.objs.size≠e:=fun z=>by rw [<- z] at ea; exact absurd (Heap.lt_size ea) (Nat.lt_irrefl _)
 refine wpAny_setField eb hd hz (k _ ?_ ?_)
 ·have md:=Obj.data_mapFields hd (·.setIfInBounds 1 (Value.ref ha.objs.size))
  have ec:=Heap.get?_update_self (Obj.mapFields (·.setIfInBounds 1 (Value.ref ha.objs.size))) eb (Obj.isFreed_of_fields md)
  have Tc:((ha.push oT).update e (Obj.mapFields (·.setIfInBounds 1 (Value.ref ha.objs.size)))).get? ha.objs.size=some oT:=by rw [Heap.get?_update_other _ _ (Ne.symm Te)]; exact Tb
  have kc:∀ b o,b≠e->ha.get? b=some o->((ha.push oT).update e (Obj.mapFields (·.setIfInBounds 1 (Value.ref ha.objs.size)))).get? b=some o:=fun b o nb z=>by
   rw [Heap.get?_update_other _ _ (Ne.symm nb)]
   exact Heap.get?_push_of_some _ z
  refine⟨fun b o z=>kc b o (fun q=>by rw [q,hn] at z; cases z) (Ba b o z),hn,hl.of_keeps fun b o z hno=>?_,⟨_,_,ha.objs.size,oT,_,ec,⟨Obj.cls_mapFields _ _,(dict_mapFields _ _).trans hdn⟩,md,by simp [hz],?_,Te,Tc,hOd,?_⟩⟩
  ·obtain⟨sl,z2⟩:=sa.2.2 b o z
   exact⟨_,kc b _ (fun q=>by rw [q,he] at z; cases z; exact hno vs hd) z2,rfl⟩
  ·cases q:B.get? ha.objs.size with
   | none=>rfl
   | some o=>exact absurd (Heap.lt_size (Ba _ _ q)) (Nat.lt_irrefl _)
  ·rcases hpl with rfl | ⟨_,_,_,_,_,_,_,rfl⟩ <;> simp
 ·intro b o z hno
  obtain⟨sl,z2⟩:=sa.2.2 b o z
  refine⟨sl,?_⟩
  have nb:b≠e:=fun q=>by rw [q,he] at z; cases z; exact hno vs hd
  show ((ha.push oT).update e _).get? b=_
  rw [Heap.get?_update_other _ _ (Ne.symm nb)]
  exact Heap.get?_push_of_some _ z2
theorem fly_lands {l:List Env} {cls fl:Value} {Q:Unit->Shared->Prop} (x:FlyAt B l e cls fl s.heap) (k:∀ h',Fly B l e cls h'->s.heap.UpToSlots h'->Q () { s with heap:=h' }):wpAny M A (setFlight (.ref e) none) Q E s:=by
 obtain⟨x1,x2,x3,oe,vs,T,oT,ts,t1,t2,t3,t4,t5,t6,t7,t8,t9⟩:=x
 have sz:3<ts.size:=(Array.getElem?_eq_some_iff.mp t9).1
 unfold setFlight
 refine wpAny_bind (wpAny_field t1 t3 t4 ?_)
 rw [if_pos (by simp)]
 have oth:∀ b,b≠T->(s.heap.update T (Obj.mapFields (·.setIfInBounds 3 Value.none))).get? b=s.heap.get? b:=fun b nb=>Heap.get?_update_other _ _ (Ne.symm nb)
 have rec0:∀ b o,s.heap.get? b=some o->(∀ us,o.data≠.fields us)->b≠T:=fun b o z hno q=>by rw [q,t7] at z; cases z; exact hno ts t8
 refine wpAny_setField t7 t8 sz (k _ ⟨fun b o z=>?_,x2,x3.of_keeps fun b o z hno=>⟨o,(oth b (rec0 b o z hno)).trans z,rfl⟩,oe,vs,T,_,_,(oth e (Ne.symm t6)).trans t1,t2,t3,t4,t5,t6,Heap.get?_update_self _ t7 (Obj.isFreed_of_fields (Obj.data_mapFields t8 _)),Obj.data_mapFields t8 _,by simp [sz]⟩ fun b o z hno=>⟨o.slots,(oth b (rec0 b o z hno)).trans z⟩)
 exact (oth b fun q=>by rw [q,t5] at z; cases z).trans (x1 b o z)
theorem fly_looks {cls:Value} {Q:Unit->Shared->Prop} (hfr:A.frames=some (env :: outer)) (hf:env.frame=some L) (x:Fly B (env :: outer) e cls s.heap) (k:∀ h',FlyAt B (env :: outer) e cls (rawInt L) h'->s.heap.UpToSlots h'->Q () { s with heap:=h' }):wpAny M A (noteFrame (.ref e) env) Q E s:=by
 obtain⟨x1,x2,x3,oe,vs,T,oT,ts,t1,⟨rfl,tdn⟩,t3,t4,t5,t6,t7,t8,t9⟩:=x
 unfold noteFrame
 simp only [hf]
 refine wpAny_bind (wpAny_field t1 t3 t4 ?_)
 rw [if_pos (by simp)]
 refine wpAny_bind (wpAny_field t7 t8 t9 ?_)
 rw [if_neg (by simp [rawInt])]
 refine wpAny_bind (wpAny_setField t7 t8 (Array.getElem?_eq_some_iff.mp t9).1 ?_)
 have oth:∀ b,b≠T->(s.heap.update T (Obj.mapFields (·.setIfInBounds 3 Value.none))).get? b=s.heap.get? b:=fun b nb=>Heap.get?_update_other _ _ (Ne.symm nb)
 have rec0:∀ b o,s.heap.get? b=some o->(∀ us,o.data≠.fields us)->b≠T:=fun b o z hno q=>by rw [q,t7] at z; cases z; exact hno ts t8
 refine fly_entry (s:={ s with heap:=s.heap.update T (Obj.mapFields (·.setIfInBounds 3 Value.none)) }) hfr (x3.of_keeps fun b o z hno=>⟨o,(oth b (rec0 b o z hno)).trans z,rfl⟩) hf ((oth e (Ne.symm t6)).trans t1)
  (fun b o z=>(oth b fun q=>by rw [q,t5] at z; cases z).trans (x1 b o z)) x2 t3 (Array.getElem?_eq_some_iff.mp t4).1 tdn fun h' f u=>k h' f fun b o z hno=>u b o ((oth b (rec0 b o z hno)).trans z) hno
theorem fly_out {l:List Env} {cls fl:Value} {h:Heap} (x:FlyAt B (env :: l) e cls fl h):FlyAt B l e cls fl h:=⟨x.st,x.ne,x.fr.2.2,x.tr⟩
theorem fly_on {cls:Value} {Q:Unit->Shared->Prop} (hfr:A.frames=some (env :: outer)) (hf:env.frame=some L) (x:Fly B (env :: outer) e cls s.heap) (k:∀ h',Fly B outer e cls h'->s.heap.UpToSlots h'->Q () { s with heap:=h' }):wpAny M A (leaving env (.ref e)) Q E s:=by
 unfold leaving
 refine wpAny_bind (fly_looks hfr hf x fun h1 f1 u1=>?_)
 exact fly_lands (s:={ s with heap:=h1 }) f1 fun h2 f2 u2=>k h2 (fly_out f2) (u1.trans u2)
theorem fly_made {h:Heap} {cls:Value} {args:List Value} {Q:Unit->Shared->Prop} (hfr:A.frames=some (env :: outer)) (hf:env.frame=some L) (hB:B.StaysIn h) (hl:h.FunFrames B (env :: outer)) (hx:Heap.MadeExcOf h s.heap e cls args)
 (k:∀ h',Fly B outer e cls h'->s.heap.UpToSlots h'->Q () { s with heap:=h' }):wpAny M A (leaving env (.ref e)) Q E s:=by
 obtain⟨t,he,_,_⟩:=hx.there
 have hn:B.get? e=none:=by
  cases q:B.get? e with
  | none=>rfl
  | some o =>
    have:=hB e o q
    rw [hx.new] at this
    cases this
 unfold leaving noteFrame
 simp only [hf]
 refine wpAny_bind (wpAny_bind (wpAny_field he rfl (x:=.none) rfl ?_))
 rw [if_neg (by decide)]
 refine fly_entry hfr (hl.of_keeps fun b o z _=>⟨o,hx.keeps b o z,rfl⟩) hf he (fun b o z=>hx.keeps b o (hB b o z)) hn rfl (by simp) rfl fun h1 f1 u1=>?_
 exact fly_lands (s:={ s with heap:=h1 }) f1 fun h2 f2 u2=>k h2 (fly_out f2) (u1.trans u2)
end
end L2
namespace L2
open PySem PySem.Spec PyProof.Rows
section
variable {P:Program} {w:World} {H:Hp} {h h':Heap} {a:Addr} {o:HO}
theorem ObjOk.there (x:ObjOk P w H h a o):∃ ob,h.get? a=some ob:=by
 cases o with
 | lst xs=>obtain⟨_,_,_,_,e⟩:=x; exact⟨_,e⟩
 | tup xs=>obtain⟨_,_,_,ob,e,_⟩:=x; exact⟨_,e⟩
 | dK kvs=>obtain⟨_,_,_,_,o,_,_,e,_⟩:=x; exact⟨_,e⟩
 | dT kvs=>obtain⟨_,_,_,_,o,_,_,e,_⟩:=x; exact⟨_,e⟩
 | set S n=>obtain⟨o,_,_,_,e,_⟩:=x; exact⟨_,e⟩
 | ins C dx fs=>obtain⟨_,_,_,e,_⟩:=x; exact⟨_,e⟩
 | own y=>obtain⟨_,e⟩:=x; exact⟨_,e⟩
 | xd fs=>obtain⟨_,⟨_,_,_,e,_⟩,_⟩:=x; exact⟨_,e⟩
 | rng lo hi=>obtain⟨_,_,_,e⟩:=x; exact⟨_,e⟩
 | frz ob u=>obtain⟨e,_⟩:=x; exact⟨_,e⟩
 | tbl ps=>exact⟨_,(show h.get? a=some _ from x)⟩
 | met f y=>exact⟨_,(show h.get? a=some _ from x)⟩
 | ext φ=>obtain⟨_,e,_⟩:=x; exact e
theorem HOk.tracked (x:HOk P w H h) (k:∀ b u,H b≠none->h.get? b=some u->h'.get? b=some u):HOk P w H h':=fun b u e =>
 (x b u e).stay (fun c v hc q=>k c v (by rcases hc with z | z <;> rw [z] <;> simp_all) q) (fun _ z=>z) (fun _ _ z=>z)
end
def CXE (P:Program) (w:World):CXT:=fun outer H s E v s'=>∃ (e:Addr) (cls:Value) (B:Heap) (H':Hp),v=.ref e/\s'.os=s.os/\AllBare s'.gens/\Un (frs outer) [] H H' s.heap s'.heap/\HOk P w H' s'.heap /\
 Fly B outer e cls s'.heap/\(∀ b o,s.heap.get? b=some o->b ∉ frs outer->∃ o',B.get? b=some o')/\(∀ b,H' b≠none->∃ o,B.get? b=some o)/\E cls none H'
section
variable {P:Program} {w:World} {K:PySem.W.Frag} {mg:Str->Option Value} {base:Heap} {N:List Str} {qual:Str} {scope:Scope} {f:Addr} {cd:Value} {A:Around} {outer:List Env} {s:Shared} {H:Hp} {E:XK}
theorem xe_made {pins:List (Addr×Obj)} {σ:St} {H1:Hp} {s1:Shared} {h1:Heap} {e:Addr} {cls:Value} {vs:List Value}
 (I:Inv ((cxOf (CXE P w) P w K mg base N qual scope f cd A outer s H E)) pins σ H1 s1) (hx:Heap.MadeExcOf s1.heap h1 e cls vs) (q:E cls none H1) :
 (cxOf (CXE P w) P w K mg base N qual scope f cd A outer s H E).xe (.ref e) { s1 with heap:=h1 }:=by
 have hst:s1.heap.FunFrames base (envOfC qual scope s.heap.objs.size f cd :: outer):=I.stack
 have hfr:(A.deeper (envOfC qual scope s.heap.objs.size f cd)).frames=some (envOfC qual scope s.heap.objs.size f cd :: outer):=I.ok.frames
 have hin:∀ env∈(envOfC qual scope s.heap.objs.size f cd :: outer),∀ b,env.frame=some b->b∈frs (envOfC qual scope s.heap.objs.size f cd :: outer):=fun env he b hb=>List.mem_filterMap.mpr ⟨env,he,hb⟩
 have hB:=PySem.W.funFrames_hide hst hin
 have hloc:(envOfC qual scope s.heap.objs.size f cd).frame=some s.heap.objs.size:=rfl
 have hfree:∀ b∈frs (envOfC qual scope s.heap.objs.size f cd :: outer),H1 b=none:=I.stkFree
 have hcons:frs (envOfC qual scope s.heap.objs.size f cd :: outer)=s.heap.objs.size :: frs outer:=by unfold frs; rw [List.filterMap_cons,hloc]
 refine fly_made (B:=PySem.W.hideAll s1.heap (frs (envOfC qual scope s.heap.objs.size f cd :: outer))) hfr hloc (fun b o z=>PySem.W.of_hideAll _ z) hB hx fun h2 k1 k4=>?_
 generalize hBB:PySem.W.hideAll s1.heap (frs (envOfC qual scope s.heap.objs.size f cd :: outer))=B at *
 have toB:∀ b o,s1.heap.get? b=some o->b ∉ frs (envOfC qual scope s.heap.objs.size f cd :: outer)->B.get? b=some o:=fun b o z n=>by rw [<- hBB]; exact PySem.W.hideAll_get _ z n
 have keepAll:∀ b o,s1.heap.get? b=some o->b ∉ frs (envOfC qual scope s.heap.objs.size f cd :: outer)->h2.get? b=some o:=fun b o z n=>k1.st b o (toB b o z n)
 have base0:Un (frs outer) [] H H1 s.heap s1.heap:=I.base
 have notLoc:∀ b o,s.heap.get? b=some o->b ∉ frs outer->b ∉ frs (envOfC qual scope s.heap.objs.size f cd :: outer):=fun b o z n hm=>by
  rw [hcons] at hm
  rcases List.mem_cons.mp hm with e | e
  ·exact absurd (Heap.lt_size z) (by rw [e]; exact Nat.lt_irrefl _)
  ·exact n e
 have trackedB:∀ b u,H1 b=some u->∃ o,B.get? b=some o:=fun b u z=>by
  obtain⟨o,ho⟩:=(I.hok b u z).there
  exact⟨o,toB b o ho fun hm=>by rw [hfree b hm] at z; cases z⟩
 refine⟨e,cls,B,H1,rfl,I.os,I.bare,?_,?_,k1,?_,?_,q⟩
 ·refine⟨fun b o z n hb hx'=>keepAll b o (base0.keep b o z n hb hx') (notLoc b o z hb),fun b o z n hb hx'=>?_,base0.free,fun b o z hx'=>?_,base0.tups,base0.frzs,base0.tbls⟩
  ·obtain⟨sl,z1⟩:=base0.slot b o z n hb hx'
   have hm:b∈frs (envOfC qual scope s.heap.objs.size f cd :: outer):=by rw [hcons]; exact List.mem_cons_of_mem _ hb
   obtain⟨_,o',ho',hd⟩:=hst.mem hm
   rw [z1] at ho'
   cases ho'
   obtain⟨sl2,z2⟩:=k4 b _ (hx.keeps b _ z1) hd
   exact⟨sl2,z2⟩
  ·obtain⟨o1,z1⟩:=base0.there b o z hx'
   by_cases hm:b∈frs (envOfC qual scope s.heap.objs.size f cd :: outer)
   ·obtain⟨_,o',ho',hd⟩:=hst.mem hm
    rw [z1] at ho'
    cases ho'
    obtain⟨sl2,z2⟩:=k4 b _ (hx.keeps b _ z1) hd
    exact⟨_,z2⟩
   ·exact⟨o1,keepAll b o1 z1 hm⟩
 ·exact HOk.tracked I.hok fun b u n z=>keepAll b u z fun hm=>n (hfree b hm)
 ·intro b o z n
  obtain⟨o1,z1⟩:=base0.there b o z (by simp)
  exact⟨o1,toB b o1 z1 (notLoc b o z n)⟩
 ·intro b n
  cases z:H1 b with
  | none=>exact absurd z n
  | some u=>exact trackedB b u z
theorem pass_exc {E':XK} (hE:∀ c d H',E' c d H'->E c d H'):Passes (CXE P w) (cxOf (CXE P w) P w K mg base N qual scope f cd A outer s H E) E':=by
 rintro pins σ H1 s1 v s2 I ⟨e,cls,B,H2,rfl,os,bare,un,hok,hfl,hfresh,htr,q⟩
 have hst:s1.heap.FunFrames base (envOfC qual scope s.heap.objs.size f cd :: outer):=I.stack
 have hfr:(A.deeper (envOfC qual scope s.heap.objs.size f cd)).frames=some (envOfC qual scope s.heap.objs.size f cd :: outer):=I.ok.frames
 have hloc:(envOfC qual scope s.heap.objs.size f cd).frame=some s.heap.objs.size:=rfl
 have hcons:frs (envOfC qual scope s.heap.objs.size f cd :: outer)=s.heap.objs.size :: frs outer:=by unfold frs; rw [List.filterMap_cons,hloc]
 have base0:Un (frs outer) [] H H1 s.heap s1.heap:=I.base
 have un':Un (frs (envOfC qual scope s.heap.objs.size f cd :: outer)) [] H1 H2 s1.heap s2.heap:=un
 have hfl':Fly B (envOfC qual scope s.heap.objs.size f cd :: outer) e cls s2.heap:=hfl
 have hfresh':∀ b o,s1.heap.get? b=some o->b ∉ frs (envOfC qual scope s.heap.objs.size f cd :: outer)->∃ o',B.get? b=some o':=hfresh
 have hfree:∀ b∈frs (envOfC qual scope s.heap.objs.size f cd :: outer),H1 b=none:=I.stkFree
 refine fly_on (s:=s2) hfr hloc hfl' fun h3 k1 k2=>?_
 have notLoc:∀ b o,s.heap.get? b=some o->b ∉ frs outer->b ∉ frs (envOfC qual scope s.heap.objs.size f cd :: outer):=fun b o z n hm=>by
  rw [hcons] at hm
  rcases List.mem_cons.mp hm with e | e
  ·exact absurd (Heap.lt_size z) (by rw [e]; exact Nat.lt_irrefl _)
  ·exact n e
 have inB:∀ b o,s2.heap.get? b=some o->(∃ o',B.get? b=some o')->h3.get? b=some o:=fun b o z ⟨o',z'⟩=>by
  have:=hfl'.st b o' z'
  rw [z] at this
  cases this
  exact k1.st b o z'
 refine⟨e,cls,B,H2,rfl,os.trans I.os,bare,?_,?_,k1,?_,htr,hE _ _ _ q⟩
 ·refine⟨fun b o z n hb hx'=>?_,fun b o z n hb hx'=>?_,fun b o z n hx'=>?_,fun b o z hx'=>?_,fun b xs z=>un'.tups b xs (base0.tups b xs z),fun b o u z=>un'.frzs b o u (base0.frzs b o u z),fun b ps z=>?_⟩
  ·have z1:=base0.keep b o z n hb hx'
   have n1:=base0.free b o z n hx'
   have nb:=notLoc b o z hb
   exact inB b o (un'.keep b o z1 n1 nb hx') (hfresh' b o z1 nb)
  ·obtain⟨sl,z1⟩:=base0.slot b o z n hb hx'
   have n1:=base0.free b o z n hx'
   have hm:b∈frs (envOfC qual scope s.heap.objs.size f cd :: outer):=by rw [hcons]; exact List.mem_cons_of_mem _ hb
   obtain⟨sl2,z2⟩:=un'.slot b _ z1 n1 hm hx'
   obtain⟨_,o',ho',hd⟩:=hst.mem hm
   rw [z1] at ho'
   cases ho'
   obtain⟨sl3,z3⟩:=k2 b _ z2 hd
   exact⟨sl3,z3⟩
  ·obtain⟨sl,z1⟩:=base0.any z n hx'
   exact un'.free b _ z1 (base0.free b o z n hx') hx'
  ·obtain⟨o1,z1⟩:=base0.there b o z hx'
   obtain⟨o2,z2⟩:=un'.there b o1 z1 hx'
   by_cases hm:b∈frs (envOfC qual scope s.heap.objs.size f cd :: outer)
   ·obtain⟨_,o',ho',hd⟩:=hfl'.fr.mem hm
    rw [z2] at ho'
    cases ho'
    obtain⟨sl3,z3⟩:=k2 b _ z2 hd
    exact⟨_,z3⟩
   ·exact⟨o2,inB b o2 z2 (hfresh' b o1 z1 hm)⟩
  ·obtain⟨m1,z1⟩:=base0.tbls b ps z
   obtain⟨m2,z2⟩:=un'.tbls b _ z1
   exact⟨m1++m2,by rw [z2,Array.append_assoc]⟩
 ·exact HOk.tracked hok fun b u n z=>inB b u z (htr b n)
 ·intro b o z n
  obtain⟨o1,z1⟩:=base0.there b o z (by simp)
  exact hfresh' b o1 z1 (notLoc b o z n)
end
end L2
namespace L2
open PySem PySem.Spec PyProof.Rows
theorem exc_obj {K:PySem.W.Frag} {h:Heap} {C:Addr} {bmB:List Value} {newId:String} (kin:K.In h) (hq:PySem.W.excIn K C bmB newId=true) :
 ∃ bm nsp nm qn bs hd sn sub ab col dd k0 k1 k2 k3 k5 mN,h.get? C=some (excClassObj nm qn C nsp bs bm hd sn sub ab col dd k0 k1 k2 k3 k5 newId)/\h.Ns nsp mN/\mN "__init__" = none/\OwnTail h bmB bm:=by
 unfold PySem.W.excIn at hq
 split at hq
 case h_2=>cases hq
 case h_1 dd cd sl look =>
  split at hq
  case h_2=>cases hq
  case h_1 C' bm k0 k1 k2 k3 n k5 mroE slE =>
   simp only [Bool.and_eq_true,beq_iff_eq,Bool.not_eq_true'] at hq
   obtain⟨⟨⟨⟨⟨c1,c2⟩,c3⟩,c4⟩,c5⟩,c6⟩:=hq
   subst c1 c2
   rcases cd with ⟨nm,bs,mro,nsp,qn,hd,sn,sub,ab,col,del⟩
   dsimp only at mroE c3 c5 c6
   subst mroE c3
   have slA:sl = #[k0,k1,k2,k3,some (.builtin n),k5]:=by
    rcases sl with ⟨lst⟩
    exact congrArg Array.mk slE
   subst slA
   exact⟨bm,nsp,nm,qn,bs,hd,sn,sub,ab,col,dd,k0,k1,k2,k3,k5,_,kin _ _ look,.of_isNs (PySem.W.isNs_of_in kin c5),PySem.W.nsMap_none_of_in kin c5 c6,PySem.W.tail_of_in kin c4⟩
structure ExcCls (K:PySem.W.Frag) (mg:Str->Option Value) (x:Str) (C:Addr) (bmB:List Value) (newId:String):Prop where
 at_:mg x=some (.ref C)
 obj:PySem.W.excIn K C bmB newId=true
def tRaise (C:Addr) (E:XK) (t:TA):TS:=fun _ σ H=>t σ H fun vs H1=>vs.length<=3/\E (.ref C) none H1
section
variable {P:Program} {w:World} {K:PySem.W.Frag} {mg:Str->Option Value} {base:Heap} {N:List Str} {qual:Str} {scope:Scope} {f:Addr} {cd:Value} {A:Around} {outer:List Env} {s:Shared} {H:Hp} {E:XK}
theorem ps_raise {x:Str} {C:Addr} {bmB:List Value} {B newId initId:String} {np cpos pos:Pos} {e0:Expr} {es:List Expr} {t:TA} (hc:ExcCls K mg x C bmB newId) (F:ExcBaseFacts B newId initId bmB)
 (hg:Gl (cxOf (CXE P w) P w K mg base N qual scope f cd A outer s H E) x) (ha:PA (cxOf (CXE P w) P w K mg base N qual scope f cd A outer s H E) (e0 :: es) t)
 (he:starEach (e0 :: es) (envOfC qual scope s.heap.objs.size f cd)=(false,eval e0 (envOfC qual scope s.heap.objs.size f cd)) :: starEach es (envOfC qual scope s.heap.objs.size f cd):=by rfl)
 (hpl:(backTo cpos (starEach es (envOfC qual scope s.heap.objs.size f cd))).any (·.1)=false:=by rfl) (hdb:(x == ("__debug__" : Str))=false:=by decide) :
 PS (cxOf (CXE P w) P w K mg base N qual scope f cd A outer s H E) (.Raise (some (.Call (.Name x np) (e0 :: es) [] cpos)) none pos) (tRaise C E t):=by
 intro pins s1 σ H1 D I q
 obtain⟨bm,nsp,nm,qn,bs,hd,sn,sub,ab,col,dd,k0,k1,k2,k3,k5,mN,o1,o2,o3,o4⟩:=exc_obj I.ok.mod.kin hc.obj
 refine wpAny_Raise_call_subT F (o4.hasType F.hasBase) (I.ok.hd rfl) (by
  show (backTo cpos (starEach (e0 :: es) (envOfC qual scope s.heap.objs.size f cd))).any (·.1)=false
  rw [he]; show (false || (backTo cpos (starEach es (envOfC qual scope s.heap.objs.size f cd))).any (·.1))=false; rw [hpl]; rfl) o3 ?_ (nm:=nm) (q:=qn) (C:=C) (N:=nsp) (bs:=bs) (bm:=bm) (hdct:=hd) (sn:=sn) (sub:=sub) (ab:=ab) (col:=col) (dd:=dd) (k0:=k0) (k1:=k1) (k2:=k2) (k3:=k3) (k5:=k5)
 refine ld_glob I hg hc.at_ ⟨rfl,?_⟩ hdb
 have hs:=ha cpos pins s1 σ H1 _ I q
 show wpAny _ _ (evalArgs (.ref C) true (backTo cpos (starEach (e0 :: es) (envOfC qual scope s.heap.objs.size f cd))) []) _ _ _
 change wpAny _ _ (spliced (backTo cpos (starEach (e0 :: es) (envOfC qual scope s.heap.objs.size f cd)))) _ _ _ at hs
 rw [he] at hs ⊢
 refine Calls.evalArgs_plain (wpAny_mono hs (fun us s2 h2=>?_) fun _ _ z=>z)
 obtain⟨vs,H2,I2,r2,hl,q2⟩:=h2
 have hul:us.length<=3:=by rw [<- r2.length]; exact hl
 exact⟨rfl,Nat.le_trans hul (by rw [sizeLine_eq]; decide),I2.bk _ _ o1,o2.keeps I2.bk,o4.keeps I2.bk,fun h' e hm=>xe_made I2 hm q2⟩
def CalleeE (P:Program) (w:World) (K:PySem.W.Frag) (mg:Str->Option Value) (base:Heap) (x:Str) (k:Nat) (sp:Sp):Prop :=
 ∃ f fd ps,FnOk P w K mg base (CXE P w) k f fd ps sp/\mg x=some (.ref f)/\PySem.W.keepIn K (.ref f)=true/\Binds K fd ps []
theorem FnOk.noE {k:Nat} {f:Addr} {fd:FuncData} {ps:List Str} {sp:Sp} (F:FnOk P w K mg base CX0 k f fd ps sp):FnOk P w K mg base (CXE P w) k f fd ps sp :=
 ⟨F.len,fun A outer s H args us vs Q E hr he hb hv hs=>codeAny_mono (F.run A outer s H args us vs Q E hr he hb hv hs) fun r s' h=>by
  cases r with
  | ok x=>cases x <;> exact h
  | error e=>exact False.elim h⟩
theorem Callee.toE {x:Str} {k:Nat} {sp:Sp} (C:Callee P w K mg base x k sp):CalleeE P w K mg base x k sp:=by
 obtain⟨f,fd,ps,F,r⟩:=C
 exact⟨f,fd,ps,F.noE,r⟩
theorem Def.okE {x:Str} {st:Stmt} {N ps:List Str} {k:Nat} {sp:Sp} (D:Def K mg x st) (S:FnScope N ps (defScope st))
 (bd:∀ (kV doc pm:Value) (an:Option Addr) (cdv ct:Value) (us:List Value),us.length=ps.length->bindArgs (PySem.W.fnOf x x (defArgs st) (defBody st) (defScope st) .none kV doc pm an cdv ct) ⟨us,[]⟩=pure (ps.zip us))
 (len:∀ vs H Q E,sp vs H Q E->vs.length=ps.length)
 (hbody:∀ (f:Addr) (cdv:Value) (A:Around) (outer:List Env) (s:Shared) (H:Hp) (vs:List V) (Q:VK) (E:XK),Room k (A.deeper (envOfC x (defScope st) s.heap.objs.size f cdv))->sp vs H Q E ->
  ∃ t,PSs (cxOf (CXE P w) P w K mg base N x (defScope st) f cdv A outer s H E) (defBody st) t/\t { nx:=fun _ H'=>Q .non H',rt:=Q } (start N vs) H):CalleeE P w K mg base x (k+1) sp:=by
 obtain⟨f,fd,F,hm⟩:=D
 have Fk:=F.kp
 have Fb:=F.binds bd
 walk_at"z15"
 exact⟨f,_,ps,fn_of lk hcd S len fun A outer s H vs Q E hr hsp=>hbody f cdv A outer s H vs Q E hr hsp,hm,Fk,Fb⟩
theorem pe_callE {x:Str} {k:Nat} {sp:Sp} {e0:Expr} {es:List Expr} {t:TA} {p pos:Pos} {E':XK} (C:CalleeE P w K mg base x k sp) (hr:Room k (A.deeper (envOfC qual scope s.heap.objs.size f cd))) (hg:Gl (cxOf (CXE P w) P w K mg base N qual scope f cd A outer s H E) x)
 (ha:PA (cxOf (CXE P w) P w K mg base N qual scope f cd A outer s H E) (e0 :: es) t) (hE:∀ c d H',E' c d H'->E c d H':=by exact fun _ _ _ z=>z)
 (he:starEach (e0 :: es) (envOfC qual scope s.heap.objs.size f cd)=(false,eval e0 (envOfC qual scope s.heap.objs.size f cd)) :: starEach es (envOfC qual scope s.heap.objs.size f cd):=by rfl)
 (hpl:(backTo pos (starEach es (envOfC qual scope s.heap.objs.size f cd))).any (·.1)=false:=by rfl) (hdb:(x == ("__debug__" : Str))=false:=by decide) :
 PE (cxOf (CXE P w) P w K mg base N qual scope f cd A outer s H E) (.Call (.Name x p) (e0 :: es) [] pos) (tCall sp [] E' t):=by
 obtain⟨f',fd,ps,F,hm,hk,hb⟩:=C
 exact pe_call F hr hg hm hk hb .nil (pass_exc hE) ha (hdb:=hdb) (he:=he) (hpl:=hpl)
end
end L2
namespace L2
open PySem PySem.Spec PyProof.Rows
section
theorem un_fly {l:List Env} {H1 H2:Hp} {h1 h2 h3 B:Heap} (u:Un (frs l) [] H1 H2 h1 h2) (hs:B.StaysIn h2) (hf:h2.FunFrames B l) (hfresh:∀ b o,h1.get? b=some o->b ∉ frs l->∃ o',B.get? b=some o') (k1:B.StaysIn h3) (k2:h2.UpToSlots h3):Un (frs l) [] H1 H2 h1 h3:=by
 have inB:∀ b o,h2.get? b=some o->(∃ o',B.get? b=some o')->h3.get? b=some o:=fun b o z ⟨o',z'⟩=>by
  have:=hs b o' z'
  rw [z] at this
  cases this
  exact k1 b o z'
 refine⟨fun b o z n hb hx=>inB b o (u.keep b o z n hb hx) (hfresh b o z hb),fun b o z n hb hx=>?_,u.free,fun b o z hx=>?_,u.tups,u.frzs,u.tbls⟩
 ·obtain⟨sl,z1⟩:=u.slot b o z n hb hx
  obtain⟨_,o',ho',hd⟩:=hf.mem hb
  rw [z1] at ho'
  cases ho'
  obtain⟨sl2,z2⟩:=k2 b _ z1 hd
  exact⟨sl2,z2⟩
 ·obtain⟨o2,z2⟩:=u.there b o z hx
  by_cases hm:b∈frs l
  ·obtain⟨_,o',ho',hd⟩:=hf.mem hm
   rw [z2] at ho'
   cases ho'
   obtain⟨sl3,z3⟩:=k2 b _ z2 hd
   exact⟨_,z3⟩
  ·exact⟨o2,inB b o2 z2 (hfresh b o z hm)⟩
theorem hok_fly {P:Program} {w:World} {H2:Hp} {h2 h3 B:Heap} (x:HOk P w H2 h2) (hs:B.StaysIn h2) (htr:∀ b,H2 b≠none->∃ o,B.get? b=some o) (k1:B.StaysIn h3):HOk P w H2 h3 :=
 HOk.tracked x fun b u n z=>by
  obtain⟨o',z'⟩:=htr b n
  have:=hs b o' z'
  rw [z] at this
  cases this
  exact k1 b _ z'
variable {X:Cx}
abbrev Cx.inTry (X:Cx) (pins:List (Addr×Obj)) (ξ:Value->Shared->Prop):Cx:={ X with pn:=X.pn++pins,xe:=ξ }
theorem Cx.Ok.inTry (ok:X.Ok) (pins:List (Addr×Obj)) (ξ:Value->Shared->Prop):(X.inTry pins ξ).Ok :=
 ⟨ok.mod,ok.kind,ok.glob,ok.blt,ok.above,ok.inj,ok.has,ok.cab,ok.hd,ok.frames,ok.stk,ok.exf,ok.bs,ok.bsz,ok.noex,ok.exfs,ok.funs,ok.frf⟩
theorem Cx.Ok.outTry {pins:List (Addr×Obj)} {ξ:Value->Shared->Prop} (ok:(X.inTry pins ξ).Ok):X.Ok :=
 ⟨ok.mod,ok.kind,ok.glob,ok.blt,ok.above,ok.inj,ok.has,ok.cab,ok.hd,ok.frames,ok.stk,ok.exf,ok.bs,ok.bsz,ok.noex,ok.exfs,ok.funs,ok.frf⟩
theorem Inv.inTry {pins:List (Addr×Obj)} {σ:St} {H:Hp} {s:Shared} (I:Inv X pins σ H s) (ξ:Value->Shared->Prop):Inv (X.inTry pins ξ) [] σ H s :=
 ⟨I.ok.inTry pins ξ,I.os,I.bare,I.base,I.loc,I.cell,I.free,I.freeC,fun p hp=>I.pin p (by simpa using hp),I.hok,I.len⟩
theorem Inv.outTry {pins pins':List (Addr×Obj)} {σ:St} {H:Hp} {s:Shared} {ξ:Value->Shared->Prop} (I:Inv (X.inTry pins ξ) pins' σ H s):Inv X pins σ H s :=
 ⟨I.ok.outTry,I.os,I.bare,I.base,I.loc,I.cell,I.free,I.freeC,fun p hp=>I.pin p (List.mem_append_left _ hp),I.hok,I.len⟩
def tCallS (sp:Sp) (Ex:St->XK) (t:TA):TE:=fun σ H Q=>t σ H fun vs H1=>sp (vs++[]) H1 Q (Ex σ)
def PassS (X:Cx) (Ex:St->XK):Prop:=∀ (pins:List (Addr×Obj)) (σ:St) (H:Hp) (s:Shared) (e:Value) (s':Shared),Inv X pins σ H s->CXE X.prog X.w X.stack H s (Ex σ) e s'->X.xe e s'
theorem Inv.trackN {pins:List (Addr×Obj)} {σ:St} {H:Hp} {s:Shared} {D:Addr} {o:HO} (I:Inv X pins σ H s) (hn:H D=none) (hL:D≠X.env.locals) (h1:X.s₀.heap.get? D=none)
 (h2:∀ x c,X.env.cells.lookup x=some c->c≠D) (h3:∀ p∈X.pn++pins,p.1≠D) (new:ObjOk X.prog X.w (upd H D o) s.heap D o):Inv X pins σ (upd H D o) s:=by
 have up:∀ b u,H b=some u->upd H D o b=some u:=fun b u e=>by rw [upd_ne (ne_of_none e hn)]; exact e
 have un:∀ b,b≠D->H b=none->upd H D o b=none:=fun b hb e=>by rw [upd_ne hb]; exact e
 refine⟨I.ok,I.os,I.bare,⟨I.base.keep,I.base.slot,fun b ob e n hx=>un b (fun z=>by rw [z,h1] at e; cases e) (I.base.free b ob e n hx),I.base.there,fun b xs e=>up _ _ (I.base.tups b xs e),fun b ob u e=>up _ _ (I.base.frzs b ob u e),fun b ps e=>?_⟩,
  I.loc,I.cell,un _ (Ne.symm hL) I.free,fun x c e=>un _ (h2 x c e) (I.freeC x c e),fun p hp=>?_,fun b u e=>?_,I.len⟩
 ·obtain⟨m,e'⟩:=I.base.tbls b ps e
  exact⟨m,up _ _ e'⟩
 ·obtain⟨e,n,r⟩:=I.pin p hp
  exact⟨e,un _ (h3 p hp) n,r⟩
 ·by_cases hb:b=D
  ·subst hb
   rw [upd_same] at e
   cases e
   exact new
  ·rw [upd_ne hb] at e
   exact (I.hok b u e).stay (fun _ _ _ z=>z) (fun c z=>up _ _ z) fun c xs z=>up _ _ z
def ExcAt (e:Addr) (cls:Value):Heap->Prop:=fun h=>∃ o vs,h.get? e=some o/\o.cls=cls/\o.dict=none/\o.data=.fields vs
theorem excAt_ok {P:Program} {w:World} {H:Hp} {h:Heap} {e:Addr} {cls:Value} (x:ExcAt e cls h):ObjOk P w H h e (.ext (ExcAt e cls)):=by
 obtain⟨o,vs,z,c⟩:=x
 exact⟨⟨o,vs,z,c⟩,⟨o,z⟩,fun h1 h2 ⟨o1,vs1,z1,c1⟩ k=>⟨o1,vs1,k o1 z1,c1⟩⟩
theorem comes {pins:List (Addr×Obj)} {σ:St} {H1:Hp} {s1 s2:Shared} {Ex:XK} {v:Value} {Q:Flow->Shared->Prop} {E:Value->Shared->Prop} {hs:List ExceptHandler} (hstk:X.stack=X.env :: X.outer) (hf:X.env.frame=some X.env.locals) (hex:X.ex=[]) (I:Inv X pins σ H1 s1)
 (hq:CXE X.prog X.w X.stack H1 s1 Ex v s2)
 (k:∀ (e:Addr) (cls:Value) (B:Heap) (H2:Hp),v=.ref e->Ex cls none H2->H2 e=none ->
  (∀ h6,Fly B X.stack e cls h6->s2.heap.UpToSlots h6->Inv X pins σ (upd H2 e (.ext (ExcAt e cls))) { s2 with heap:=h6 }) ->
  ∀ h3,Fly B X.stack e cls h3->s2.heap.UpToSlots h3->wpAny (model X.prog X.w) X.A (handleBy (.ref e) X.env hs) Q E { s2 with heap:=h3 }) :
 wpAny (model X.prog X.w) X.A (noteFrame v X.env) (fun _ s3=>wpAny (model X.prog X.w) X.A (setFlight v none) (fun _ s4=>wpAny (model X.prog X.w) X.A (handleBy v X.env hs) Q E s4) E s3) E s2:=by
 obtain⟨e,cls,B,H2,rfl,os,bare,un,hok,hfl,hfresh,htr,q⟩:=hq
 have hfr:X.A.frames=some (X.env :: X.outer):=by rw [<- hstk]; exact I.ok.frames
 have hfl':=hfl
 rw [hstk] at hfl'
 have hnew:s1.heap.get? e=none:=by
  cases z:s1.heap.get? e with
  | none=>rfl
  | some o =>
    exfalso
    by_cases hm:e∈frs X.stack
    ·obtain⟨oe,vs,T,oT,ts,he,_,hd,_⟩:=hfl.tr
     obtain⟨_,o',ho',hd'⟩:=hfl.fr.mem hm
     rw [he] at ho'
     cases ho'
     exact hd' vs hd
    ·obtain⟨o',z'⟩:=hfresh e o z hm
     rw [hfl.ne] at z'
     cases z'
 have hHe:H2 e=none:=by
  cases z:H2 e with
  | none=>rfl
  | some u =>
    obtain⟨o,z'⟩:=htr e (by rw [z]; exact fun y=>by cases y)
    rw [hfl.ne] at z'
    cases z'
 have inv6:∀ h6,Fly B X.stack e cls h6->s2.heap.UpToSlots h6->Inv X pins σ (upd H2 e (.ext (ExcAt e cls))) { s2 with heap:=h6 }:=fun h6 fl up=>by
  have u6:Un (frs X.stack) [] H1 H2 s1.heap h6:=un_fly un hfl.st hfl.fr hfresh fl.st up
  have I6:Inv X pins σ H2 { s2 with heap:=h6 }:=I.call' (s':={ s2 with heap:=h6 }) os u6 (hok_fly hok hfl.st htr fl.st) bare (fun b z=>absurd z (by simp))
  have hs0:X.s₀.heap.get? e=none:=by
   cases z:X.s₀.heap.get? e with
   | none=>rfl
   | some o =>
     obtain⟨o',z'⟩:=I.base.there e o z (by rw [hex]; simp)
     rw [hnew] at z'
     cases z'
  refine I6.trackN hHe (fun z=>?_) hs0 (fun x c hc z=>?_) (fun p hp z=>?_) (excAt_ok fl.there)
  ·obtain⟨m,hn,_⟩:=I.loc
   obtain⟨o,_,_,ho,_⟩:=hn
   rw [<- z,hnew] at ho
   cases ho
  ·obtain⟨v',o,ho,_⟩:=I.cell x c hc
   rw [z,hnew] at ho
   cases ho
  ·have:=(I.pin p hp).1
   rw [z,hnew] at this
   cases this
 refine fly_looks (s:=s2) hfr hf hfl' fun h4 held4 up4=>?_
 refine fly_lands held4 fun h5 fl5 up5=>?_
 exact k e cls B H2 rfl q hHe inv6 h5 (by rw [hstk]; exact fl5) (up4.trans up5)
abbrev Cx.inClause (X:Cx) (pins:List (Addr×Obj)) (e:Addr):Cx:={ X with A:=X.A.mark (some (.ref e)),calm:=false,pn:=X.pn++pins,xe:=fun _ _=>False }
theorem Inv.inClause {pins:List (Addr×Obj)} {σ:St} {H:Hp} {s:Shared} (I:Inv X pins σ H s) (e:Addr):Inv (X.inClause pins e) [] σ H s :=
 ⟨⟨I.ok.mod,I.ok.kind,I.ok.glob,I.ok.blt,I.ok.above,I.ok.inj,I.ok.has,I.ok.cab,fun h=>(by cases h),I.ok.frames,I.ok.stk,I.ok.exf,I.ok.bs,I.ok.bsz,I.ok.noex,I.ok.exfs,I.ok.funs,I.ok.frf⟩,I.os,I.bare,I.base,I.loc,I.cell,I.free,I.freeC,fun p hp=>I.pin p (by simpa using hp),I.hok,I.len⟩
theorem Inv.outClause {pins pins':List (Addr×Obj)} {σ:St} {H:Hp} {s:Shared} {e:Addr} (ok:X.Ok) (I:Inv (X.inClause pins e) pins' σ H s):Inv X pins σ H s :=
 ⟨ok,I.os,I.bare,I.base,I.loc,I.cell,I.free,I.freeC,fun p hp=>I.pin p (List.mem_append_left _ hp),I.hok,I.len⟩
theorem Inv.unset {pins:List (Addr×Obj)} {σ:St} {H:Hp} {s:Shared} {M:Model} {A:Around} {E:Value->Shared->Prop} {n:Str} {j:Nat} {pos:Pos} {Q:Unit->Shared->Prop} (I:Inv X pins σ H s) (hN:X.N.Nodup) (hj:X.N[j]? = some n) (hl:X.env.kindOf n=some .local)
 (h:∀ s',Inv X pins (σ.set j none) H s'->Q () s'):wpAny M A (do bindName X.env n .none; unbindBehindTheSuite X.env n pos) Q E s:=by
 obtain⟨m,hn,hm⟩:=id I.loc
 have hcls:(X.env.scope.kind == .class || (X.env.scope.kind == .module && X.env.locals != X.env.globals))=false:=by rw [I.ok.kind]; rfl
 refine wpAny_nameGoes_keeps hl hn hcls fun h' v hn' hs=>h _ ?_
 have far:∀ b o,X.s₀.heap.get? b=some o->b≠X.env.locals:=fun b o e=>Nat.ne_of_lt (Nat.lt_of_lt_of_le (Heap.lt_size e) I.ok.above)
 refine⟨I.ok,I.os,I.bare,⟨fun b o e nn hb hx=>(hs.2 b (far b o e)).trans (I.base.keep b o e nn hb hx),fun b o e nn hb hx=>?_,I.base.free,fun b o e hx=>?_,I.base.tups,I.base.frzs,I.base.tbls⟩,⟨_,hn',fun i y v' e1 e2 e3=>?_⟩,fun y c e=>?_,I.free,I.freeC,fun p hp=>?_,?_,by simpa using I.len⟩
 ·obtain⟨sl,e1⟩:=I.base.slot b o e nn hb hx
  exact⟨sl,(hs.2 b (far b o e)).trans e1⟩
 ·obtain⟨o',e1⟩:=I.base.there b o e hx
  exact⟨o',(hs.2 b (far b o e)).trans e1⟩
 ·by_cases hij:i=j
  ·subst hij
   rw [List.getElem?_set] at e2
   split at e2
   ·split at e2 <;> cases e2
   ·exact absurd rfl (by assumption)
  ·rw [List.getElem?_set_ne (Ne.symm hij)] at e2
   obtain⟨u',r',q⟩:=hm i y v' e1 e2 e3
   refine⟨u',r',?_⟩
   have hyn:y≠n:=fun e=>hij (nodup_ix hN e1 (e ▸ hj))
   rcases q with ⟨k,e⟩ | ⟨k,c,e,z⟩
   ·exact .inl ⟨k,by simp [hyn,e]⟩
   ·exact .inr ⟨k,c,e,z.sameBut hs (I.cne y c e)⟩
 ·obtain⟨w',z⟩:=I.cell y c e
  exact⟨w',z.sameBut hs (I.cne y c e)⟩
 ·obtain⟨e,nn,ne,nf,d⟩:=I.pin p hp
  exact⟨(hs.2 p.1 ne).trans e,nn,ne,nf,d⟩
 ·exact HOk.tracked I.hok fun b u nn z=>(hs.2 b fun e=>nn (by rw [e]; exact I.free)).trans z
def tTry (K:PySem.W.Frag) (TC:Addr) (j:Nat) (tb:(St->XK)->TS) (ts:TS):TS:=fun D σ H =>
 tb (fun σ' cls _ H'=>PySem.W.exmOne K cls (.ref TC)=some true/\∀ e,H' e=none->ts { nx:=fun σ2 H2=>D.nx (σ2.set j none) H2,rt:=fun _ _=>False } (σ'.set j (some (.ref e))) (upd H' e (.ext (ExcAt e cls)))) D σ H
theorem ps_try {T n:Str} {TC:Addr} {j:Nat} {body:List Stmt} {b0:Stmt} {suite:List Stmt} {tb:(St->XK)->TS} {ts:TS} {np hpos pos:Pos} (hstk:X.stack=X.env :: X.outer) (hf:X.env.frame=some X.env.locals) (hex:X.ex=[])
 (hT:X.mg T=some (.ref TC)) (hgT:Gl X T) (hN:X.N.Nodup) (hj:X.N[j]? = some n) (hl:X.env.kindOf n=some .local) (hl2:X.env.scope.names.lookup n=some .local)
 (hb:∀ (pins:List (Addr×Obj)) (ξ:Value->Shared->Prop) (Ex:St->XK),PassS (X.inTry pins ξ) Ex->PSs (X.inTry pins ξ) body (tb Ex))
 (hs:∀ (pins:List (Addr×Obj)) (e:Addr),PSs (X.inClause pins e) (b0 :: suite) ts) (hdb:(T == ("__debug__" : Str))=false:=by decide) :
 PS X (.Try body [.ExceptHandler (some (.Name T np)) (some n) (b0 :: suite) hpos] [] [] pos) (tTry X.K TC j tb ts):=by
 intro pins s σ H D I q
 refine wpAny_Try_except ?_
 have hp:PassS (X.inTry pins (fun v s1=>wpAny (model X.prog X.w) X.A (noteFrame v X.env) (fun _ s2=>wpAny (model X.prog X.w) X.A (setFlight v none) (fun _ s3=>wpAny (model X.prog X.w) X.A (handleBy v X.env [.ExceptHandler (some (.Name T np)) (some n) (b0 :: suite) hpos]) (SP X pins D) X.xe s3) X.xe s2) X.xe s1))
  (fun σ' cls _ H'=>PySem.W.exmOne X.K cls (.ref TC)=some true/\∀ e,H' e=none->ts { nx:=fun σ2 H2=>D.nx (σ2.set j none) H2,rt:=fun _ _=>False } (σ'.set j (some (.ref e))) (upd H' e (.ext (ExcAt e cls)))):=by
  intro pins' σ' H' s' v s2 I' hq
  refine comes hstk hf hex I'.outTry hq fun e cls B H2 hv hE hHe inv6 h3 fl3 up3=>?_
  obtain⟨hx,hk⟩:=hE
  have I3:=inv6 h3 fl3 up3
  have I3c:=I3.inClause e
  refine wpAny_handleBy_cons (codeAny_handlers_test ?_) (by intro z; cases z)
  refine ld_glob (X:=X.inClause pins e) I3c hgT hT ?_ hdb
  obtain⟨oe,_,hoe,hoc,_⟩:=fl3.there
  have LT:PySem.W.Looks (model X.prog X.w) h3 (typeOf (.ref e)) cls:=by
   rw [<- hoc]
   exact (PySem.W.Looks.ld hoe).andThen .now
  refine PySem.W.exm_one I3.kIn LT hx _ _ _ _ (fun _ _ z=>z) ?_
  refine codeAny_handlers_suite_as ?_
  refine fly_lands (s:={ s2 with heap:=h3 }) fl3 fun h6 fl6 up6=>?_
  have I6:=inv6 h6 fl6 (up3.trans up6)
  have I6c:=I6.inClause e
  refine store_ok (X:=X.inClause pins e) (v:=.ref e) I6c hN hj (.inl hl2) rfl (fun s7 I7=>?_) (.inr hl2)
  refine wpAny_mono (hs pins e [] s7 _ _ _ I7 (hk e hHe)) (fun f s8 h8=>?_) (fun _ _ z=>False.elim z)
  cases f with
  | next =>
    obtain⟨σ8,H8,I8,q8⟩:=h8
    exact Inv.unset (I8.outClause I6.ok) hN hj hl fun s9 I9=>⟨_,_,I9,q8⟩
  | ret u=>obtain⟨_,_,_,_,_,z⟩:=h8; exact False.elim z
  | brk=>obtain⟨_,_,_,z⟩:=h8; exact False.elim z
  | cont=>obtain⟨_,_,_,z⟩:=h8; exact False.elim z
 have hbody:=hb pins _ _ hp [] s σ H D (I.inTry _) q
 refine wpAny_mono hbody (fun f s1 h1=>?_) (fun _ _ z=>z)
 cases f with
 | next =>
   obtain⟨σ1,H1,I1,q1⟩:=h1
   exact wpAny_execs_nil ⟨σ1,H1,I1.outTry,q1⟩
 | ret u=>obtain⟨v,σ1,H1,I1,r1,q1⟩:=h1; exact⟨v,σ1,H1,I1.outTry,r1,q1⟩
 | brk=>obtain⟨σ1,H1,I1,q1⟩:=h1; exact⟨σ1,H1,I1.outTry,q1⟩
 | cont=>obtain⟨σ1,H1,I1,q1⟩:=h1; exact⟨σ1,H1,I1.outTry,q1⟩
end
end L2
namespace L2
open PySem PySem.Spec PyProof.Rows
structure RoomN (k:Nat) (A:Around):Prop where
 dp:A.depth+3*k+5<recursionLimit
 un:A.units+16*k+200<cLine
theorem RoomN.deeper {k:Nat} {A:Around} (r:RoomN (k+1) A) (env:Env):RoomN k (A.deeper env) :=
 ⟨by have:=r.dp; show A.depth+1+3*k+5<_; lia,by have:=r.un; show A.units+3+16*k+200<_; lia⟩
theorem Room.noted {k:Nat} {A:Around} (r:Room k A) (v:Option Value):RoomN k (A.mark v):=⟨r.dp,r.un⟩
structure FnOkN (P:Program) (w:World) (K:PySem.W.Frag) (mg:Str->Option Value) (base:Heap) (k:Nat) (f:Addr) (fd:FuncData) (ps:List Str) (sp:Sp):Prop where
 len:∀ vs H Q E,sp vs H Q E->vs.length=ps.length
 run:∀ (A:Around) (outer:List Env) (s:Shared) (H:Hp) (args:Args) (us:List Value) (vs:List V) (Q:VK) (E:XK),RoomN k A->Env0 P w K mg base A outer s H->BindsTo s fd args (ps.zip us)->Vals vs us->sp vs H Q E ->
  codeAny (model P w) A (.call (.ref f) args) (CR CX0 outer P w H s Q E) s
def CalleeN (P:Program) (w:World) (K:PySem.W.Frag) (mg:Str->Option Value) (base:Heap) (x:Str) (k:Nat) (sp:Sp):Prop :=
 ∃ f fd ps,FnOkN P w K mg base k f fd ps sp/\mg x=some (.ref f)/\PySem.W.keepIn K (.ref f)=true/\Binds K fd ps []
abbrev cxN (P:Program) (w:World) (K:PySem.W.Frag) (mg:Str->Option Value) (base:Heap) (N:List Str) (qual:Str) (scope:Scope) (f:Addr) (cd:Value) (A:Around) (outer:List Env) (s:Shared) (H:Hp) (E:XK):Cx :=
 { cxOf CX0 P w K mg base N qual scope f cd A outer s H E with calm:=false,xe:=fun _ _=>False }
section
variable {P:Program} {w:World} {K:PySem.W.Frag} {mg:Str->Option Value} {base:Heap}
theorem inv_startN {N ps:List Str} {qual:Str} {scope:Scope} {f:Addr} {cd:Value} {A:Around} {outer:List Env} {s s1:Shared} {H:Hp} {E:XK} {us:List Value} {vs:List V} (S:FnScope N ps scope) (e0:Env0 P w K mg base A outer s H) (hl:vs.length=ps.length) (r:Vals vs us)
 (x:InCallC s s.heap.objs.size (bindL (envOfC qual scope s.heap.objs.size f cd).kindOf (ps.zip us) fun _=>none) (cellsFrom (s.heap.objs.size+1) scope.names []) (bindC (envOfC qual scope s.heap.objs.size f cd).kindOf (ps.zip us) fun _=>none) s1) :
 Inv (cxN P w K mg base N qual scope f cd A outer s H E) [] (start N vs) H s1:=by
 have I:=inv_start (CX:=CX0) (E:=E) (A:={ A with handled:=none }) (qual:=qual) (f:=f) (cd:=cd) S rfl ⟨e0.frames,e0.mod,e0.bs,e0.bsz,e0.funs,e0.frf,e0.hok,e0.bare⟩ hl r x
 exact⟨⟨I.ok.mod,I.ok.kind,I.ok.glob,I.ok.blt,I.ok.above,I.ok.inj,I.ok.has,I.ok.cab,fun h=>(by cases h),Around.frames_deeper e0.frames,I.ok.stk,I.ok.exf,I.ok.bs,I.ok.bsz,I.ok.noex,I.ok.exfs,I.ok.funs,I.ok.frf⟩,
  I.os,I.bare,I.base,I.loc,I.cell,I.free,I.freeC,I.pin,I.hok,I.len⟩
theorem Def.okN {x:Str} {st:Stmt} {N ps:List Str} {k:Nat} {sp:Sp} (D:Def K mg x st) (S:FnScope N ps (defScope st))
 (bd:∀ (kV doc pm:Value) (an:Option Addr) (cdv ct:Value) (us:List Value),us.length=ps.length->bindArgs (PySem.W.fnOf x x (defArgs st) (defBody st) (defScope st) .none kV doc pm an cdv ct) ⟨us,[]⟩=pure (ps.zip us))
 (len:∀ vs H Q E,sp vs H Q E->vs.length=ps.length)
 (hbody:∀ (f:Addr) (cdv:Value) (A:Around) (outer:List Env) (s:Shared) (H:Hp) (vs:List V) (Q:VK) (E:XK),RoomN k (A.deeper (envOfC x (defScope st) s.heap.objs.size f cdv))->sp vs H Q E ->
  ∃ t,PSs (cxN P w K mg base N x (defScope st) f cdv A outer s H E) (defBody st) t/\t { nx:=fun _ H'=>Q .non H',rt:=Q } (start N vs) H):CalleeN P w K mg base x (k+1) sp:=by
 obtain⟨f,fd,F,hm⟩:=D
 have Fk:=F.kp
 have Fb:=F.binds bd
 walk_at"z15"
 refine⟨f,_,ps,⟨len,fun A outer s H args us vs Q E hr e0 hb r hsp=>?_⟩,hm,Fk,Fb⟩
 have KX:K.In s.heap:=e0.mod.kin.keeps fun b o e=>(e0.bs b o e).1
 have lim:s.heap.NoLimit:=e0.mod.nolimit.keeps fun b o e=>(e0.bs b o e).1
 have hkind:∀ y∈ps.zip us,(defScope st).names.lookup y.1=some .local\/((defScope st).names.lookup y.1=some .cell/\((cellsFrom (s.heap.objs.size+1) (defScope st).names []).lookup y.1).isSome=true):=fun ⟨n,v⟩ hy=>by
  rcases S.par n (List.of_mem_zip hy).1 with q | q
  ·exact .inl q
  ·exact .inr ⟨q,PySem.W.cellsFrom_some _ _ _ (.inl q)⟩
 refine codeAny_call_function (by have:=hr.dp; lia) (KX _ _ lk) rfl S.co S.gen rfl (PySem.W.codeRec_of KX hcd) (hb _ _ _ _ ?_)
 refine wpAny_newFunctionEnv_cells S.kind hkind fun env he s1 x1=>?_
 subst he
 refine⟨lim.keeps x1.toInCall.keep,codeAny_func ?_⟩
 obtain⟨t,ht,hq⟩:=hbody f cdv A outer s H vs Q E (hr.deeper _) hsp
 have I:=inv_startN (E:=E) S e0 (len _ _ _ _ hsp) r x1
 refine wpAny_mono (ht [] s1 (start N vs) H _ I hq) (fun fl s' hs=>?_) fun e s' hs=>False.elim hs
 have fin:∀ {σ':St} {H':Hp} {v:V} {u:Value},Inv (cxN P w K mg base N x (defScope st) f cdv A outer s H E) [] σ' H' s'->RelV v u->Q v H'->CE outer P w H s Q u s' :=
  fun {σ' H' v u} J rv q=>⟨v,H',J.os,J.bare,J.base,J.hok,rv,q⟩
 cases fl with
 | ret u =>
   obtain⟨v,σ',H',J,rv,q⟩:=hs
   exact fin J rv q
 | next =>
   obtain⟨σ',H',J,q⟩:=hs
   exact fin (v:=V.non) (u:=Value.none) J rfl q
 | brk =>
   obtain⟨_,_,_,q⟩:=hs
   exact False.elim q
 | cont =>
   obtain⟨_,_,_,q⟩:=hs
   exact False.elim q
end
section
variable {X:Cx}
theorem pe_callC {x:Str} {k:Nat} {sp:Sp} {e:Expr} {es:List Expr} {t:TA} {p pos:Pos} (C:CalleeN X.prog X.w X.K X.mg X.base x k sp) (hr:RoomN k X.A) (hg:Gl X x) (ha:PA X (e :: es) t)
 (he:starEach (e :: es) X.env=(false,eval e X.env) :: starEach es X.env:=by rfl) (hpl:(backTo pos (starEach es X.env)).any (·.1)=false:=by rfl) (hdb:(x == ("__debug__" : Str))=false:=by decide) :
 PE X (.Call (.Name x p) (e :: es) [] pos) (tCall sp [] E0 t):=by
 obtain⟨f,fd,ps,F,hm,hk,hb⟩:=C
 walk_at"z3"
 refine wpAny_Call_Name_kw (ld_glob I hg hm ?_ hdb)
 refine PySem.W.callWith_K (h₀:=X.base) I.ok.mod.kin hk (thn (ha pos pins s σ H _ I h) fun us s1 ⟨vs,H1,I1,r,q⟩=>⟨I1.kIn,?_⟩) he hpl
 have r2:Vals (vs++[]) (us++[]):=r.append .nil
 have hl:(us++[]).length=ps.length:=by rw [<- r2.length]; exact F.len _ _ _ _ q
 refine wpAny_call (codeAny_mono (F.run X.A X.stack s1 H1 ⟨us,[]⟩ (us++[]) (vs++[]) Q E0 hr I1.env0 (hb s1 us I1.kIn hl) r2 q) fun r3 s' hq=>?_)
 cases r3 with
 | error v=>exact False.elim hq
 | ok fl =>
   cases fl with
   | ret u=>exact I1.after hq
   | next=>exact False.elim hq
   | brk=>exact False.elim hq
   | cont=>exact False.elim hq
theorem pe_globR {x:Str} {a:Addr} {pos:Pos} (hm:X.mg x=some (.ref a)) (hg:Gl X x) (hd:(x == ("__debug__" : Str))=false:=by decide):PE X (.Name x pos) (tC (.ref a)):=fun pins s σ H Q I q =>
 ld_glob I hg hm ⟨.ref a,H,I,rfl,q⟩ hd
end
end L2
namespace L2
open PySem PySem.Spec PyProof.Rows
structure IsiCls (K:PySem.W.Frag) (D:Addr):Prop where
 ga:PySem.W.findIn K (.ref D) "__getattribute__" = some (some (.builtin "BaseException.__getattribute__"))
 gt:PySem.W.findIn K (.ref D) "__getattr__" = some none
 mb:PySem.W.mroIn K D (.type "BaseException")=some true
 hd:PySem.W.hasDictIn K D=true
 ca:PySem.W.findIn K (.ref D) "__class__" = some (some (.builtin "object.__class__"))
 sp:PySem.W.specialIn K (.builtin "object.__class__") "__get__" = some (some (.builtin "getset_descriptor.__get__"))
 tk:PySem.W.takesIn K (.builtin "object.__class__")=some true
 mr:PySem.W.mroIn K D (.type "object")=some true
theorem excAt_inst {h:Heap} {x D:Addr} (e:ExcAt x (.ref D) h):∃ ox,PySem.W.InstAt h x ox D none:=by
 obtain⟨o,vs,z,c,d,f⟩:=e
 refine⟨o,z,c,?_,?_⟩
 ·rcases o with ⟨c',d',dt,sl⟩
  dsimp only at f
  subst f
  rfl
 ·rw [d]
  trivial
theorem exc_class_attr {K:PySem.W.Frag} {x D:Addr} {ox:Obj} {prog:Program} {w:World} {A:Around} {E:Value->Shared->Prop} {s:Shared} {Q:Option Value->Shared->Prop}
 (X:K.In s.heap) (I:PySem.W.InstAt s.heap x ox D none) (C:IsiCls K D) (h:Q (some (.ref D)) { s with toks:=s.toks+1 }):wpAny (model prog w) A (getAttr? (.ref x) "__class__") Q E s:=by
 have hf:PySem.W.findObj K D none "__class__" = some (.bind (.builtin "getset_descriptor.__get__") (.builtin "object.__class__")):=by
  obtain⟨cd,hc,_⟩:=PySem.W.any_some C.hd
  unfold PySem.W.findObj
  rw [hc]
  simp only [Option.bind_some,C.ca,C.sp,C.tk]
 obtain⟨hh,g,d,t,os⟩:=s
 have L0:=I.type (M:=model prog w)
 have L1:=PySem.W.looks_findIn (M:=model prog w) X C.ga
 have L2:=PySem.W.looks_findIn (M:=model prog w) X C.gt
 have L3:=PySem.W.looks_mroIn (M:=model prog w) X C.mb
 have L4:=PySem.W.looks_find (M:=model prog w) X I hf
 have hk:builtinKind "BaseException.__getattribute__" = some .slot:=by decide+kernel
 have hsplit:splitId "BaseException.__getattribute__" = some ("BaseException", "__getattribute__"):=by decide+kernel
 unfold getAttr? getAttrBy? getAttrBy
 refine wpAny_bind (wpAny_mkText (wpAny_bind (wpAny_attempt (wpAny_holding (wpAny_bind (L0.at (wpAny_bind (L1.at ?_))))))))
 show wpAny _ _ (getAttrByItsOwn _ _ _ _ _ _) _ _ _
 unfold getAttrByItsOwn
 refine wpAny_bind (L2.at (wpAny_bind (wpAny_attempt (wpAny_holding ?_))))
 show wpAny _ _ (boundAndCalled _ _ _) _ _ _
 unfold boundAndCalled
 rw [PySem.F.attr_ValueError.ga.bind]
 refine wpAny_bind (wpAny_pure (wpAny_call (codeAny_call_builtin PySem.F.attr_ValueError.ga.plain PySem.F.entry_bexc_ga ?_)))
 have ha:=PySem.F.args_bexc_ga (.ref x) (.str "__class__" t)
 simp only [checkBuiltinCall,hk,hsplit]
 refine wpAny_bind ?_
 unfold isInstance
 refine wpAny_bind (L0.at (L3.at ?_))
 repeat (first | with_reducible refine L4.at ?_ | with_reducible refine L0.at ?_ | wp_step)
 refine PySem.W.class_get (s:=⟨hh,g,d,t+1,os⟩) (ox:=ox) (od:=none) X I C.mr ?_
 refine wpAny_pure ?_
 exact PySem.W.handed_on rfl (wpAny_pure h)
theorem kitx_exc {K:PySem.W.Frag} {x D:Addr} (C:IsiCls K D):PySem.W.KitX K (.ref x) (.ref D) (ExcAt x (.ref D)) where
 ty:=fun _ _ _ e=>by
  obtain⟨ox,I⟩:=excAt_inst e
  exact I.type
 it:=fun _ _ kin _=>by
  obtain⟨cd,hc,_⟩:=PySem.W.any_some C.hd
  unfold PySem.W.clsIn at hc
  split at hc
  case h_2=>cases hc
  case h_1 look =>
   intro A' Q' E' s' k q
   unfold isType loadHead
   exact wpAny_bind (wpAny_loadPart (k _ _ (kin _ _ look)) (wpAny_pure q))
 ne:=fun h tp dd its n sl kin htp=>by
  obtain⟨cd,hc,_⟩:=PySem.W.any_some C.hd
  cases q:((Value.ref D) == .ref tp) with
  | false=>rfl
  | true =>
    have e:D=tp:=Value.ref.inj (beq_iff_eq.mp q)
    unfold PySem.W.clsIn at hc
    split at hc
    case h_2=>cases hc
    case h_1 look =>
     rw [e] at look
     have z:=kin _ _ look
     rw [htp] at z
     cases z
 ca:=fun {prog w A E Q s} kin e k=>by
  obtain⟨ox,I⟩:=excAt_inst e
  exact exc_class_attr kin I C k
def rIsiX (K:PySem.W.Frag):List V->Hp->VK->Prop:=fun xs H Q=>∃ (e D:Addr) (x:V) (c:Value) (b:Bool),xs=[.ref e,x]/\(∀ u,RelV x u->u=c)/\H e=some (.ext (ExcAt e (.ref D)))/\IsiCls K D/\PySem.W.kitOne K (.ref D) c=some b/\Q (.bl b) H
theorem call_isinstanceX {X:Cx} (K:PySem.W.Frag) (hK:X.K=K:=by rfl):CallR X (.builtin "isinstance") (rIsiX K):=by
 subst hK
 walk_at"z12"
 obtain⟨e,D,x,c,b,rfl,hc,he,C,hk,q⟩:=h
 obtain⟨u,c',rfl,rx,rc⟩:=vals2 r
 cases (show u=Value.ref e from rx)
 cases hc c' rc
 have he':ObjOk X.prog X.w H s.heap e (.ext (ExcAt e (.ref D))):=I.hok e _ he
 exact PySem.W.kia_one (kitx_exc C) I.kIn he'.1 hk (fun z=>nomatch z) fun tk=>⟨.bl b,H,I.tok tk,rfl,q⟩
end L2
namespace L2
open PySem PySem.Spec PyProof.Rows
def CalleeM (CX:CXT) (P:Program) (w:World) (K:PySem.W.Frag) (mg:Str->Option Value) (base:Heap) (C:Addr) (m:Str) (k:Nat) (sp:Sp):Prop :=
 ∃ f fd ps,FnOk P w K mg base CX k f fd ps sp/\Meth K C m f/\Binds K fd ps []
def CalleeC (CX:CXT) (P:Program) (w:World) (K:PySem.W.Frag) (mg:Str->Option Value) (base:Heap) (C:Addr) (x:Str) (k:Nat) (sp:Sp):Prop :=
 ∃ f fd ps,FnOk P w K mg base CX k f fd ps sp/\Mk K C f/\mg x=some (.ref C)/\Binds K fd ps []
def DefM (K:PySem.W.Frag) (C:Addr) (m qual:Str) (st:Stmt):Prop:=∃ f fd,Fun K m qual st f fd/\Meth K C m f
section
variable {P:Program} {w:World} {K:PySem.W.Frag} {mg:Str->Option Value} {base:Heap} {C:Addr} {m qual:Str} {st:Stmt} {N ps:List Str} {k:Nat} {sp:Sp}
theorem DefM.ok (D:DefM K C m qual st) (S:FnScope N ps (defScope st))
 (bd:∀ (kV doc pm:Value) (an:Option Addr) (cdv ct:Value) (us:List Value),us.length=ps.length->bindArgs (PySem.W.fnOf m qual (defArgs st) (defBody st) (defScope st) .none kV doc pm an cdv ct) ⟨us,[]⟩=pure (ps.zip us))
 (len:∀ vs H Q E,sp vs H Q E->vs.length=ps.length)
 (hbody:∀ (f:Addr) (cdv:Value) (A:Around) (outer:List Env) (s:Shared) (H:Hp) (vs:List V) (Q:VK) (E:XK),Room k (A.deeper (envOfC qual (defScope st) s.heap.objs.size f cdv))->sp vs H Q E ->
  ∃ t,PSs (cxOf CX0 P w K mg base N qual (defScope st) f cdv A outer s H E).nox (defBody st) t/\t { nx:=fun _ H'=>Q .non H',rt:=Q } (start N vs) H):CalleeM CX0 P w K mg base C m (k+1) sp:=by
 obtain⟨f,fd,F,hm⟩:=D
 exact⟨f,fd,ps,F.ok S len fun cdv A outer s H vs Q E hr h=>hbody f cdv A outer s H vs Q E hr h,hm,F.binds bd⟩
theorem DefM.okE (D:DefM K C m qual st) (S:FnScope N ps (defScope st))
 (bd:∀ (kV doc pm:Value) (an:Option Addr) (cdv ct:Value) (us:List Value),us.length=ps.length->bindArgs (PySem.W.fnOf m qual (defArgs st) (defBody st) (defScope st) .none kV doc pm an cdv ct) ⟨us,[]⟩=pure (ps.zip us))
 (len:∀ vs H Q E,sp vs H Q E->vs.length=ps.length)
 (hbody:∀ (f:Addr) (cdv:Value) (A:Around) (outer:List Env) (s:Shared) (H:Hp) (vs:List V) (Q:VK) (E:XK),Room k (A.deeper (envOfC qual (defScope st) s.heap.objs.size f cdv))->sp vs H Q E ->
  ∃ t,PSs (cxOf (CXE P w) P w K mg base N qual (defScope st) f cdv A outer s H E) (defBody st) t/\t { nx:=fun _ H'=>Q .non H',rt:=Q } (start N vs) H):CalleeM (CXE P w) P w K mg base C m (k+1) sp:=by
 obtain⟨f,fd,F,hm⟩:=D
 have Fb:=F.binds bd
 walk_at"z15"
 exact⟨f,_,ps,fn_of lk hcd S len fun A outer s H vs Q E hr hsp=>hbody f cdv A outer s H vs Q E hr hsp,hm,Fb⟩
theorem CalleeM.made {CX:CXT} {x:Str} (M:CalleeM CX P w K mg base C "__init__" k sp) (h1:PySem.W.makesIn K C=true) (h2:PySem.W.keepIn K (.ref C)=true) (h3:mg x=some (.ref C)):CalleeC CX P w K mg base C x k sp:=by
 obtain⟨f,fd,ps,F,hm,hb⟩:=M
 exact⟨f,fd,ps,F,⟨h1,hm.at_,hm.fn,h2⟩,h3,hb⟩
end
section
variable {X:Cx} (K:PySem.W.Frag) {C:Addr} {m x:Str} {k:Nat} {sp:Sp} {e o:Expr} {es:List Expr} {ta:TE} {t:TA} {p pos apos:Pos} {f:Str} {tv:TE} {value:Expr} {pos':Pos}
theorem pe_fldK (he:PE X e ta) (hb:attributeBase e f X.env (eval e X.env)=eval e X.env) (hK:X.K=K:=by rfl):PE X (.Attribute e f pos) (tFld K ta f):=by subst hK; exact pe_fld he hb
theorem ps_fldK (ha:PE X o ta) (hv:PE X value tv) (hs:swapsWith value (some (.Attribute o f pos')) pos.line X.env=pure false) (hK:X.K=K:=by rfl):PS X (.Assign [.Attribute o f pos'] value pos) (sFld K ta tv f):=by subst hK; exact ps_fld ha hv hs
def tMethS (C:Addr) (m:Str) (sp:Sp) (Ex:St->XK) (ta:TE) (t:TA):TE:=fun σ H Q=>ta σ H fun x H1=>∃ a dx fs,x=.ref a/\H1 a=some (.ins C dx fs)/\fs.lookup m=none /\
 t σ H1 fun vs H2=>sp (x :: (vs++[])) H2 Q (Ex σ)
theorem run_fnS {k:Nat} {f:Addr} {fd:FuncData} {ps:List Str} {sp:Sp} {Ex:St->XK} {pins:List (Addr×Obj)} {σ:St} {H:Hp} {s:Shared} {Q:VK} {us:List Value} {vs:List V} (F:FnOk X.prog X.w X.K X.mg X.base (CXE X.prog X.w) k f fd ps sp) (hr:Room k X.A) (hb:Binds X.K fd ps []) (hx:PassS X Ex)
 (I:Inv X pins σ H s) (r:Vals vs us) (h:sp (vs++[]) H Q (Ex σ)):wpAny (model X.prog X.w) X.A (call (.ref f) us) (EP X pins σ Q) X.xe s:=by
 have r2:Vals (vs++[]) (us++[]):=r.append .nil
 have hl:(us++[]).length=ps.length:=by rw [<- r2.length]; exact F.len _ _ _ _ h
 refine wpAny_call (codeAny_mono (F.run X.A X.stack s H ⟨us,[]⟩ (us++[]) (vs++[]) Q (Ex σ) hr I.env0 (hb s us I.kIn hl) r2 h) fun r s' hq=>?_)
 cases r with
 | error e=>exact hx pins σ H s e s' I hq
 | ok fl =>
   cases fl with
   | ret u=>exact I.after hq
   | next=>exact False.elim hq
   | brk=>exact False.elim hq
   | cont=>exact False.elim hq
theorem pe_methS {pl:Sem Bool} {Ex:St->XK} (M:CalleeM (CXE X.prog X.w) X.prog X.w X.K X.mg X.base C m k sp) (c:Cls X.K C) (he:PE X o ta) (hr:Room k X.A) (hx:PassS X Ex) (ha:PA X (e :: es) t)
 (hst:starEach (e :: es) X.env=(false,eval e X.env) :: starEach es X.env:=by rfl) (hpl:(backTo pos (starEach es X.env)).any (·.1)=false:=by rfl)
 (ht:eval (.Call (.Attribute o m apos) (e :: es) [] pos) X.env=(do
  let ov <- eval o X.env
  standAt apos.atName
  let (f,first) <- holding [ov] (getMethod ov m pl)
  callWith pos f first (backTo pos (starEach (e :: es) X.env)) (backToKw pos (keywordEach [] X.env))):=by rfl):PE X (.Call (.Attribute o m apos) (e :: es) [] pos) (tMethS C m sp Ex ta t):=by
 obtain⟨f,fd,ps,F,hm,hb⟩:=M
 walk_at"z3"
 walk_at"z14"
 subst ex
 obtain rfl:u=Value.ref a:=rx
 refine getmeth_ok I1 ea c hm l ?_
 refine PySem.W.callWith_K (first:=[.ref a]) (h₀:=X.base) I.ok.mod.kin hm.kp (thn (ha pos pins s1 σ H1 _ I1 q) fun us s2 ⟨vs,H2,I2,r,q2⟩=>⟨I2.kIn,?_⟩) hst hpl
 exact run_fnS (us:=.ref a :: us) (vs:=.ref a :: vs) F hr hb hx I2 (.cons rfl r) q2
end
end L2
set_option maxHeartbeats 4000000
namespace L2
open PySem PySem.Spec PyProof.Rows
section
variable {P:Program} {w:World} {K:PySem.W.Frag} {mg:Str->Option Value} {base:Heap} {N:List Str} {qual:Str} {scope:Scope} {f:Addr} {cd:Value} {A:Around} {outer:List Env} {s:Shared} {H:Hp} {E:XK}
end
def tMakeS (C:Addr) (sp:Sp) (Ex:St->XK) (t:TA):TE:=fun σ H Q=>t σ H fun vs H1=>∀ x dx,H1 x=none->H1 dx=none->dx≠x ->
 sp (.ref x :: (vs++[])) (upd (upd H1 dx (.own x)) x (.ins C dx [])) (fun v H2=>v=.non/\Q (.ref x) H2) (Ex σ)
section
variable {X:Cx} {C:Addr} {x:Str} {k:Nat} {sp:Sp} {e:Expr} {es:List Expr} {t:TA} {p pos:Pos} {Ex:St->XK}
end
end L2
namespace L2
open PySem PySem.Spec PyProof.Rows
section
variable {K:PySem.W.Frag} {g:TG} {ti:TT} {te:TE} {σc:St} {H:Hp} {Q:VK}
end
section
variable {K:PySem.W.Frag} {H:Hp} {Q:VK}
end
end L2
namespace L2
open PySem PySem.Spec PyProof.Rows
end L2
namespace L2
open PySem PySem.Spec PyProof.Rows
def celC (X:Cx) (scope:Scope) (C:Addr):List (Str×Addr):=cellsFrom (C+1) scope.names (clOf X.env scope.names [])
def cxD (X:Cx) (scope:Scope) (C:Addr) (N:List Str) (s₂:Shared) (H₂:Hp) (ex:List Addr) (xb:Value->Shared->Prop):Cx :=
 { X with N:=N,s₀:=s₂,H₀:=H₂,env:=compEnvC scope (celC X scope C) C X.env,outer:=X.stack,stack:=X.stack,ex:=ex,fn:=fun x=>scope.names.lookup x == some .cell,pn:=[],xe:=xb }
structure CompOkD (X:Cx) (scope:Scope) (N:List Str) (fr:List (Option Nat)):Prop where
 kind:scope.kind=.function
 own:∀ y∈scope.names,y.2=.cell->scope.names.lookup y.1=some .cell
 names:∀ y∈scope.names,y.2=.local->scope.names.lookup y.1=some .local
 frees:∀ y∈scope.names,y.2=.free->X.env.kindOf y.1=some .cell\/X.env.kindOf y.1=some .free
 fr:FrOk X scope N fr
section
variable {X:Cx} {scope:Scope} {N:List Str} {fr:List (Option Nat)} {xb:Value->Shared->Prop}
structure Cel (X:Cx) (scope:Scope) (C:Addr) (h:Heap):Prop where
 get:∀ x a,(celC X scope C).lookup x=some a->X.env.cells.lookup x=some a\/(C<a/\(x,NameKind.cell)∈scope.names/\h.IsCell a none)
end
section
variable {prog:Program} {w:World} {A:Around} {EE:Value->Shared->Prop} {R:Result->Shared->Prop} {s:Shared}
end
structure DOk (X:Cx) (D:Addr):Prop where
 ne:D≠X.env.locals
 ab:X.s₀.heap.objs.size<=D
 cl:∀ x a,X.env.cells.lookup x=some a->a≠D
 fs:D ∉ X.fs
def LastI (J:It) (g:TG) (ti:TT) (te:TE) (σc:St) (ys0:List V) (H1:Hp) (Z:List V->Hp->Prop):Prop:=∃ W:Nat->Nat->List V->Hp->Prop,(∃ m,W 0 m ys0 H1)/\∀ i m ys H,W i m ys H->ys.length<sizeLine /\
 ((J.stop i H/\Z ys H)\/(J.go i H/\∃ M:List V->Hp->Prop,(∀ ys' H',M ys' H'->∃ m',m'<m/\W (i+1) m' ys' H') /\
   ∀ x H',J.yld i H x H'->g x σc H' fun σ2 H2=>ti σ2 H2 fun b H3=>if b=true then te σ2 H3 fun y H4=>M (ys++[y]) H4 else M ys H3))
section
variable {X:Cx} {scope:Scope} {fr1:List (Option Nat)} {tg iter elt:Expr} {ifs:List Expr} {gens:List Comprehension} {d:Nat} {pos:Pos} {J:It} {g:TG} {ti:TT} {te:TE} {R:Result->Shared->Prop}
end
section
variable {X:Cx} {scope:Scope} {N:List Str} {fr:List (Option Nat)} {tg iter elt:Expr} {ifs:List Expr} {rest:List Comprehension} {pos:Pos} {J:It} {xb:Addr->Value->Shared->Prop}
structure Beg (X:Cx) (scope:Scope) (N:List Str) (fr:List (Option Nat)) (xb:Addr->Value->Shared->Prop) (pins:List (Addr×Obj)) (σ:St) (H:Hp) (s₂:Shared) (fp:List Addr) (D C:Addr) (h₁:Heap):Prop where
 ix:Inv X pins σ H s₂
 ds:s₂.heap.objs.size=D
 dc:D<C
 cel:Cel X scope C h₁
 inv:Inv (cxD X scope C N s₂ H fp (xb C)) [] (stC fr σ) H { s₂ with heap:=h₁ }
 fpk:∀ b∈fp,FpOk X pins H b/\b<s₂.heap.objs.size
 acc:h₁.get? D=some (lob [] 0)
 free:H D=none
section
variable {pins:List (Addr×Obj)} {σ:St} {H:Hp} {s₂:Shared} {fp:List Addr} {D C:Addr} {h₁:Heap}
end
end
section
variable {prog:Program} {w:World} {A:Around} {R:Result->Shared->Prop} {s:Shared}
end
section
variable {X:Cx} {scope:Scope} {N:List Str} {fr:List (Option Nat)} {tg iter elt:Expr} {ifs:List Expr} {pos:Pos} {g:TG} {ti:TT} {te:TE}
end
def msk (fr1:List (Option Nat)) (σ:St):St:=List.zipWith (fun f v=>f.bind fun _=>v) fr1 σ
def CompI2 (J:It) (fr1:List (Option Nat)) (g:TG) (ti:TT) (wi1:TI) (g1:TG) (ti1:TT) (te:TE) (σc:St) (H1:Hp) (Q:VK):Prop:=∃ W:Nat->Nat->List V->Hp->Prop,(∃ m,W 0 m [] H1)/\∀ i m ys H,W i m ys H->ys.length<sizeLine /\
 ((J.stop i H/\∀ l,H l=none->Q (.ref l) (upd H l (.lst ys)))\/(J.go i H/\∃ M:List V->Hp->Prop,(∀ ys' H',M ys' H'->∃ m',m'<m/\W (i+1) m' ys' H') /\
   ∀ x H',J.yld i H x H'->g x σc H' fun σ2 H2=>ti σ2 H2 fun b H3=>if b=true then wi1 σ2 H3 fun J1 H4=>LastI J1 g1 ti1 te (msk fr1 σ2) ys H4 M else M ys H3))
def tComp2 (fr fr1:List (Option Nat)) (wi:TI) (g:TG) (ti:TT) (wi1:TI) (g1:TG) (ti1:TT) (te:TE):TE:=fun σ H Q=>wi σ H fun J H1=>CompI2 J fr1 g ti wi1 g1 ti1 te (stC fr σ) H1 Q
section
variable {X:Cx} {scope:Scope} {N:List Str} {fr fr1:List (Option Nat)} {tg iter tg1 iter1 elt:Expr} {ifs ifs1:List Expr} {pos:Pos} {g g1:TG} {ti ti1:TT} {te:TE} {wi1:TI}
end
section
variable {g g1:TG} {ti ti1:TT} {te:TE} {wi1:TI} {fr1:List (Option Nat)} {σc:St} {H:Hp} {Q:VK}
end
end L2
namespace L2
open PySem PySem.Spec PyProof.Rows
section
variable {M:Model} {A:Around} {E:Value->Shared->Prop} {s:Shared} {B:Heap} {env:Env} {outer:List Env} {L e:Addr}
end
section
variable {P:Program} {w:World} {K:PySem.W.Frag} {mg:Str->Option Value} {base:Heap} {N:List Str} {qual:Str} {scope:Scope} {f:Addr} {cd:Value} {A:Around} {outer:List Env} {s:Shared} {H:Hp} {E:XK}
end
structure XIn (X:Cx) (C:Addr) (s₂:Shared) (H:Hp) (fp:List Addr):Prop where
 ex:∃ pins σ,Inv X pins σ H s₂/\∀ b∈fp,FpOk X pins H b/\b<s₂.heap.objs.size
 le:s₂.heap.objs.size<=C
section
variable {P:Program} {w:World} {K:PySem.W.Frag} {mg:Str->Option Value} {base:Heap} {N:List Str} {qual:Str} {scope:Scope} {f:Addr} {cd:Value} {A:Around} {outer:List Env} {s:Shared} {H:Hp} {E:XK} {scope':Scope} {N':List Str} {C:Addr} {s₂:Shared} {H₂:Hp} {fp:List Addr}
end
section
variable {P:Program} {w:World} {K:PySem.W.Frag} {mg:Str->Option Value} {base:Heap} {N:List Str} {qual:Str} {scope:Scope} {f:Addr} {cd:Value} {A:Around} {outer:List Env} {s:Shared} {H:Hp} {E:XK} {scope':Scope} {N':List Str} {C:Addr} {s₂:Shared} {H₂:Hp} {fp:List Addr} {Y:Cx}
end
section
variable {X:Cx} {scope:Scope} {N:List Str} {fr:List (Option Nat)} {tg iter elt:Expr} {ifs:List Expr} {pos:Pos} {g:TG} {ti:TT} {te:TE}
end
end L2
namespace L2
open PySem PySem.Spec PyProof.Rows
section
variable {X:Cx} {e k:Expr} {te:TE} {tk:TO} {pos p2:Pos}
def rRev (K:PySem.W.Frag):V->Hp->VK->Prop:=fun x H Q=>∃ a xs,x=.ref a/\SqL K H a xs/\∀ p,H p=none->Q (.ref p) (upd H p (.lst xs.reverse))
def tRev (K:PySem.W.Frag) (te:TE) (tk:TO):TE:=fun σ H Q=>te σ H fun x H1=>tk σ H1 fun j H2=>j=some (-1)/\rRev K x H2 Q
end
section
variable {X:Cx}
end
section
variable {K:PySem.W.Frag} {H:Hp} {Q:VK}
end
end L2
namespace M
def drag (p a x:Int):Int:=if x<a - p then a - p else if a+p<x then a+p else x
theorem drag_mid {p a x:Int} (h0:0<=p):drag p a x - a<=p/\a - drag p a x<=p/\(p<x - a->drag p a x=a+p)/\(p<a - x->drag p a x=a - p)/\(¬ p<x - a->¬ p<a - x->drag p a x=x):=by
 unfold drag
 split
 ·lia
 ·split <;> lia
def isTr (ps:List Int):Prop:=1<=ps.length/\ps.length<=12/\∀ p∈ps,0<=p
def keeps:List Int->Int->List Int->Prop
 | p :: ps,a,x :: xs=>(x - a<=p/\a - x<=p)/\keeps ps x xs
 | _,_,_=>True
def stand (ps:List Int) (a:Int) (xs:List Int):Prop:=xs.length=ps.length/\keeps ps a xs
def dragAll:List Int->List Int->Int->List Int
 | p :: ps,x :: xs,a=>drag p a x :: dragAll ps xs (drag p a x)
 | _,_,_=>[]
def lastOf:Int->List Int->Int
 | a,[]=>a
 | _,x :: xs=>lastOf x xs
theorem dropc {α:Type} {xs:List α} {i:Nat} {x:α} (h:xs[i]? = some x):xs.drop i=x :: xs.drop (i+1):=by
 obtain⟨hl,e⟩:=List.getElem?_eq_some_iff.mp h
 rw [List.drop_eq_getElem_cons hl,e]
theorem lastOf_snoc (a x:Int):∀ xs:List Int,lastOf a (xs++[x])=x:=by
 intro xs
 induction xs generalizing a with
 | nil=>rfl
 | cons y ys ih=>exact ih y
theorem dragAll_length:∀ (ps xs:List Int) (a:Int),(dragAll ps xs a).length=min ps.length xs.length
 | [],xs,a=>by simp [dragAll]
 | p :: ps,[],a=>by simp [dragAll]
 | p :: ps,x :: xs,a=>by simp [dragAll,dragAll_length ps xs]
theorem dragAll_keeps:∀ (ps xs:List Int) (a:Int),(∀ p∈ps,0<=p)->keeps ps a (dragAll ps xs a)
 | [],xs,a,_=>trivial
 | p :: ps,[],a,_=>trivial
 | p :: ps,x :: xs,a,h=>by
   have q:=drag_mid (p:=p) (a:=a) (x:=x) (h p (List.mem_cons_self))
   exact⟨⟨q.1,q.2.1⟩,dragAll_keeps ps xs _ fun z hz=>h z (List.mem_cons_of_mem _ hz)⟩
theorem dragAll_stand {ps xs:List Int} {a b:Int} (ht:isTr ps) (h:stand ps b xs):stand ps a (dragAll ps xs a):=by
 refine⟨?_,dragAll_keeps ps xs a ht.2.2⟩
 rw [dragAll_length,h.1]; lia
theorem dragAll_nil (xs:List Int) (a:Int):dragAll [] xs a=[]:=by simp [dragAll]
theorem dragAll_nil2 (ps:List Int) (a:Int):dragAll ps [] a=[]:=by cases ps <;> simp [dragAll]
def runs (ps:List Int):List Int->List Int->List (List Int)
 | _,[]=>[]
 | ws,c :: row=>dragAll ps ws c :: runs ps (dragAll ps ws c) row
def depths:Int->List Int->List Int
 | _,[]=>[]
 | d,p :: ps=>(d+p) :: depths (d+p) ps
theorem runs_length (ps:List Int):∀ (row ws:List Int),(runs ps ws row).length=row.length
 | [],_=>rfl
 | c :: row,ws=>by simp [runs,runs_length ps row]
theorem depths_length:∀ (ps:List Int) (d:Int),(depths d ps).length=ps.length
 | [],_=>rfl
 | p :: ps,d=>by simp [depths,depths_length ps]
theorem depths_get:∀ (ps:List Int) (d:Int) (k:Nat) (p:Int),ps[k]? = some p->(depths d ps)[k]? = some (d+(ps.take k).sum+p)
 | [],d,k,p,h=>by simp at h
 | q :: ps,d,0,p,h=>by simp at h; subst h; simp [depths]
 | q :: ps,d,k+1,p,h=>by
   simp only [List.getElem?_cons_succ] at h
   simp only [depths,List.getElem?_cons_succ,List.take_succ_cons,List.sum_cons]
   rw [depths_get ps (d+q) k p h]
   congr 1
   lia
def endW (ps:List Int):List Int->List Int->List Int
 | ws,[]=>ws
 | ws,c :: row=>endW ps (dragAll ps ws c) row
theorem runs_append (ps:List Int):∀ (r1 r2 ws:List Int),runs ps ws (r1++r2)=runs ps ws r1++runs ps (endW ps ws r1) r2
 | [],r2,ws=>rfl
 | c :: r1,r2,ws=>by simp only [List.cons_append,runs,endW,runs_append ps r1 r2]
theorem endW_append (ps:List Int):∀ (r1 r2 ws:List Int),endW ps ws (r1++r2)=endW ps (endW ps ws r1) r2
 | [],r2,ws=>rfl
 | c :: r1,r2,ws=>by simp only [List.cons_append,endW,endW_append ps r1 r2]
theorem endW_keeps {ps:List Int} (hp:∀ p∈ps,0<=p):∀ (row ws:List Int) (a:Int),keeps ps a ws->keeps ps (lastOf a row) (endW ps ws row)
 | [],ws,a,h=>h
 | c :: row,ws,a,h=>endW_keeps hp row (dragAll ps ws c) c (dragAll_keeps ps ws c hp)
theorem endW_length {ps:List Int}:∀ (row ws:List Int),ws.length=ps.length->(endW ps ws row).length=ps.length
 | [],ws,h=>h
 | c :: row,ws,h=>endW_length row _ (by rw [dragAll_length,h]; lia)
theorem endW_stand {ps ws row:List Int} {a:Int} (ht:isTr ps) (h:stand ps a ws):stand ps (lastOf a row) (endW ps ws row):=⟨endW_length row ws h.1,endW_keeps ht.2.2 row ws a h.2⟩
theorem runs_len {ps:List Int}:∀ (row ws:List Int),ws.length=ps.length->∀ xs∈runs ps ws row,xs.length=ps.length
 | [],ws,_,xs,h=>by simp [runs] at h
 | c :: row,ws,hw,xs,h=>by
   have hl:(dragAll ps ws c).length=ps.length:=by rw [dragAll_length,hw]; lia
   simp only [runs,List.mem_cons] at h
   rcases h with h | h
   ·rw [h]; exact hl
   ·exact runs_len row _ hl xs h
theorem take_snoc_get {α:Type} {xs:List α} {j:Nat} {x:α} (h:xs[j]? = some x):xs.take (j+1)=xs.take j++[x]:=by
 rw [List.take_add_one,h]; rfl
end M
namespace M
def pc (xs:List Int) (h:Int) (w:Int):Int:=if w<0 then h else xs.getD w.toNat 0
abbrev Fn:=Int->Int
abbrev Must:=Int×Int
def mp (D G:Fn) (m:Must):Int:=G m.1+m.2*D m.1
def bey (D G:Fn) (a:Must) (w:Int):Prop:=(mp D G a - G w)*a.2 > D w
instance (D G:Fn) (a:Must) (w:Int):Decidable (bey D G a w):=inferInstanceAs (Decidable (_ > _))
def sgn (F G:Fn) (w:Int):Int:=if F w<G w then 1 else -1
def fm (F G:Fn):Nat->List Must
 | 0=>if F (-1)=G (-1) then [] else [(-1,sgn F G (-1))]
 | k+1=>if F k=G k then fm F G k else [((k:Int),sgn F G k)]
def rst (D G:Fn):Nat->Must->List Must
 | 0,a=>if bey D G a (-1) then [(-1,-a.2)] else []
 | k+1,a=>if bey D G a k then ((k:Int),-a.2) :: rst D G k ((k:Int),-a.2) else rst D G k a
def rstOf (D G:Fn) (a:Must):List Must:=if a.1<0 then [] else rst D G a.1.toNat a
def paper (n:Nat) (D F G:Fn):List Must:=match fm F G n with
 | []=>[]
 | a :: _=>a :: rstOf D G a
theorem fm_spec {F G:Fn}:∀ (n:Nat),(fm F G n=[]/\∀ j:Int,-1<=j->j<n->F j=G j)\/∃ w:Int,fm F G n=[(w,sgn F G w)]/\-1<=w/\w<n/\F w≠G w/\∀ j:Int,w<j->j<n->F j=G j
 | 0=>by
   simp only [fm]
   split
   ·rename_i h
    refine .inl ⟨rfl,fun j h1 h2=>?_⟩
    have:j = -1:=by lia
    rw [this]; exact h
   ·rename_i h
    exact .inr ⟨-1,rfl,by lia,by lia,h,fun j h1 h2=>by lia⟩
 | k+1=>by
   simp only [fm]
   split
   ·rename_i h
    rcases fm_spec (F:=F) (G:=G) k with ⟨e,q⟩ | ⟨w,e,h1,h2,h3,h4⟩
    ·refine .inl ⟨e,fun j h1 h2=>?_⟩
     by_cases e:j=k
     ·rw [e]; exact h
     ·exact q j h1 (by lia)
    ·refine .inr ⟨w,e,h1,by lia,h3,fun j z1 z2=>?_⟩
     by_cases e:j=k
     ·rw [e]; exact h
     ·exact h4 j z1 (by lia)
   ·rename_i h
    exact .inr ⟨k,rfl,by lia,by lia,h,fun j h1 h2=>by lia⟩
def okMust (n:Nat) (m:Must):Prop:=-1<=m.1/\m.1<n/\(m.2=1\/m.2 = -1)
def fstOk (F G:Fn) (m:Must):Prop:=F m.1≠G m.1/\m.2=sgn F G m.1
def nxt (D G:Fn) (a m:Must):Prop:=m.2 = -a.2/\bey D G a m.1
def chain (n:Nat) (D G:Fn):Must->List Must->Prop
 | _,[]=>True
 | a,m :: ms=>okMust n m/\nxt D G a m/\chain n D G m ms
def isPap (n:Nat) (D F G:Fn):List Must->Prop
 | []=>True
 | m :: ms=>okMust n m/\fstOk F G m/\chain n D G m ms
theorem rst_chain {n:Nat} {D G:Fn}:∀ (k:Nat) (a:Must),(a.2=1\/a.2 = -1)->k<=n->chain n D G a (rst D G k a)
 | 0,a,hs,hk=>by
   simp only [rst]
   split
   ·rename_i h
    exact⟨⟨by simp only; lia,by simp only; lia,by simp only; lia⟩,⟨rfl,h⟩,trivial⟩
   ·trivial
 | k+1,a,hs,hk=>by
   simp only [rst]
   split
   ·rename_i h
    exact⟨⟨by simp only; lia,by simp only; lia,by simp only; lia⟩,⟨rfl,h⟩,rst_chain k _ (by simp only; lia) (by lia)⟩
   ·exact rst_chain k a hs (by lia)
theorem paper_isPap {n:Nat} {D F G:Fn}:isPap n D F G (paper n D F G):=by
 unfold paper
 rcases fm_spec (F:=F) (G:=G) n with ⟨e,q⟩ | ⟨w,e,h1,h2,h3,h4⟩
 ·rw [e]; trivial
 ·rw [e]
  have hs:sgn F G w=1\/sgn F G w = -1:=by unfold sgn; split <;> simp
  refine⟨⟨h1,h2,hs⟩,⟨h3,rfl⟩,?_⟩
  unfold rstOf
  split
  ·trivial
  ·rename_i hw
   simp only at hw
   exact rst_chain _ _ hs (by simp only; lia)
theorem rst_length {D G:Fn}:∀ (k:Nat) (a:Must),(rst D G k a).length<=k+1
 | 0,a=>by simp only [rst]; split <;> simp
 | k+1,a=>by
   simp only [rst]
   split
   ·have:=rst_length (D:=D) (G:=G) k ((k:Int),-a.2); simp; lia
   ·have:=rst_length (D:=D) (G:=G) k a; lia
theorem paper_length {n:Nat} {D F G:Fn}:(paper n D F G).length<=n+1:=by
 unfold paper
 rcases fm_spec (F:=F) (G:=G) n with ⟨e,q⟩ | ⟨w,e,h1,h2,h3,h4⟩
 ·rw [e]; simp
 ·rw [e]
  simp only [List.length_cons,rstOf]
  split
  ·simp
  ·rename_i hw
   have:=rst_length (D:=D) (G:=G) w.toNat (w,sgn F G w)
   lia
def ab (i:Int):Int:=if i<0 then -i else i
def way:Int->List Int->Int
 | _,[]=>0
 | h,x :: r=>ab (x - h)+way x r
theorem way_append:∀ (r1 r2:List Int) (h:Int),way h (r1++r2)=way h r1+way (lastOf h r1) r2
 | [],r2,h=>by simp [way,lastOf]
 | x :: r,r2,h=>by simp only [List.cons_append,way,lastOf]; rw [way_append r r2 x]; lia
def wayL:List Int->Int
 | []=>0
 | h :: r=>way h r
theorem wayL_two (x y:Int) (r:List Int):wayL (x :: y :: r)=ab (y - x)+wayL (y :: r):=rfl
theorem wayL_short:∀ {xs:List Int},xs.length<=1->wayL xs=0
 | [],_=>rfl
 | [_],_=>rfl
 | _ :: _ :: _,h=>by simp at h
def rr (D G:Fn):Nat->Must->List Must
 | 0,_=>[]
 | k+1,a=>rst D G k a
theorem rr_step (D G:Fn) (k:Nat) (a:Must):rr D G (k+1) a=if bey D G a ((k:Int) - 1) then ((k:Int) - 1,-a.2) :: rr D G k ((k:Int) - 1,-a.2) else rr D G k a:=by
 cases k with
 | zero=>simp [rr,rst]
 | succ k=>simp only [rr,rst]; rw [show ((k+1:Nat):Int) - 1=k by lia]
theorem rr_of (D G:Fn) (a:Must) (h:-1<=a.1):rstOf D G a=rr D G (a.1+1).toNat a:=by
 unfold rstOf
 split
 ·rw [show (a.1+1).toNat=0 by lia]; rfl
 ·rw [show (a.1+1).toNat=a.1.toNat+1 by lia]; rfl
def ff (F G:Fn):Nat->List Must
 | 0=>[]
 | k+1=>fm F G k
theorem ff_step (F G:Fn) (k:Nat):ff F G (k+1)=if F ((k:Int) - 1)=G ((k:Int) - 1) then ff F G k else [((k:Int) - 1,sgn F G ((k:Int) - 1))]:=by
 cases k with
 | zero=>simp [ff,fm]
 | succ k=>simp only [ff,fm]; rw [show ((k+1:Nat):Int) - 1=k by lia]
theorem pc_neg (xs:List Int) (h:Int):pc xs h (-1)=h:=by simp [pc]
theorem pc_get {xs:List Int} {h w:Int} (h0:0<=w) (h1:w<xs.length):xs[w.toNat]? = some (pc xs h w):=by
 have:w.toNat<xs.length:=by lia
 simp only [pc]
 rw [if_neg (by lia)]
 simp [List.getD,this]
def told (ps:List Int) (h:Int) (ws:List Int) (e:Int) (gs:List Int):List Must:=paper ps.length (pc (depths 0 ps) 0) (pc ws h) (pc gs e)
def toldRow (ps:List Int) (h:Int) (ws:List Int) (e:Int) (gs:List Int):List Int:=(told ps h ws e gs).map (mp (pc (depths 0 ps) 0) (pc gs e))
end M
namespace L2
open PySem PySem.Spec PyProof.Rows
abbrev IsTrip (h:Heap) (T:Addr) (a b c:Value):Prop:=h.get? T=some { cls:=.type "tuple", data:=.seq #[a,b,c] }
section
variable {prog:Program} {w:World} {A:Around} {E:Value->Shared->Prop} {s:Shared}
theorem upd_trip {T:Addr} {a b c x:Value} {k:Nat} {Q:Unit->Shared->Prop} (hT:IsTrip s.heap T a b c)
 (h:∀ h',h'.get? T=some { cls:=.type "tuple", data:=.seq ((#[a,b,c]:Array Value).setIfInBounds k x) }->Heap.SameBut T s.heap h'->Q () { s with heap:=h' }) :
 wpAny (model prog w) A (updateSeq T (·.setIfInBounds k x)) Q E s:=by
 refine wpAny_updateSeq hT rfl (h _ ?_ (Heap.SameBut.update ..))
 rw [Heap.get?_update_self _ hT rfl]
 simp [Obj.mapSeq]
local macro_rules | `(tactic| walk_at"ne")=>`(tactic| (show @Ne Nat _ _; lia))
theorem zip3_item {n l1 l2 l3:Nat} {k:Nat} {xs ys zs:Array Value} {x y q a b c:Value} {Q:Value->Shared->Prop} (n1:l1<n) (n2:l2<n) (n3:l3<n)
 (hz:IsZip s.heap (n+5) (n+3) (n+4) .none) (hTI:IsTrip s.heap (n+3) (.ref n) (.ref (n+1)) (.ref (n+2))) (hTO:IsTrip s.heap (n+4) a b c)
 (h1:s.heap.IsListIter n l1 k) (h2:s.heap.IsListIter (n+1) l2 k) (h3:s.heap.IsListIter (n+2) l3 k) (hl1:s.heap.IsList l1 xs) (hl2:s.heap.IsList l2 ys) (hl3:s.heap.IsList l3 zs) (hx:xs[k]? = some x) (hy:ys[k]? = some y) (hq:zs[k]? = some q)
 (hQ:∀ h',IsZip h' (n+5) (n+3) (n+4) (rawInt s.heap.objs.size)->IsTrip h' (n+4) x y q->h'.IsListIter n l1 (k+1)->h'.IsListIter (n+1) l2 (k+1)->h'.IsListIter (n+2) l3 (k+1)->IsTrip h' s.heap.objs.size x y q ->
  (∀ d o,d≠n->d≠n+1->d≠n+2->d≠n+4->d≠n+5->s.heap.get? d=some o->h'.get? d=some o)->Q (.ref s.heap.objs.size) { s with heap:=h' }) :
 wpAny (model prog w) A (Builtin.«zip.__next__» ⟨[.ref (n+5)],[]⟩) (fun fin s'=>∃ v,fin=.done (.ret v)/\Q v s') E s:=by
 show wpAny _ _ (field (.ref (n+5)) 2 >>= _) _ _ _
 refine wpAny_bind (wpAny_field hz rfl (x:=.bool false) rfl ?_)
 show wpAny _ _ (field (.ref (n+5)) 3 >>= _) _ _ _
 refine wpAny_bind (wpAny_field hz rfl (x:=.ref (n+3)) rfl ?_)
 refine wpAny_bind (wpAny_seqItems hTI rfl ?_)
 show wpAny _ _ (Builtin.SmallTypes.ownedTupleIsFree (.ref (n+5)) >>= _) _ _ _
 refine wpAny_bind ?_
 unfold Builtin.SmallTypes.ownedTupleIsFree
 refine wpAny_bind (wpAny_field hz rfl (x:=.none) rfl (wpAny_pure ?_))
 simp only [if_true]
 refine wpAny_bind (wpAny_rule ?_)
 refine wpAny_bind (wpAny_field hz rfl (x:=.ref (n+4)) rfl ?_)
 refine wpAny_bind (wpAny_setField_rec hz (by simp) fun g1 hz1 t1=>?_)
 replace hz1:IsZip g1 (n+5) (n+3) (n+4) .ellipsis:=hz1
 refine wpAny_bind ?_
 simp only [List.zipIdx_cons,List.zipIdx_nil,List.forIn_cons,List.forIn_nil]
 refine wpAny_bind (wpAny_bind (wpAny_onRaise ?_))
 show wpAny _ _ (Builtin.SmallTypes.nextOf (.ref n) >>= _) _ _ _
 refine wpAny_bind (wpAny_nextOf_list_item (h1.extBut t1.extBut (by walk_at"ne")) (hl1.extBut t1.extBut (by walk_at"ne")) hx fun g2 u1 t2=>wpAny_pure ?_)
 have o2:IsTrip g2 (n+4) a b c:=t2.extBut _ _ (by walk_at"ne") (t1.extBut _ _ (by walk_at"ne") hTO)
 refine wpAny_bind (wpAny_seqItems o2 rfl ?_)
 refine wpAny_bind (upd_trip o2 fun g3 o3 t3=>?_)
 replace o3:IsTrip g3 (n+4) x b c:=o3
 refine wpAny_bind (wpAny_letGo (wpAny_pure ?_))
 refine wpAny_bind (wpAny_bind (wpAny_onRaise ?_))
 show wpAny _ _ (Builtin.SmallTypes.nextOf (.ref (n+1)) >>= _) _ _ _
 refine wpAny_bind (wpAny_nextOf_list_item (((h2.extBut t1.extBut (by walk_at"ne")).extBut t2.extBut (by walk_at"ne")).extBut t3.extBut (by walk_at"ne")) (((hl2.extBut t1.extBut (by walk_at"ne")).extBut t2.extBut (by walk_at"ne")).extBut t3.extBut (by walk_at"ne")) hy fun g4 u2 t4=>wpAny_pure ?_)
 have o4:IsTrip g4 (n+4) x b c:=t4.extBut _ _ (by walk_at"ne") o3
 refine wpAny_bind (wpAny_seqItems o4 rfl ?_)
 refine wpAny_bind (upd_trip o4 fun g5 o5 t5=>?_)
 replace o5:IsTrip g5 (n+4) x y c:=o5
 refine wpAny_bind (wpAny_letGo (wpAny_pure ?_))
 refine wpAny_bind (wpAny_bind (wpAny_onRaise ?_))
 show wpAny _ _ (Builtin.SmallTypes.nextOf (.ref (n+2)) >>= _) _ _ _
 refine wpAny_bind (wpAny_nextOf_list_item (((((h3.extBut t1.extBut (by walk_at"ne")).extBut t2.extBut (by walk_at"ne")).extBut t3.extBut (by walk_at"ne")).extBut t4.extBut (by walk_at"ne")).extBut t5.extBut (by walk_at"ne")) (((((hl3.extBut t1.extBut (by walk_at"ne")).extBut t2.extBut (by walk_at"ne")).extBut t3.extBut (by walk_at"ne")).extBut t4.extBut (by walk_at"ne")).extBut t5.extBut (by walk_at"ne")) hq fun g6 u3 t6=>wpAny_pure ?_)
 have o6:IsTrip g6 (n+4) x y c:=t6.extBut _ _ (by walk_at"ne") o5
 refine wpAny_bind (wpAny_seqItems o6 rfl ?_)
 refine wpAny_bind (upd_trip o6 fun g7 o7 t7=>?_)
 replace o7:IsTrip g7 (n+4) x y q:=o7
 refine wpAny_bind (wpAny_letGo (wpAny_pure (wpAny_pure ?_)))
 refine wpAny_bind (wpAny_seqItems o7 rfl ?_)
 refine wpAny_bind (wpAny_newTuple ?_)
 have hsz:g7.objs.size=s.heap.objs.size:=by rw [t7.1,t6.1,t5.1,t4.1,t3.1,t2.1,t1.1]
 have z7:IsZip g7 (n+5) (n+3) (n+4) .ellipsis:=t7.extBut _ _ (by walk_at"ne") (t6.extBut _ _ (by walk_at"ne") (t5.extBut _ _ (by walk_at"ne") (t4.extBut _ _ (by walk_at"ne") (t3.extBut _ _ (by walk_at"ne") (t2.extBut _ _ (by walk_at"ne") hz1)))))
 have hk7:∀ d o,d≠n->d≠n+1->d≠n+2->d≠n+4->d≠n+5->s.heap.get? d=some o->g7.get? d=some o:=fun d o d1 d2 d3 d4 d5 e =>
  t7.extBut _ _ d4 (t6.extBut _ _ d3 (t5.extBut _ _ d4 (t4.extBut _ _ d2 (t3.extBut _ _ d4 (t2.extBut _ _ d1 (t1.extBut _ _ d5 e))))))
 have v1:g7.IsListIter n l1 (k+1):=((((u1.extBut t3.extBut (by walk_at"ne")).extBut t4.extBut (by walk_at"ne")).extBut t5.extBut (by walk_at"ne")).extBut t6.extBut (by walk_at"ne")).extBut t7.extBut (by walk_at"ne")
 have v2:g7.IsListIter (n+1) l2 (k+1):=((u2.extBut t5.extBut (by walk_at"ne")).extBut t6.extBut (by walk_at"ne")).extBut t7.extBut (by walk_at"ne")
 have v3:g7.IsListIter (n+2) l3 (k+1):=u3.extBut t7.extBut (by walk_at"ne")
 have lz:n+5<g7.objs.size:=Heap.lt_size z7
 show wpAny _ _ (Builtin.SmallTypes.ownedTupleHandOut (.ref (n+5)) (.ref g7.objs.size) >>= _) _ _ _
 refine wpAny_bind ?_
 unfold Builtin.SmallTypes.ownedTupleHandOut
 have z8:IsZip (g7.push { cls:=.type "tuple", data:=.seq #[x,y,q] }) (n+5) (n+3) (n+4) .ellipsis:=Heap.get?_push_of_some _ z7
 refine wpAny_bind (wpAny_setField_rec z8 (by simp) fun g9 z9 t9=>?_)
 replace z9:IsZip g9 (n+5) (n+3) (n+4) (rawInt g7.objs.size):=z9
 refine wpAny_setField_rec z9 (by simp) fun g10 z10 t10=>?_
 replace z10:IsZip g10 (n+5) (n+3) (n+4) (rawInt g7.objs.size):=z10
 have up:∀ d o,d≠n+5->g7.get? d=some o->g10.get? d=some o:=fun d o d1 e=>t10.extBut _ _ d1 (t9.extBut _ _ d1 (Heap.get?_push_of_some _ e))
 have hT:IsTrip g10 g7.objs.size x y q:=t10.extBut _ _ (Nat.ne_of_gt lz) (t9.extBut _ _ (Nat.ne_of_gt lz) (Heap.get?_push_size _ rfl))
 rw [hsz] at z10 hT ⊢
 refine wpAny_pure ⟨_,rfl,?_⟩
 exact hQ g10 z10 (up _ _ (by walk_at"ne") o7) (v1.at fun o e=>up _ o (by walk_at"ne") e) (v2.at fun o e=>up _ o (by walk_at"ne") e) (v3.at fun o e=>up _ o (by walk_at"ne") e) hT fun d o d1 d2 d3 d4 d5 e=>up d o d5 (hk7 d o d1 d2 d3 d4 d5 e)
end
end L2
namespace L2
open PySem PySem.Spec PyProof.Rows
local macro_rules | `(tactic| walk_at"ne")=>`(tactic| (show @Ne Nat _ _; lia))
section
variable {prog:Program} {w:World} {A:Around} {E:Value->Shared->Prop} {s:Shared}
theorem zip3_end {n l1 l2 l3:Nat} {k:Nat} {xs ys zs:Array Value} {a b c:Value} {Q:Fin->Shared->Prop} (hh:A.handled=none) (n1:l1<n) (n2:l2<n) (n3:l3<n)
 (hz:IsZip s.heap (n+5) (n+3) (n+4) .none) (hTI:IsTrip s.heap (n+3) (.ref n) (.ref (n+1)) (.ref (n+2))) (hTO:IsTrip s.heap (n+4) a b c)
 (h1:s.heap.IsListIter n l1 k) (h2:s.heap.IsListIter (n+1) l2 k) (h3:s.heap.IsListIter (n+2) l3 k) (hl1:s.heap.IsList l1 xs) (hl2:s.heap.IsList l2 ys) (hl3:s.heap.IsList l3 zs) (hend:xs[k]? = none\/ys[k]? = none\/zs[k]? = none)
 (hE:∀ h' e,(∀ d o,d≠n->d≠n+1->d≠n+2->d≠n+4->d≠n+5->s.heap.get? d=some o->h'.get? d=some o)->(∃ o,h'.get? e=some o/\o.cls=.type "StopIteration")->E (.ref e) { s with heap:=h' }) :
 wpAny (model prog w) A (Builtin.«zip.__next__» ⟨[.ref (n+5)],[]⟩) Q E s:=by
 show wpAny _ _ (field (.ref (n+5)) 2 >>= _) _ _ _
 refine wpAny_bind (wpAny_field hz rfl (x:=.bool false) rfl ?_)
 show wpAny _ _ (field (.ref (n+5)) 3 >>= _) _ _ _
 refine wpAny_bind (wpAny_field hz rfl (x:=.ref (n+3)) rfl ?_)
 refine wpAny_bind (wpAny_seqItems hTI rfl ?_)
 show wpAny _ _ (Builtin.SmallTypes.ownedTupleIsFree (.ref (n+5)) >>= _) _ _ _
 refine wpAny_bind ?_
 unfold Builtin.SmallTypes.ownedTupleIsFree
 refine wpAny_bind (wpAny_field hz rfl (x:=.none) rfl (wpAny_pure ?_))
 simp only [if_true]
 refine wpAny_bind (wpAny_rule ?_)
 refine wpAny_bind (wpAny_field hz rfl (x:=.ref (n+4)) rfl ?_)
 refine wpAny_bind (wpAny_setField_rec hz (by simp) fun g1 hz1 t1=>?_)
 replace hz1:IsZip g1 (n+5) (n+3) (n+4) .ellipsis:=hz1
 refine wpAny_bind ?_
 simp only [List.zipIdx_cons,List.zipIdx_nil,List.forIn_cons,List.forIn_nil]
 refine wpAny_bind (wpAny_bind (wpAny_onRaise ?_))
 show wpAny _ _ (Builtin.SmallTypes.nextOf (.ref n) >>= _) _ _ _
 cases hx:xs[k]? with
 | none =>
   refine wpAny_bind (wpAny_nextOf_list_end hh (h1.extBut t1.extBut (by walk_at"ne")) (hl1.extBut t1.extBut (by walk_at"ne")) hx fun g2 e t2 he=>?_)
   obtain⟨oe,hoe,hce⟩:=he
   have hz2:IsZip g2 (n+5) (n+3) (n+4) .ellipsis:=t2 _ _ (by walk_at"ne") hz1
   have hez:e≠n+5:=fun x=>by subst x; rw [hz2] at hoe; cases hoe; simp at hce
   exact wpAny_setField_rec hz2 (by simp) fun g3 _ t3=>hE g3 e (fun d o d1 _ _ _ d5 x=>t3.extBut _ _ d5 (t2 _ _ d1 (t1.extBut _ _ d5 x))) ⟨oe,t3.extBut _ _ hez hoe,hce⟩
 | some x =>
   refine wpAny_bind (wpAny_nextOf_list_item (h1.extBut t1.extBut (by walk_at"ne")) (hl1.extBut t1.extBut (by walk_at"ne")) hx fun g2 u1 t2=>wpAny_pure ?_)
   have o2:IsTrip g2 (n+4) a b c:=t2.extBut _ _ (by walk_at"ne") (t1.extBut _ _ (by walk_at"ne") hTO)
   refine wpAny_bind (wpAny_seqItems o2 rfl ?_)
   refine wpAny_bind (upd_trip o2 fun g3 o3 t3=>?_)
   replace o3:IsTrip g3 (n+4) x b c:=o3
   refine wpAny_bind (wpAny_letGo (wpAny_pure ?_))
   refine wpAny_bind (wpAny_bind (wpAny_onRaise ?_))
   show wpAny _ _ (Builtin.SmallTypes.nextOf (.ref (n+1)) >>= _) _ _ _
   have zz3:IsZip g3 (n+5) (n+3) (n+4) .ellipsis:=t3.extBut _ _ (by walk_at"ne") (t2.extBut _ _ (by walk_at"ne") hz1)
   have k3:∀ d o,d≠n->d≠n+4->d≠n+5->s.heap.get? d=some o->g3.get? d=some o:=fun d o d1 d4 d5 e=>t3.extBut _ _ d4 (t2.extBut _ _ d1 (t1.extBut _ _ d5 e))
   have i2:g3.IsListIter (n+1) l2 k:=((h2.extBut t1.extBut (by walk_at"ne")).extBut t2.extBut (by walk_at"ne")).extBut t3.extBut (by walk_at"ne")
   have q2:g3.IsList l2 ys:=((hl2.extBut t1.extBut (by walk_at"ne")).extBut t2.extBut (by walk_at"ne")).extBut t3.extBut (by walk_at"ne")
   have i3:g3.IsListIter (n+2) l3 k:=((h3.extBut t1.extBut (by walk_at"ne")).extBut t2.extBut (by walk_at"ne")).extBut t3.extBut (by walk_at"ne")
   have q3:g3.IsList l3 zs:=((hl3.extBut t1.extBut (by walk_at"ne")).extBut t2.extBut (by walk_at"ne")).extBut t3.extBut (by walk_at"ne")
   cases hy:ys[k]? with
   | none =>
     refine wpAny_bind (wpAny_nextOf_list_end hh i2 q2 hy fun g4 e t4 he=>?_)
     obtain⟨oe,hoe,hce⟩:=he
     have hz4:IsZip g4 (n+5) (n+3) (n+4) .ellipsis:=t4 _ _ (by walk_at"ne") zz3
     have hez:e≠n+5:=fun x=>by subst x; rw [hz4] at hoe; cases hoe; simp at hce
     exact wpAny_setField_rec hz4 (by simp) fun g5 _ t5=>hE g5 e (fun d o d1 d2 _ d4 d5 x=>t5.extBut _ _ d5 (t4 _ _ d2 (k3 d o d1 d4 d5 x))) ⟨oe,t5.extBut _ _ hez hoe,hce⟩
   | some y =>
     have hq:zs[k]? = none:=by
      rcases hend with h | h | h
      ·rw [hx] at h; cases h
      ·rw [hy] at h; cases h
      ·exact h
     refine wpAny_bind (wpAny_nextOf_list_item i2 q2 hy fun g4 u2 t4=>wpAny_pure ?_)
     have o4:IsTrip g4 (n+4) x b c:=t4.extBut _ _ (by walk_at"ne") o3
     refine wpAny_bind (wpAny_seqItems o4 rfl ?_)
     refine wpAny_bind (upd_trip o4 fun g5 o5 t5=>?_)
     refine wpAny_bind (wpAny_letGo (wpAny_pure ?_))
     refine wpAny_bind (wpAny_bind (wpAny_onRaise ?_))
     show wpAny _ _ (Builtin.SmallTypes.nextOf (.ref (n+2)) >>= _) _ _ _
     refine wpAny_bind (wpAny_nextOf_list_end hh ((i3.extBut t4.extBut (by walk_at"ne")).extBut t5.extBut (by walk_at"ne")) ((q3.extBut t4.extBut (by walk_at"ne")).extBut t5.extBut (by walk_at"ne")) hq fun g6 e t6 he=>?_)
     obtain⟨oe,hoe,hce⟩:=he
     have hz6:IsZip g6 (n+5) (n+3) (n+4) .ellipsis:=t6 _ _ (by walk_at"ne") (t5.extBut _ _ (by walk_at"ne") (t4.extBut _ _ (by walk_at"ne") zz3))
     have hez:e≠n+5:=fun x=>by subst x; rw [hz6] at hoe; cases hoe; simp at hce
     exact wpAny_setField_rec hz6 (by simp) fun g7 _ t7=>hE g7 e (fun d o d1 d2 d3 d4 d5 x=>t7.extBut _ _ d5 (t6 _ _ d3 (t5.extBut _ _ d4 (t4.extBut _ _ d2 (k3 d o d1 d4 d5 x))))) ⟨oe,t7.extBut _ _ hez hoe,hce⟩
theorem next_zip3 {n l1 l2 l3:Nat} {k:Nat} {xs ys zs:Array Value} {x y q a b c:Value} {Q:Option Value->Shared->Prop} (n1:l1<n) (n2:l2<n) (n3:l3<n)
 (hz:IsZip s.heap (n+5) (n+3) (n+4) .none) (hTI:IsTrip s.heap (n+3) (.ref n) (.ref (n+1)) (.ref (n+2))) (hTO:IsTrip s.heap (n+4) a b c)
 (h1:s.heap.IsListIter n l1 k) (h2:s.heap.IsListIter (n+1) l2 k) (h3:s.heap.IsListIter (n+2) l3 k) (hl1:s.heap.IsList l1 xs) (hl2:s.heap.IsList l2 ys) (hl3:s.heap.IsList l3 zs) (hx:xs[k]? = some x) (hy:ys[k]? = some y) (hq:zs[k]? = some q)
 (hQ:∀ h',IsZip h' (n+5) (n+3) (n+4) (rawInt s.heap.objs.size)->IsTrip h' (n+4) x y q->h'.IsListIter n l1 (k+1)->h'.IsListIter (n+1) l2 (k+1)->h'.IsListIter (n+2) l3 (k+1)->IsTrip h' s.heap.objs.size x y q ->
  (∀ d o,d≠n->d≠n+1->d≠n+2->d≠n+4->d≠n+5->s.heap.get? d=some o->h'.get? d=some o)->Q (some (.ref s.heap.objs.size)) { s with heap:=h' }) :
 wpAny (model prog w) A (pyNext (.ref (n+5))) Q E s:=by
 have hT:s.TypeIs (.ref (n+5)) "zip" := ⟨_,hz,rfl⟩
 unfold pyNext
 exact wpAny_bind (wpAny_attempt (wpAny_callSpecial?_slot (name:=Str.ofString "__next__") hT F.slot_zip_next
  (wpAny_call_entry F.slot_zip_next hT F.entry_zip_next
   (zip3_item n1 n2 n3 hz hTI hTO h1 h2 h3 hl1 hl2 hl3 hx hy hq fun h' a1 a2 a3 a4 a5 a6 a7=>wpAny_pure (hQ h' a1 a2 a3 a4 a5 a6 a7)) (F.args_zip_next_1 _))))
theorem next_zip3_end {n l1 l2 l3:Nat} {k:Nat} {xs ys zs:Array Value} {a b c:Value} {Q:Option Value->Shared->Prop} (hh:A.handled=none) (n1:l1<n) (n2:l2<n) (n3:l3<n)
 (hz:IsZip s.heap (n+5) (n+3) (n+4) .none) (hTI:IsTrip s.heap (n+3) (.ref n) (.ref (n+1)) (.ref (n+2))) (hTO:IsTrip s.heap (n+4) a b c)
 (h1:s.heap.IsListIter n l1 k) (h2:s.heap.IsListIter (n+1) l2 k) (h3:s.heap.IsListIter (n+2) l3 k) (hl1:s.heap.IsList l1 xs) (hl2:s.heap.IsList l2 ys) (hl3:s.heap.IsList l3 zs) (hend:xs[k]? = none\/ys[k]? = none\/zs[k]? = none)
 (hQ:∀ h',(∀ d o,d≠n->d≠n+1->d≠n+2->d≠n+4->d≠n+5->s.heap.get? d=some o->h'.get? d=some o)->Q none { s with heap:=h' }):wpAny (model prog w) A (pyNext (.ref (n+5))) Q E s:=by
 have hT:s.TypeIs (.ref (n+5)) "zip" := ⟨_,hz,rfl⟩
 unfold pyNext
 refine wpAny_bind (wpAny_attempt (wpAny_callSpecial?_slot (name:=Str.ofString "__next__") hT F.slot_zip_next
  (wpAny_call_entry F.slot_zip_next hT F.entry_zip_next (zip3_end hh n1 n2 n3 hz hTI hTO h1 h2 h3 hl1 hl2 hl3 hend fun h' e hk he=>?_) (F.args_zip_next_1 _))))
 obtain⟨o,ho,hc⟩:=he
 refine wpAny_bind (wpAny_isInstance (T := "StopIteration") (b:=true) ⟨o,ho,hc⟩ isSubtype_stop ?_)
 exact wpAny_pure (hQ _ hk)
end
theorem typeCall_zip3 (a b c:Value):checkTypeCall "zip" ⟨[a,b,c],[]⟩=pure ():=by kernel_rfl
theorem newCall_zip3 (a b c:Value):checkBuiltinCall "zip.__new__" ⟨[.type "zip", a,b,c],[]⟩=pure ():=by kernel_rfl
theorem initArgs4 (o a b c:Value):argsOk "object.__init__" ⟨[o,a,b,c],[]⟩:=by
 unfold argsOk; rw [signature?_of (id := "object.__init__") (n:=['_','_','t','i','n','i','_','_']) (o:=['t','c','e','j','b','o']) (by kernel_rfl) PySem.F.owner_object]; kernel_rfl
abbrev z3H1 (h:Heap) (l1:Addr):Heap:=h.push { cls:=.type "list_iterator", data:=.fields #[.ref l1,.int 0 0] }
abbrev z3H2 (h:Heap) (l1 l2:Addr):Heap:=(z3H1 h l1).push { cls:=.type "list_iterator", data:=.fields #[.ref l2,.int 0 0] }
abbrev z3H3 (h:Heap) (l1 l2 l3:Addr):Heap:=(z3H2 h l1 l2).push { cls:=.type "list_iterator", data:=.fields #[.ref l3,.int 0 0] }
abbrev z3H4 (h:Heap) (l1 l2 l3:Addr):Heap:=(z3H3 h l1 l2 l3).push { cls:=.type "tuple", data:=.seq #[.ref h.objs.size,.ref (z3H1 h l1).objs.size,.ref (z3H2 h l1 l2).objs.size] }
abbrev z3H5 (h:Heap) (l1 l2 l3:Addr):Heap:=(z3H4 h l1 l2 l3).push { cls:=.type "tuple", data:=.seq #[.none,.none,.none] }
abbrev z3H6 (h:Heap) (l1 l2 l3:Addr):Heap:=(z3H5 h l1 l2 l3).push { cls:=.type "zip", data:=.fields #[.none,.bool false,.bool false,.ref (z3H3 h l1 l2 l3).objs.size,.ref (z3H4 h l1 l2 l3).objs.size] }
set_option maxHeartbeats 4000000 in
theorem meets_zip3 (l1 l2 l3:Addr) (xs ys zs:Array Value) :
 Meets (Builtin.«zip.__new__» ⟨[.type "zip", .ref l1,.ref l2,.ref l3],[]⟩) (fun _ R s=>s.heap.IsList l1 xs/\s.heap.IsList l2 ys/\s.heap.IsList l3 zs /\
  R (.ok (.ret (.ref (z3H5 s.heap l1 l2 l3).objs.size))) { s with heap:=z3H6 s.heap l1 l2 l3 }) :=
 .of_wp fun prog w A R s h=>by
  obtain⟨hp,g,d,tk,os⟩:=s; obtain⟨hl1,hl2,hl3,h⟩:=h
  have hsub:=sub_zip
  have hL1:Heap.IsList (Shared.heap ⟨hp,g,d,tk,os⟩) l1 xs:=hl1
  have hL2:Heap.IsList (Shared.heap ⟨hp.push { cls:=.type "list_iterator", data:=.fields #[.ref l1,.int 0 0] },g,d,tk,os⟩) l2 ys:=Heap.IsList.push hl2 _
  have hL3:Heap.IsList (Shared.heap ⟨(hp.push { cls:=.type "list_iterator", data:=.fields #[.ref l1,.int 0 0] }).push { cls:=.type "list_iterator", data:=.fields #[.ref l2,.int 0 0] },g,d,tk,os⟩) l3 zs:=Heap.IsList.push (Heap.IsList.push hl3 _) _
  wp_walk using wpAny_pyIter_list hL1,wpAny_pyIter_list hL2,wpAny_pyIter_list hL3
  exact⟨_,rfl,h⟩
section
variable {prog:Program} {w:World} {A:Around} {E:Value->Shared->Prop} {s:Shared}
theorem call_zip3 {l1 l2 l3:Addr} {xs ys zs:Array Value} {Q:Value->Shared->Prop} (hl1:s.heap.IsList l1 xs) (hl2:s.heap.IsList l2 ys) (hl3:s.heap.IsList l3 zs)
 (h:∀ h',IsZip h' (s.heap.objs.size+5) (s.heap.objs.size+3) (s.heap.objs.size+4) .none->IsTrip h' (s.heap.objs.size+3) (.ref s.heap.objs.size) (.ref (s.heap.objs.size+1)) (.ref (s.heap.objs.size+2)) ->
  IsTrip h' (s.heap.objs.size+4) .none .none .none->h'.IsListIter s.heap.objs.size l1 0->h'.IsListIter (s.heap.objs.size+1) l2 0->h'.IsListIter (s.heap.objs.size+2) l3 0 ->
  (∀ c o,s.heap.get? c=some o->h'.get? c=some o)->Q (.ref (s.heap.objs.size+5)) { s with heap:=h' }) :
 wpAny (model prog w) A (call (.type "zip") [.ref l1,.ref l2,.ref l3]) Q E s:=by
 refine callType_new F.called_zip (by decide) (typeCall_zip3 _ _ _) (newCall_zip3 _ _ _) (fun obj=>initArgs4 obj _ _ _) F.entry_zip_new
  (meets_zip3 l1 l2 l3 xs ys zs) ⟨hl1,hl2,hl3,?_⟩
 have z1:(z3H1 s.heap l1).objs.size=s.heap.objs.size+1:=Heap.size_push ..
 have z2:(z3H2 s.heap l1 l2).objs.size=s.heap.objs.size+2:=by rw [Heap.size_push,z1]
 have z3:(z3H3 s.heap l1 l2 l3).objs.size=s.heap.objs.size+3:=by rw [Heap.size_push,z2]
 have z4:(z3H4 s.heap l1 l2 l3).objs.size=s.heap.objs.size+4:=by rw [Heap.size_push,z3]
 have z5:(z3H5 s.heap l1 l2 l3).objs.size=s.heap.objs.size+5:=by rw [Heap.size_push,z4]
 have g6:(z3H6 s.heap l1 l2 l3).get? (z3H5 s.heap l1 l2 l3).objs.size=some _:=Heap.get?_push_size _ rfl
 have g5:(z3H6 s.heap l1 l2 l3).get? (z3H4 s.heap l1 l2 l3).objs.size=some _:=Heap.get?_push_of_some _ (Heap.get?_push_size _ rfl)
 have g4:(z3H6 s.heap l1 l2 l3).get? (z3H3 s.heap l1 l2 l3).objs.size=some _:=Heap.get?_push_of_some _ (Heap.get?_push_of_some _ (Heap.get?_push_size _ rfl))
 have g3:(z3H6 s.heap l1 l2 l3).get? (z3H2 s.heap l1 l2).objs.size=some _:=Heap.get?_push_of_some _ (Heap.get?_push_of_some _ (Heap.get?_push_of_some _ (Heap.get?_push_size _ rfl)))
 have g2:(z3H6 s.heap l1 l2 l3).get? (z3H1 s.heap l1).objs.size=some _:=Heap.get?_push_of_some _ (Heap.get?_push_of_some _ (Heap.get?_push_of_some _ (Heap.get?_push_of_some _ (Heap.get?_push_size _ rfl))))
 have g1:(z3H6 s.heap l1 l2 l3).get? s.heap.objs.size=some _:=Heap.get?_push_of_some _ (Heap.get?_push_of_some _ (Heap.get?_push_of_some _ (Heap.get?_push_of_some _ (Heap.get?_push_of_some _ (Heap.get?_push_size _ rfl)))))
 show _/\_
 rw [z3,z4,z5] at g6
 rw [z4] at g5
 rw [z1,z2,z3] at g4
 rw [z2] at g3
 rw [z1] at g2
 rw [z5]
 exact⟨⟨_,g6,rfl⟩,h _ g6 g4 g5 ⟨_,g1,rfl,rfl⟩ ⟨_,g2,rfl,rfl⟩ ⟨_,g3,rfl,rfl⟩ fun c o x =>
  Heap.get?_push_of_some _ (Heap.get?_push_of_some _ (Heap.get?_push_of_some _ (Heap.get?_push_of_some _ (Heap.get?_push_of_some _ (Heap.get?_push_of_some _ x)))))⟩
end
def It3 (K:PySem.W.Frag) (a b c:Addr):It :=
 ⟨fun i H=>∃ xs ys zs x y q,SqL K H a xs/\SqL K H b ys/\SqL K H c zs/\xs[i]? = some x/\ys[i]? = some y/\zs[i]? = some q,
  fun i H v H'=>∃ T x y q,v=.ref T/\H T=none/\H'=upd H T (.tup [x,y,q])/\(∀ xs,SqL K H a xs->xs[i]? = some x)/\(∀ ys,SqL K H b ys->ys[i]? = some y)/\∀ zs,SqL K H c zs->zs[i]? = some q,
  fun i H=>∃ xs ys zs,SqL K H a xs/\SqL K H b ys/\SqL K H c zs/\(xs.length<=i\/ys.length<=i\/zs.length<=i)⟩
def Zip3St (n a b c:Nat) (i:Nat) (h:Heap):Prop:=IsZip h (n+5) (n+3) (n+4) .none/\IsTrip h (n+3) (.ref n) (.ref (n+1)) (.ref (n+2))/\(∃ u v w,IsTrip h (n+4) u v w)/\h.IsListIter n a i/\h.IsListIter (n+1) b i/\h.IsListIter (n+2) c i
theorem turn_zip3 {P:Program} {w:World} {K:PySem.W.Frag} {elts:List Expr} {kk:Nat} {tp:Pos} {n a b c:Nat} (n1:a<n) (n2:b<n) (n3:c<n) :
 Turn P w K (.Tuple elts kk tp) (It3 K a b c) [n+5,n+3,n+4,n,n+1,n+2] (n+5) (Zip3St n a b c) where
 mem:=by simp
 obj:=fun i h st d hd=>by
  obtain⟨h1,h2,⟨u,v,w',h3⟩,⟨o1,e1,_,d1⟩,⟨o2,e2,_,d2⟩,⟨o3,e3,_,d3⟩⟩:=st
  simp only [List.mem_cons,List.not_mem_nil,or_false] at hd
  rcases hd with rfl | rfl | rfl | rfl | rfl | rfl
  ·exact⟨_,h1,fun v z=>by cases (show Data.fields _=Data.cell v from z)⟩
  ·exact⟨_,h2,fun v z=>by cases (show Data.seq _ _=Data.cell v from z)⟩
  ·exact⟨_,h3,fun v z=>by cases (show Data.seq _ _=Data.cell v from z)⟩
  ·exact⟨_,e1,fun v z=>by rw [d1] at z; cases z⟩
  ·exact⟨_,e2,fun v z=>by rw [d2] at z; cases z⟩
  ·exact⟨_,e3,fun v z=>by rw [d3] at z; cases z⟩
 keep:=fun i h h' st k=>by
  obtain⟨h1,h2,⟨u,v,w',h3⟩,h4,h5,h6⟩:=st
  exact⟨k _ (by simp) _ h1,k _ (by simp) _ h2,⟨u,v,w',k _ (by simp) _ h3⟩,h4.at fun o e=>k _ (by simp) o e,h5.at fun o e=>k _ (by simp) o e,h6.at fun o e=>k _ (by simp) o e⟩
 item:=by
  walk_at"z6"
  subst hP hw hK
  obtain⟨xs,ys,zs,x,y,q,hx,hy,hq,ex,ey,eq⟩:=hg
  obtain⟨h1,h2,⟨u,v,w',h3⟩,h4,h5,h6⟩:=st
  obtain⟨its,rv,p,hz⟩:=I.list hx
  obtain⟨jts,rw',p',hz'⟩:=I.list hy
  obtain⟨kts,rk,p'',hz''⟩:=I.list hq
  obtain⟨ux,hux,rux⟩:=rv.get ex
  obtain⟨uy,huy,ruy⟩:=rw'.get ey
  obtain⟨uq,huq,ruq⟩:=rk.get eq
  refine next_zip3 n1 n2 n3 h1 h2 h3 h4 h5 h6 p.isList p'.isList p''.isList (x:=ux) (y:=uy) (q:=uq) (by simpa using hux) (by simpa using huy) (by simpa using huq) fun h' a1 a2 a3 a4 a5 a6 a7=>?_
  have ln:n+5<s.heap.objs.size:=Heap.lt_size h1
  have lt:∀ d∈[n+5,n+3,n+4,n,n+1,n+2],d<s.heap.objs.size:=fun d hd=>by
   simp only [List.mem_cons,List.not_mem_nil,or_false] at hd
   rcases hd with rfl | rfl | rfl | rfl | rfl | rfl <;> lia
  refine⟨_,rfl,wpAny_letOwnedTupleGo_zip a1 fun h2' b1 b2=>?_⟩
  have hk:∀ d o,d ∉ [n+5,n+3,n+4,n,n+1,n+2]->s.heap.get? d=some o->h2'.get? d=some o:=fun d o hd e=>by
   simp only [List.mem_cons,List.not_mem_nil,or_false,not_or] at hd
   exact (b2.2 d hd.1).trans (a7 d o hd.2.2.2.1 hd.2.2.2.2.1 hd.2.2.2.2.2 hd.2.2.1 hd.1 e)
  have I1:=I.turnT (h':=h2') (t':=s.toks) (T:=s.heap.objs.size) (xs:=[x,y,q]) (its:=[ux,uy,uq]) hf hk (Nat.le_refl _) (szl (Nat.le_of_ble_eq_true rfl)) (.cons rux (.cons ruy (.cons ruq .nil))) ⟨_,(b2.2 _ (by show @Ne Nat _ _; lia)).trans a6,rfl,_,rfl⟩
  refine⟨.ref s.heap.objs.size,_,I1,rfl,⟨_,x,y,q,rfl,I.hok.fresh (Nat.le_refl _),rfl,fun xs' h=>by rw [I.list_inj h hx]; exact ex,fun ys' h=>by rw [I.list_inj h hy]; exact ey,fun zs' h=>by rw [I.list_inj h hq]; exact eq⟩,?_,fun d hd=>?_⟩
  ·exact⟨b1,(b2.2 _ (by show @Ne Nat _ _; lia)).trans (a7 _ _ (by show @Ne Nat _ _; lia) (by show @Ne Nat _ _; lia) (by show @Ne Nat _ _; lia) (by show @Ne Nat _ _; lia) (by show @Ne Nat _ _; lia) h2),⟨_,_,_,(b2.2 _ (by show @Ne Nat _ _; lia)).trans a2⟩,a3.at fun o e=>(b2.2 _ (by show @Ne Nat _ _; lia)).trans e,a4.at fun o e=>(b2.2 _ (by show @Ne Nat _ _; lia)).trans e,a5.at fun o e=>(b2.2 _ (by show @Ne Nat _ _; lia)).trans e⟩
  ·rw [upd_ne (Nat.ne_of_lt (lt d hd))]
   exact (hf d hd).1
 done:=by
  walk_at"z6"
  subst hP hw hK
  obtain⟨xs,ys,zs,hx,hy,hq,hl⟩:=hg
  obtain⟨h1,h2,⟨u,v,w',h3⟩,h4,h5,h6⟩:=st
  obtain⟨its,rv,p,hz⟩:=I.list hx
  obtain⟨jts,rw',p',hz'⟩:=I.list hy
  obtain⟨kts,rk,p'',hz''⟩:=I.list hq
  have l1:=rv.length
  have l2:=rw'.length
  have l3:=rk.length
  refine next_zip3_end (I.ok.hd hc) n1 n2 n3 h1 h2 h3 h4 h5 h6 p.isList p'.isList p''.isList ?_ fun h' hk=>⟨rfl,?_⟩
  ·rcases hl with hl | hl | hl
   ·left; simp; lia
   ·right; left; simp; lia
   ·right; right; simp; lia
  ·exact I.turnedL (t':=s.toks) hf fun d o hd e=>by
    simp only [List.mem_cons,List.not_mem_nil,or_false,not_or] at hd
    exact hk d o hd.2.2.2.1 hd.2.2.2.2.1 hd.2.2.2.2.2 hd.2.2.1 hd.1 e
 self:=fun A i s Q E st h=>wpAny_pyIter_zip st.1 h
def iZip3 (K:PySem.W.Frag) (ta:TA):TI:=fun σ H R=>ta σ H fun vs H1=>∃ a b c,vs=[.ref a,.ref b,.ref c]/\(∃ xs,SqL K H1 a xs)/\(∃ ys,SqL K H1 b ys)/\(∃ zs,SqL K H1 c zs)/\R (It3 K a b c) H1
section
variable {X:Cx} {elts:List Expr} {kk:Nat} {tp:Pos}
theorem pi_zip3 {a b c:Expr} {ta:TA} {p pos:Pos} (hg:Gl X "zip") (hm:X.mg "zip" = none) (ha:PA X [a,b,c] ta) (hs:starEach [a,b,c] X.env=[(false,eval a X.env),(false,eval b X.env),(false,eval c X.env)]:=by rfl) (hs2:starEach [b,c] X.env=[(false,eval b X.env),(false,eval c X.env)]:=by rfl) :
 PI X (.Tuple elts kk tp) (.Call (.Name "zip" p) [a,b,c] [] pos) (iZip3 X.K ta):=by
 intro pins s σ H R I h
 refine Call_ (ld_blt I hg hm bt_zip (PyProof.Rows.callWith_type1 (thn (ha pos pins s σ H _ I h) fun us s1 ⟨vs,H1,I1,r1,q1⟩=>?_) (by rw [hs,hs2]) (by rw [hs2]; rfl)))
 obtain⟨x,y,q,e,⟨xs,hx⟩,⟨ys,hy⟩,⟨zs,hq⟩,R1⟩:=q1
 subst e
 cases r1 with
 | cons r rr =>
   cases rr with
   | cons r' rr =>
     cases rr with
     | cons r'' rr =>
       cases rr
       obtain⟨its,rv,pl,hz⟩:=I1.list hx
       obtain⟨jts,rw',ql,hz'⟩:=I1.list hy
       obtain⟨kts,rk,kl,hz''⟩:=I1.list hq
       cases r
       cases r'
       cases r''
       have a1:x<s1.heap.objs.size:=by obtain⟨_,e,_⟩:=pl.isList; exact Heap.lt_size e
       have a2:y<s1.heap.objs.size:=by obtain⟨_,e,_⟩:=ql.isList; exact Heap.lt_size e
       have a3:q<s1.heap.objs.size:=by obtain⟨_,e,_⟩:=kl.isList; exact Heap.lt_size e
       refine call_zip3 pl.isList ql.isList kl.isList fun h' b1 b2 b3 b4 b5 b6 b7=>?_
       have I2:Inv X pins σ H1 { s1 with heap:=h' }:=I1.kept (t':=s1.toks) b7
       refine wpAny_pyIter_zip (s:={ s1 with heap:=h' }) b1 ⟨_,_,_,_,H1,rfl,I2,turn_zip3 a1 a2 a3,⟨b1,b2,⟨_,_,_,b3⟩,b4,b5,b6⟩,fun c hc=>?_,R1⟩
       have hc':s1.heap.objs.size<=c:=by
        walk_at"z10"
        rcases hc with rfl | rfl | rfl | rfl | rfl | rfl
        ·exact Nat.le_add_right _ _
        ·exact Nat.le_add_right _ _
        ·exact Nat.le_add_right _ _
        ·exact Nat.le_refl _
        ·exact Nat.le_add_right _ _
        ·exact Nat.le_add_right _ _
       exact I1.fpOk hc' (I1.hok.fresh hc')
theorem pi_zip3K (K:PySem.W.Frag) {a b c:Expr} {ta:TA} {p pos:Pos} (hg:Gl X "zip") (hm:X.mg "zip" = none) (ha:PA X [a,b,c] ta) (hs:starEach [a,b,c] X.env=[(false,eval a X.env),(false,eval b X.env),(false,eval c X.env)]:=by rfl) (hs2:starEach [b,c] X.env=[(false,eval b X.env),(false,eval c X.env)]:=by rfl)
 (hK:X.K=K:=by rfl):PI X (.Tuple elts kk tp) (.Call (.Name "zip" p) [a,b,c] [] pos) (iZip3 K ta):=by subst hK; exact pi_zip3 hg hm ha hs hs2
end
section
variable {K:PySem.W.Frag} {g:TG} {ti:TT} {te:TE} {σc:St} {H:Hp} {Q:VK}
theorem cp_zip3 {a b c:Addr} {xs ys ws:List V} (Pv:Nat->List V->Hp->Prop) (h0:Pv 0 [] H) (hl:∀ i zs H,Pv i zs H->SqL K H a xs/\SqL K H b ys/\SqL K H c ws/\zs.length<=i) (hx:min xs.length (min ys.length ws.length)<sizeLine)
 (hs:∀ i x y q T zs H,xs[i]? = some x->ys[i]? = some y->ws[i]? = some q->Pv i zs H->H T=none->g (.ref T) σc (upd H T (.tup [x,y,q])) fun σ2 H2=>ti σ2 H2 fun b H3=>if b=true then te σ2 H3 fun y H4=>Pv (i+1) (zs++[y]) H4 else Pv (i+1) zs H3)
 (hd:∀ l zs H,Pv (min xs.length (min ys.length ws.length)) zs H->H l=none->Q (.ref l) (upd H l (.lst zs))):CompI (It3 K a b c) g ti te σc H Q:=by
 refine⟨fun i m zs H=>m=min xs.length (min ys.length ws.length) - i/\i<=min xs.length (min ys.length ws.length)/\Pv i zs H,⟨_,rfl,Nat.zero_le _,h0⟩,?_⟩
 rintro i m zs H ⟨rfl,hi,p⟩
 obtain⟨q1,q2,q3,hy⟩:=hl i zs H p
 refine⟨by lia,?_⟩
 by_cases hlt:i<min xs.length (min ys.length ws.length)
 ·have l1:i<xs.length:=by lia
  have l2:i<ys.length:=by lia
  have l3:i<ws.length:=by lia
  refine .inr ⟨⟨xs,ys,ws,xs[i],ys[i],ws[i],q1,q2,q3,by simp [l1],by simp [l2],by simp [l3]⟩,Pv (i+1),fun σ' H' p'=>⟨_,by lia,rfl,hlt,p'⟩,fun x H' y=>?_⟩
  obtain⟨T,x1,y1,z1,rfl,hT,rfl,ex,ey,ez⟩:=y
  exact hs i x1 y1 z1 T zs H (ex xs q1) (ey ys q2) (ez ws q3) p hT
 ·have e:i=min xs.length (min ys.length ws.length):=by lia
  exact .inl ⟨⟨xs,ys,ws,q1,q2,q3,by lia⟩,fun l hl=>hd l zs H (by rw [<- e]; exact p) hl⟩
end
end L2
namespace M
abbrev WSt:=Int×List Int×List Int
def fart:List Int->List Int->List Int->List Int
 | y :: ys,a :: as,p :: ps=>(y+ab (p - a)) :: fart ys as ps
 | _,_,_=>[]
def nx (ps:List Int) (s:WSt) (c:Int):WSt:=(c,dragAll ps s.2.1 c,fart s.2.2 s.2.1 (dragAll ps s.2.1 c))
theorem fart_len:∀ (ys as ps:List Int),(fart ys as ps).length=min ys.length (min as.length ps.length)
 | [],as,ps=>by simp [fart]
 | y :: ys,[],ps=>by simp [fart]
 | y :: ys,a :: as,[]=>by simp [fart]
 | y :: ys,a :: as,p :: ps=>by simp only [fart,List.length_cons,fart_len ys as ps]; lia
theorem fart_get:∀ (ys as ps:List Int) (k:Nat) {y a p:Int},ys[k]? = some y->as[k]? = some a->ps[k]? = some p->(fart ys as ps)[k]? = some (y+ab (p - a))
 | [],as,ps,k,y,a,p,h,_,_=>by simp at h
 | y0 :: ys,[],ps,k,y,a,p,_,h,_=>by simp at h
 | y0 :: ys,a0 :: as,[],k,y,a,p,_,_,h=>by simp at h
 | y0 :: ys,a0 :: as,p0 :: ps,0,y,a,p,h1,h2,h3=>by
   simp at h1 h2 h3
   subst h1 h2 h3
   rfl
 | y0 :: ys,a0 :: as,p0 :: ps,k+1,y,a,p,h1,h2,h3=>by
   simp only [List.getElem?_cons_succ] at h1 h2 h3
   simpa only [fart,List.getElem?_cons_succ] using fart_get ys as ps k h1 h2 h3
theorem fart_take (ys as ps:List Int) (i:Nat) {y a p:Int} (h1:ys[i]? = some y) (h2:as[i]? = some a) (h3:ps[i]? = some p):(fart ys as ps).take (i+1)=(fart ys as ps).take i++[y+ab (p - a)]:=take_snoc_get (fart_get ys as ps i h1 h2 h3)
end M
namespace L2
open PySem PySem.Spec PyProof.Rows
section
variable {prog:Program} {w:World} {A:Around} {E:Value->Shared->Prop} {s:Shared}
theorem isList_ext {h h':Heap} {l b:Addr} {items:Array Value} (x:h.IsList l items) (e:Heap.ExtBut b h h') (n:l≠b):h'.IsList l items:=by
 obtain⟨o,ho,r⟩:=x
 exact⟨o,e l o n ho,r⟩
theorem draw_list {it t:Addr} {items:Array Value} (hne:t≠it):∀ (n i:Nat) (s:Shared) (Q:List Value->Shared->Prop),s.heap.IsListIter it t i->s.heap.IsList t items->i+n<=items.size ->
 (∀ h',h'.IsListIter it t (i+n)->Heap.SameBut it s.heap h'->Q ((items.toList.drop i).take n) { s with heap:=h' })->wpAny (model prog w) A (draw (.ref it) n) Q E s
 | 0,i,s,Q,hit,_,_,hQ=>by
   show wpAny _ _ (pure []) Q E s
   exact wpAny_pure (by simpa using hQ s.heap hit (Heap.SameBut.refl ..))
 | n+1,i,s,Q,hit,ht,hle,hQ=>by
   have hlt:i<items.size:=by lia
   show wpAny _ _ (pyNext (.ref it) >>= _) Q E s
   refine wpAny_bind (wpAny_pyNext_list_item hit ht (x:=items[i]) (by simp [hlt]) fun h₁ hit₁ hs₁=>?_)
   refine wpAny_bind (wpAny_holding (draw_list hne n (i+1) _ _ hit₁ (isList_ext ht hs₁.extBut hne) (by lia) fun h₂ hit₂ hs₂=>wpAny_pure ?_))
   have hd:items.toList.drop i=items[i] :: items.toList.drop (i+1):=by simp [List.drop_eq_getElem_cons,hlt]
   have:=hQ h₂ (by rw [show i+(n+1)=i+1+n by lia]; exact hit₂) (hs₁.trans hs₂)
   rw [hd,List.take_succ_cons] at this
   exact this
end
section
variable {X:Cx} {pos:Pos}
def gLst (K:PySem.W.Frag) (n:Nat) (t:TGs):TG:=fun v σ H Q=>∃ a xs,v=.ref a/\SqL K H a xs/\xs.length=n/\t xs σ H Q
end
end L2
namespace L2
open PySem PySem.Spec PyProof.Rows
section
variable {prog:Program} {w:World} {A:Around} {E:Value->Shared->Prop} {s:Shared}
theorem unpackItems_star {t:Addr} {items:Array Value} {i:Nat} {Q:List Value->Shared->Prop} (hh:A.handled=none) (ht:s.heap.IsList t items) (hi:i<=items.size) (hz:items.size<=sizeLine)
 (hQ:∀ h' tk,Heap.ExtBut s.heap.objs.size s.heap h'->Q (items.toList.take i++[.ref h'.objs.size]) { s with heap:=h'.push { cls:=.type "list", data:=.seq (items.toList.drop i).toArray },toks:=tk }) :
 wpAny (model prog w) A (unpackItems (.ref t) (i+1) (some i)) Q E s:=by
 have hlt:t≠s.heap.objs.size:=by obtain⟨o,ho,_⟩:=ht; exact Nat.ne_of_lt (Heap.lt_size ho)
 have push:∀ o,(s.heap.push o).IsList t items:=fun o=>by
  obtain⟨ob,ho,r⟩:=ht
  exact⟨ob,Heap.get?_push_of_some _ ho,r⟩
 unfold unpackItems
 refine wpAny_bind ?_
 unfold notIterableAtAll
 refine wpAny_bind (wpAny_specialOf ht.typeIs slot_list_iter.lookup ?_)
 refine wpAny_pure ?_
 simp only [Bool.false_eq_true,if_false]
 refine wpAny_bind (wpAny_holding (wpAny_pyIter_list ht ?_))
 refine wpAny_bind (wpAny_holding (draw_list hlt i 0 _ _ ⟨_,Heap.get?_push_size _ rfl,rfl,rfl⟩ (push _) (by lia) fun h₁ hit₁ hs₁=>?_))
 have ht₁:h₁.IsList t items:=isList_ext (push _) hs₁.extBut hlt
 rw [Nat.zero_add] at hit₁
 obtain⟨oi,hoi,_⟩:=id hit₁
 obtain⟨ol,hol,_⟩:=id ht₁
 rw [List.drop_zero]
 have hfl:(items.toList.take i).length=i:=by rw [List.length_take,Array.length_toList]; lia
 rw [if_neg (show ¬ ((items.toList.take i).length<i) by rw [hfl]; lia)]
 refine wpAny_bind (wpAny_holding (PySem.W.kun_collect (s:={ s with heap:=h₁ }) (T := "list_iterator") (.inr (.inr (.inl rfl))) (Walks.list (A:=A.in1) hh s.heap.objs.size t hlt items) (fun j u st=>st.1.typeIs) (k:=i) (by lia) ⟨hit₁,ht₁⟩ (Heap.lt_size hoi) (Heap.lt_size hol) (fun h₂ tk hk=>?_) hz))
 have hrl:(items.toList.drop i).length=items.size - i:=by rw [List.length_drop,Array.length_toList]
 show wpAny _ _ (if (items.toList.drop i).length<i+1 - 1 - i then _ else _) _ _ _
 rw [if_neg (by lia)]
 show wpAny _ _ (newList ((items.toList.drop i).take ((items.toList.drop i).length - (i+1 - 1 - i))) >>= fun d=>pure (items.toList.take i++[d]++(items.toList.drop i).drop ((items.toList.drop i).length - (i+1 - 1 - i)))) _ _ _
 have e0:i+1 - 1 - i=0:=by lia
 rw [e0,Nat.sub_zero,List.take_length,List.drop_length]
 have he:Heap.ExtBut s.heap.objs.size s.heap h₂:=fun b o hb e=>hk b o hb (hs₁.extBut b o hb (Heap.get?_push_of_some _ e))
 refine wpAny_bind (wpAny_newList (s:={ s with heap:=h₂,toks:=tk }) (wpAny_pure ?_) (by rw [hrl]; lia))
 rw [List.append_nil]
 exact hQ h₂ tk he
theorem assign_Tuple_star {env:Env} {elts:List Expr} {x1} {pos:Pos} {t:Addr} {items:Array Value} {i:Nat} {Q:Unit->Shared->Prop} (hh:A.handled=none) (ht:s.heap.IsList t items) (hi:i<=items.size) (hz:items.size<=sizeLine)
 (hn:(assignEach elts env).length=i+1) (hstar:(assignEach elts env).findIdx? (·.1)=some i)
 (h:∀ h' tk,Heap.ExtBut s.heap.objs.size s.heap h'->wpAny (model prog w) A (assignInOrder ((assignEach elts env).map (·.2)) (items.toList.take i++[.ref h'.objs.size])) Q E { s with heap:=h'.push { cls:=.type "list", data:=.seq (items.toList.drop i).toArray },toks:=tk }) :
 wpAny (model prog w) A (assign (.Tuple elts x1 pos) env (.ref t)) Q E s:=by
 rw [assign_Tuple]
 refine wpAny_bind (wpAny_standAt ?_)
 unfold unpack
 rw [hn,hstar]
 exact wpAny_bind (wpAny_holding (unpackItems_star hh ht hi hz h))
end
section
variable {X:Cx} {pos:Pos}
def gStar (K:PySem.W.Frag) (n:Nat) (t:TGs):TG:=fun v σ H Q=>∃ a xs,v=.ref a/\SqL K H a xs/\n<=xs.length/\∀ p,H p=none->t (xs.take n++[.ref p]) σ (upd H p (.lst (xs.drop n))) Q
theorem pg_star {es:List Expr} {k:Nat} {t:TGs} {n:Nat} (hc:X.calm=true) (h:PGs X es t)
 (hn:(assignEach es X.env).length=n+1:=by rfl) (hst:(assignEach es X.env).findIdx? (·.1)=some n:=by rfl):PG X (.Tuple es k pos) (gStar X.K n t):=by
 intro pins s σ H v u Q I r hw
 obtain⟨a,xs,e1,hq,hl,hw⟩:=hw
 subst e1
 cases r
 obtain⟨its,rv,ht,hz⟩:=I.list hq
 have hlen:its.length=xs.length:=rv.length.symm
 refine assign_Tuple_star (I.ok.hd hc) ht.isList (by rw [List.size_toArray]; lia) (by rw [List.size_toArray]; lia) hn hst fun h' tk hx=>?_
 have I1:Inv X pins σ H { s with heap:=h',toks:=tk }:=I.kept (t':=tk) fun b o e=>hx b o (Nat.ne_of_lt (Heap.lt_size e)) e
 have I2:=I1.laid (t':=tk) (o:=.lst (xs.drop n)) (h':=h'.push { cls:=.type "list", data:=.seq (its.drop n).toArray }) (fun b ob q=>Heap.get?_push_of_some _ q) (Nat.le_refl _) ?_
 ·exact h pins _ σ _ _ _ Q I2 (by simpa using (rv.take n).append (.cons (show RelV (.ref h'.objs.size) (.ref h'.objs.size) from rfl) .nil)) (hw _ (I1.hok.fresh (Nat.le_refl _)))
 ·exact⟨by rw [List.length_drop]; lia,_,0,rv.drop n,Heap.get?_push_size _ rfl⟩
theorem pg_starK (K:PySem.W.Frag) {es:List Expr} {k:Nat} {t:TGs} (n:Nat) (h:PGs X es t) (hc:X.calm=true:=by rfl) (hn:(assignEach es X.env).length=n+1:=by rfl) (hst:(assignEach es X.env).findIdx? (·.1)=some n:=by rfl) (hK:X.K=K:=by rfl):PG X (.Tuple es k pos) (gStar K n t):=by
 subst hK; exact pg_star hc h hn hst
theorem pgs_star {e:Expr} {es:List Expr} {t:TG} {u:TGs} {p:Pos} (h1:PG X e t) (h2:PGs X es u):PGs X (.Starred e p :: es) (gCons t u):=by
 intro pins s σ H vs us Q I r h
 obtain⟨v,vr,e1,h⟩:=h
 subst e1
 cases r with
 | cons r rr =>
   show wpAny _ _ (assignInOrder (assign e X.env :: (assignEach es X.env).map (·.2)) _) _ _ s
   refine assignInOrder_cons (thn (h1 pins s σ H _ _ _ I r h) fun _ s1 ⟨σ1,H1,I1,q1⟩=>?_)
   exact h2 pins s1 σ1 H1 _ _ Q I1 rr q1
end
end L2
namespace M
section
variable {ps L:List Int} {m:Nat} {c:Int}
end
end M
namespace L2
open PySem PySem.Spec PyProof.Rows
section
variable {X:Cx}
def rStarts:V->List V->Hp->VK->Prop:=fun x xs H Q=>∃ a b,x=.str a/\xs=[.str b]/\Q (.bl (Txt.startswith a b)) H
theorem mt_startswith:MtM X "str.startswith" rStarts:=by
 intro pins s σ H x xs v us Q I rx rv h
 obtain⟨a,b,rfl,rfl,q⟩:=h
 walk_at"z13"
 obtain⟨u,rfl,t',rfl⟩:=Vals.one rv
 exact SC.startswith ⟨.bl _,H,I,rfl,q⟩
theorem strs_vals:∀ l:List (Str×Tok),Vals ((l.map (·.1)).map V.str) (strValues l)
 | []=>.nil
 | p :: l=>.cons ⟨_,rfl⟩ (strs_vals l)
theorem strs_of:∀ {ss:List Str} {us:List Value},Vals (ss.map V.str) us->∃ l:List (Str×Tok),us=strValues l/\l.map (·.1)=ss
 | [],_,.nil=>⟨[],rfl,rfl⟩
 | a :: ss,_,.cons ⟨t,e⟩ r=>by
   obtain⟨l,rfl,rfl⟩:=strs_of r
   exact⟨(a,t) :: l,by rw [e]; rfl,rfl⟩
theorem strs_new {pins:List (Addr×Obj)} {s:Shared} {σ:St} {H:Hp} {Q:VK} {l:List (Str×Tok)} {k:Nat} (I:Inv X pins σ H s) (hz:l.length<=sizeLine) (q:∀ p,H p=none->Q (.ref p) (upd H p (.lst ((l.map (·.1)).map V.str)))) :
 EP X pins σ Q (.ref s.heap.objs.size) { s with heap:=s.heap.push { cls:=.type "list", data:=.seq (strValues l).toArray },toks:=k } :=
 ⟨.ref _,_,I.lnew (t':=k) (strs_vals l) (by simpa [strValues] using hz),rfl,q _ I.fresh⟩
def rSplit:V->List V->Hp->VK->Prop:=fun x xs H Q=>∃ a b,x=.str a/\xs=[.str b]/\(b.length == 0)=false/\a.length<=50000/\(Txt.split a b).length<=50001/\∀ p,H p=none->Q (.ref p) (upd H p (.lst ((Txt.split a b).map V.str)))
theorem mt_split:MtM X "str.split" rSplit:=by
 intro pins s σ H x xs v us Q I rx rv h
 obtain⟨a,b,rfl,rfl,hb,ha,hn,q⟩:=h
 walk_at"z13"
 obtain⟨u,rfl,t',rfl⟩:=Vals.one rv
 have one:Txt.split a b=[a]->EP X pins σ Q (.ref s.heap.objs.size) { s with heap:=s.heap.push { cls:=.type "list", data:=.seq #[.str a t] } }:=fun e=>by
  rw [e] at q
  exact strs_new (l:=[(a,t)]) (k:=s.toks) I (szl (by simp)) q
 cases h1:(decide (a.length<b.length) || decide (Builtin.Str.strKind a<Builtin.Str.strKind b)) with
 | true=>exact call_meets F.slot_str_split (typeIs_str _ _ _) F.entry_str_split (F.args_str_split_2 _ _) (meets_str_split_cannot_occur a b t t' h1) (one (if_pos h1))
 | false =>
   have n1:=ne_true_of_eq_false h1
   cases hf:(Builtin.Str.occurrences a b 0 a.length (a.length+1)).isEmpty with
   | true=>exact call_meets F.slot_str_split (typeIs_str _ _ _) F.entry_str_split (F.args_str_split_2 _ _) (meets_str_split_not_found a b t t' h1 hb hf) (one ((if_neg n1).trans (if_pos hf)))
   | false =>
     have e:Txt.split a b=Builtin.Str.partsBetween a (Builtin.Str.occurrences a b 0 a.length (a.length+1)) b.length:=(if_neg n1).trans (if_neg (ne_true_of_eq_false hf))
     rw [e] at q hn
     refine call_meets F.slot_str_split (typeIs_str _ _ _) F.entry_str_split (F.args_str_split_2 _ _) (meets_str_split_sep a b t t' h1 hb hf (szl (by lia)) (szl (by lia))) ?_
     generalize Builtin.Str.partsBetween a (Builtin.Str.occurrences a b 0 a.length (a.length+1)) b.length=ps at q hn
     have hl:(numbered s.toks ps).map (·.1)=ps:=numbered_texts _ _
     have:=strs_new (l:=numbered s.toks ps) (k:=s.toks+ps.length) I (szl (by rw [<- List.length_map (f:=(·.1)),hl]; lia)) (by rw [hl]; exact q)
     rw [<- strsFrom_eq] at this
     exact this
def rJoin (K:PySem.W.Frag):V->List V->Hp->VK->Prop:=fun x xs H Q=>∃ a p ss,x=.str a/\xs=[.ref p]/\SqL K H p (ss.map V.str)/\(ss.map (·.length)).sum+ss.length*a.length<=100000/\Q (.str (Str.join a ss)) H
theorem joinOk_sum {a:Str} {ss:List Str} (h:(ss.map (·.length)).sum+ss.length*a.length<=100000):JoinOk a ss=true:=by
 unfold JoinOk
 rw [StrLaws.joinTotal]
 unfold Builtin.Str.tooLong sizeLine
 rw [Bool.not_eq_true']
 exact decide_eq_false (by lia)
theorem mt_join:MtM X "str.join" (rJoin X.K):=by
 intro pins s σ H x xs v us Q I rx rv h
 obtain⟨a,p,ss,rfl,rfl,hp,hn,q⟩:=h
 walk_at"z13"
 obtain⟨u,rfl,ru⟩:=Vals.one rv
 cases ru
 obtain⟨its,rs,pl,hz⟩:=I.list hp
 obtain⟨l,rfl,hl⟩:=strs_of rs
 refine SC.join pl.isList hl (joinOk_sum hn) fun t' k=>?_
 have e:Txt.join a ss=Str.join a ss:=StrLaws.glued_eq_join a ss
 rw [e]
 exact⟨.str _,H,I.kept (t':=k) (fun _ _ z=>z),⟨_,rfl⟩,q⟩
theorem mt_joinK (K:PySem.W.Frag) (hK:X.K=K:=by rfl):MtM X "str.join" (rJoin K):=by subst hK; exact mt_join
def rSlS:V->Option Int->Option Int->Hp->VK->Prop:=fun x lo hi H Q=>∃ z,x=.str z/\z.length<=100000/\Q (.str (Txt.slice z lo hi)) H
theorem sl_str:SlR X rSlS:=by
 intro pins s σ H x v vl vu lo hi sl Q I rx hs pl pu h
 obtain⟨z,rfl,hz,q⟩:=h
 walk_at"z13"
 have hh:∃ l u:Option (Int×Tok),s.heap.IsSlice sl l u none/\l.map (·.1)=lo/\u.map (·.1)=hi:=by
  obtain⟨o,h1,h2,h3⟩:=hs
  cases pl with
  | none =>
    cases pu with
    | none=>exact⟨none,none,⟨o,h1,h2,h3⟩,rfl,rfl⟩
    | int j tj=>exact⟨none,some (j,tj),⟨o,h1,h2,h3⟩,rfl,rfl⟩
  | int i ti =>
    cases pu with
    | none=>exact⟨some (i,ti),none,⟨o,h1,h2,h3⟩,rfl,rfl⟩
    | int j tj=>exact⟨some (i,ti),some (j,tj),⟨o,h1,h2,h3⟩,rfl,rfl⟩
 obtain⟨l,u,hS,rfl,rfl⟩:=hh
 refine⟨"str", _,F.slot_str_getitem.lookup,typeIs_str _ _ _,wpAny_getItem_str_slice hS rfl (post_val_or_str ⟨Nat.le_trans (Txt.slice_le z _ _) (szl hz),fun t' k=>?_⟩)⟩
 exact⟨.str _,H,I.kept (t':=k) (fun _ _ e=>e),⟨_,rfl⟩,q⟩
def rSlQ (K:PySem.W.Frag):V->Option Int->Option Int->Hp->VK->Prop:=fun x lo hi H Q=>rSlL K x lo hi H Q\/rSlS x lo hi H Q
theorem sl_Q {K:PySem.W.Frag} (hK:X.K=K:=by rfl):SlR X (rSlQ K):=by subst hK; exact sl_list.or sl_str
def rAddQ:R2:=fun x y H Q=>rAddP x y H Q\/∃ i j,x=.str i/\y=.str j/\i.length+j.length<=sizeLine/\Q (.str (i++j)) H
theorem op_addQ:OpR X (binaryOp .Add) rAddQ:=op_addP.or op_add_str
def rIxQ (K:PySem.W.Frag):R2:=fun x y H Q=>rIxP K x y H Q\/rIxS x y H Q
def rMulQ:R2:=fun x y H Q=>rMulP x y H Q\/∃ z n,x=.str z/\y=.int n/\0<=n/\z.length*n.toNat<=100000/\n<=100000/\Q (.str (Txt.mul z n)) H
def rIntQ:List V->Hp->VK->Prop:=fun vs H Q=>rIntOf vs H Q\/∃ z n,vs=[.str z]/\intText? z=some n/\z.length<=640/\Q (.int n) H
theorem op_mul_str:OpR X (binaryOp .Mult) fun x y H Q=>∃ z n,x=.str z/\y=.int n/\0<=n/\z.length*n.toNat<=100000/\n<=100000/\Q (.str (Txt.mul z n)) H:=by
 walk_at"z7"
 obtain⟨z,n,rfl,rfl,h0,h1,h2,q⟩:=h
 walk_at"z13"
 obtain⟨t',rfl⟩:=ry
 refine SB.mul ⟨?_,fun _ _=>?_,fun _ _=>?_⟩ fun t' k=>⟨.str _,H,I.kept (t':=k) (fun _ _ e=>e),⟨_,rfl⟩,q⟩
 ·rw [Bool.or_eq_false_iff]
  exact⟨decide_eq_false (by lia),decide_eq_false (by lia)⟩
 ·by_cases hn:n=0
  ·subst hn
   lia
  ·have hz:z.length<=100000:=Nat.le_trans (Nat.le_mul_of_pos_right _ (by lia)) h1
   have:(100000:Int)<=(2 ^ 63 - 1) / n:=(Int.le_ediv_iff_mul_le (by lia)).mpr (by lia)
   lia
 ·unfold Builtin.Str.tooLong sizeLine
  exact decide_eq_false (by lia)
theorem op_mulQ:OpR X (binaryOp .Mult) rMulQ:=op_mulP.or op_mul_str
theorem ix_Q {K:PySem.W.Frag} (hK:X.K=K:=by rfl):IxR X (rIxQ K):=by subst hK; exact ix_P.or ix_str
theorem call_intS:CallR X (.type "int") fun vs H Q=>∃ z n,vs=[.str z]/\intText? z=some n/\z.length<=640/\Q (.int n) H:=by
 walk_at"z12"
 obtain⟨z,n,rfl,hn,hl,q⟩:=h
 obtain⟨u,rfl,t,rfl⟩:=vals1 r
 exact PySem.W.KIN.call_text hn hl ⟨.int _,H,I.tok _,⟨_,rfl⟩,q⟩
theorem call_intQ:CallR X (.type "int") rIntQ:=call_intK.or call_intS
def rInQ (K:PySem.W.Frag) (neg:Bool):R2:=fun x y H Q=>rIn K neg x y H Q\/∃ i j,x=.str i/\y=.str j/\Q (.bl (if neg then !(!(Builtin.Str.occurrences j i 0 j.length 1).isEmpty) else !(Builtin.Str.occurrences j i 0 j.length 1).isEmpty)) H
theorem op_inQ {K:PySem.W.Frag} (hK:X.K=K:=by rfl):OpR X (compareOp .In) (rInQ K false):=by
 walk_at"z7"
 rcases h with h | ⟨i,j,e1,e2,q⟩
 ·exact op_inK K hK pins s σ H x y v u Q I rx ry h
 ·exact op_in_str pins s σ H x y v u Q I rx ry ⟨i,j,e1,e2,q⟩
theorem op_notInQ {K:PySem.W.Frag} (hK:X.K=K:=by rfl):OpR X (compareOp .NotIn) (rInQ K true):=by
 walk_at"z7"
 rcases h with h | ⟨i,j,e1,e2,q⟩
 ·exact op_notInK K hK pins s σ H x y v u Q I rx ry h
 ·exact op_notin_str pins s σ H x y v u Q I rx ry ⟨i,j,e1,e2,q⟩
end
def Itc (x:Str):It:=⟨fun i _=>i<x.length,fun i H v H'=>H'=H/\∃ c,v=.str ⟨#[c]⟩/\x.cps.toList[i]? = some c,fun i _=>x.length<=i⟩
theorem turn_asc {P:Program} {w:World} {K:PySem.W.Frag} {tg:Expr} (x:Str) (t:Tok) (q:Addr):Turn P w K tg (Itc x) [q] q (fun i h=>h.IsStrIter q "str_ascii_iterator" x t i) where
 mem:=by simp
 obj:=fun i h st b hb=>by
  obtain rfl:b=q:=by simpa using hb
  obtain⟨o,e,c,d⟩:=st
  exact⟨o,e,fun v z=>by rw [d] at z; cases z⟩
 keep:=fun i h h' st k=>by
  obtain⟨o,e,c,d⟩:=st
  exact⟨o,k q (by simp) o e,c,d⟩
 item:=by
  walk_at"z6"
  subst hP hw hK
  obtain⟨c,hx⟩:∃ c,x.cps[i]? = some c:=⟨_,Array.getElem?_eq_getElem (show i<x.cps.size from hg)⟩
  obtain⟨f0,f1,f2,f3,f4,f5⟩:=hf q (by simp)
  refine wpAny_pyNext_ascii_item st hx fun h' st' sb=>?_
  have I1:Inv X pins σ H { s with heap:=h',toks:=s.toks+1 }:=I.turned (t':=s.toks+1) (fun b o hb e=>(sb.2 b hb).trans e) f0 f1 f3 f4 f5
  obtain⟨o,e,c',d⟩:=id st'
  exact⟨_,rfl,go_of (s:={ s with heap:=h',toks:=s.toks+1 }) e c' d (by decide) ⟨.str ⟨#[c]⟩,H,I1,⟨_,rfl⟩,⟨rfl,c,rfl,by simpa using hx⟩,st',fun b hb=>(hf b hb).1⟩⟩
 done:=by
  walk_at"z6"
  subst hP hw hK
  obtain⟨f0,f1,f2,f3,f4,f5⟩:=hf q (by simp)
  exact wpAny_pyNext_ascii_end (I.ok.hd hc) st (Array.getElem?_eq_none (show x.cps.size<=i from hg)) fun h' eb=>⟨rfl,I.turned (t':=s.toks) (fun b o hb e=>eb b o hb e) f0 f1 f3 f4 f5⟩
 self:=fun _ _ _ _ _ st h=>wpAny_pyIter_striter_ascii st h
def iStr (te:TE):TI:=fun σ H R=>te σ H fun v H1=>∃ x,v=.str x/\x.cps.all (·<128)=true/\R (Itc x) H1
section
variable {X:Cx} {tg:Expr}
theorem pi_str {e:Expr} {te:TE} (he:PE X e te):PI X tg e (iStr te):=by
 intro pins s σ H R I h
 refine thn (he pins s σ H _ I h) fun v s1 ⟨x,H1,I1,r1,q1⟩=>?_
 obtain⟨z,rfl,ha,q⟩:=q1
 obtain⟨t,rfl⟩:=r1
 refine wpAny_pyIter_ascii ha ⟨s1.heap.objs.size,[s1.heap.objs.size],_,_,H1,rfl,I1.kept (t':=s1.toks) fun b o e=>Heap.get?_push_of_some _ e,turn_asc z t _,⟨_,Heap.get?_push_size _ rfl,rfl,rfl⟩,fun b hb=>?_,q⟩
 obtain rfl:b=s1.heap.objs.size:=by simpa using hb
 exact I1.fpOk (Nat.le_refl _) (I1.hok.fresh (Nat.le_refl _))
end
section
variable {g:TG} {tb:TS} {D:Ends} {σ:St} {H:Hp} {ti:TT} {te:TE} {σc:St} {Q:VK}
theorem lp_str {x:Str} (Pv:Nat->St->Hp->Prop) (h0:Pv 0 σ H)
 (hs:∀ i c σ H,x.cps.toList[i]? = some c->Pv i σ H->g (.str ⟨#[c]⟩) σ H fun σ2 H2=>tb { D with nx:=Pv (i+1),ct:=Pv (i+1),bk:=D.nx } σ2 H2)
 (hd:∀ σ H,Pv x.length σ H->D.nx σ H):LoopI (Itc x) g tb D σ H:=by
 refine⟨fun i m σ H=>m=x.length - i/\i<=x.length/\Pv i σ H,⟨_,rfl,Nat.zero_le _,h0⟩,?_⟩
 rintro i m σ H ⟨rfl,hi,p⟩
 by_cases hlt:i<x.length
 ·refine .inr ⟨hlt,Pv (i+1),fun σ' H' p'=>⟨_,by lia,rfl,hlt,p'⟩,fun v H' y=>?_⟩
  obtain⟨rfl,c,rfl,hc⟩:=y
  exact hs i c σ H' hc p
 ·have e:i=x.length:=by lia
  exact .inl ⟨by show x.length<=i; lia,hd σ H (by rw [<- e]; exact p)⟩
theorem cp_str {x:Str} (Pv:Nat->List V->Hp->Prop) (h0:Pv 0 [] H) (hl:∀ i ys H,Pv i ys H->ys.length<=i) (hx:x.length<sizeLine)
 (hs:∀ i c ys H,x.cps.toList[i]? = some c->Pv i ys H->g (.str ⟨#[c]⟩) σc H fun σ2 H2=>ti σ2 H2 fun b H3=>if b=true then te σ2 H3 fun y H4=>Pv (i+1) (ys++[y]) H4 else Pv (i+1) ys H3)
 (hd:∀ l ys H,Pv x.length ys H->H l=none->Q (.ref l) (upd H l (.lst ys))):CompI (Itc x) g ti te σc H Q:=by
 refine⟨fun i m ys H=>m=x.length - i/\i<=x.length/\Pv i ys H,⟨_,rfl,Nat.zero_le _,h0⟩,?_⟩
 rintro i m ys H ⟨rfl,hi,p⟩
 have hy:=hl i ys H p
 refine⟨by lia,?_⟩
 by_cases hlt:i<x.length
 ·refine .inr ⟨hlt,Pv (i+1),fun σ' H' p'=>⟨_,by lia,rfl,hlt,p'⟩,fun v H' y=>?_⟩
  obtain⟨rfl,c,rfl,hc⟩:=y
  exact hs i c ys H' hc p
 ·have e:i=x.length:=by lia
  exact .inl ⟨by show x.length<=i; lia,fun l hl=>hd l ys H (by rw [<- e]; exact p) hl⟩
end
theorem pe_globS {X:Cx} {x z:Str} {pos:Pos} (h:∃ t,X.mg x=some (.str z t)) (hg:Gl X x) (hd:(x == ("__debug__" : Str))=false:=by decide):PE X (.Name x pos) (tC (.str z)):=by
 obtain⟨t,h⟩:=h
 exact pe_glob hg h ⟨t,rfl⟩ hd
section
variable {K:PySem.W.Frag} {H:Hp} {Q:VK} {x y:Str} {i j:Int}
theorem i_addQI (q:Q (.int (i+j)) H):rAddQ (.int i) (.int j) H Q:=.inl (i_addI q)
theorem i_addQS (h:x.length+y.length<=100000) (q:Q (.str (x++y)) H):rAddQ (.str x) (.str y) H Q:=.inr ⟨_,_,rfl,rfl,szl h,q⟩
theorem i_mulQI (c:CMul i j) (q:Q (.int (i*j)) H):rMulQ (.int i) (.int j) H Q:=.inl (i_mulI c q)
theorem i_slS {lo hi:Option Int} (h:x.length<=100000) (q:Q (.str (Txt.slice x lo hi)) H):rSlQ K (.str x) lo hi H Q:=.inr ⟨_,rfl,h,q⟩
theorem i_ixS {c:Nat} (h:x.length<=100000) (h0:0<=i) (e:x.cps.toList[i.toNat]? = some c) (q:Q (.str ⟨#[c]⟩) H):rIxQ K (.str x) (.int i) H Q:=by
 have:=atI_nat (xs:=x.cps.toList) (j:=i.toNat) (v:=c) e
 rw [show ((i.toNat:Nat):Int)=i by lia] at this
 exact .inr ⟨_,_,_,rfl,rfl,szl h,this,q⟩
theorem i_inS (q:Q (.bl (!(Builtin.Str.occurrences y x 0 y.length 1).isEmpty)) H):rInQ K false (.str x) (.str y) H Q:=.inr ⟨_,_,rfl,rfl,q⟩
theorem i_inC {c:Nat} (q:Q (.bl (decide (c∈y.cps.toList))) H):rInQ K false (.str ⟨#[c]⟩) (.str y) H Q:=i_inS (by rw [StrLaws.found_one]; exact q)
theorem i_notInC {c:Nat} (q:Q (.bl (!decide (c∈y.cps.toList))) H):rInQ K true (.str ⟨#[c]⟩) (.str y) H Q:=.inr ⟨_,_,rfl,rfl,by
 show Q (.bl (!(!(Builtin.Str.occurrences y ⟨#[c]⟩ 0 y.length 1).isEmpty))) H
 rw [StrLaws.found_one]
 exact q⟩
theorem i_starts (q:Q (.bl (Txt.startswith x y)) H):rStarts (.str x) [.str y] H Q:=⟨_,_,rfl,rfl,q⟩
theorem i_lenS (h:x.length<=100000) (q:Q (.int x.length) H):rLen K [.str x] H Q:=⟨_,_,rfl,⟨szl h,rfl⟩,q⟩
end
end L2
namespace L2
open PySem M
abbrev sg (x:Str):List Nat:=x.cps.toList
theorem sg_ext {x y:Str} (h:sg x=sg y):x=y:=by
 cases x; cases y
 congr 1
 exact Array.ext' h
theorem sg_len (x:Str):(sg x).length=x.length:=Array.length_toList
theorem sg_app (x y:Str):sg (x++y)=sg x++sg y:=by
 show (x.cps++y.cps).toList=_
 simp
theorem sg_one (c:Nat):sg ⟨#[c]⟩=[c]:=rfl
theorem ix_hi (x:Str) {j:Int} (h:0<=j) (l:Option Int):Builtin.Str.strSliceIndices l (some j) 1 x.length=Builtin.Str.strSliceIndices l (some (min j x.length)) 1 x.length:=by
 have e1:¬ j<0:=by lia
 have e2:¬ min j (x.length:Int)<0:=by lia
 have e3:min (min j (x.length:Int)) x.length=min j x.length:=by lia
 simp only [Builtin.Str.strSliceIndices,e1,e2,if_false,e3,show (1:Int) > 0 from by decide,if_true]
theorem ix_lo (x:Str) {i:Int} (h:0<=i) (u:Option Int):Builtin.Str.strSliceIndices (some i) u 1 x.length=Builtin.Str.strSliceIndices (some (min i x.length)) u 1 x.length:=by
 have e1:¬ i<0:=by lia
 have e2:¬ min i (x.length:Int)<0:=by lia
 have e3:min (min i (x.length:Int)) x.length=min i x.length:=by lia
 simp only [Builtin.Str.strSliceIndices,e1,e2,if_false,e3,show (1:Int) > 0 from by decide,if_true]
theorem txt_to (x:Str) {j:Int} (h:0<=j):sg (Txt.slice x none (some j))=(sg x).take j.toNat:=by
 have e:Txt.slice x none (some j)=StrLaws.sliceText x none (some (min j x.length)):=by
  unfold Txt.slice StrLaws.sliceText
  rw [ix_hi x h]
 have hl:=sg_len x
 rw [e,StrLaws.sliceText_to ⟨by lia,by show _<=((sg x).length:Int); lia⟩]
 show ((sg x).drop 0).take _=_
 rw [List.drop_zero]
 by_cases hj:j<=x.length
 ·rw [show (min j (x.length:Int) - 0).toNat=j.toNat by lia]
 ·rw [List.take_of_length_le (by lia),List.take_of_length_le (by lia)]
theorem txt_from (x:Str) {i:Int} (h:0<=i):sg (Txt.slice x (some i) none)=(sg x).drop i.toNat:=by
 have e:Txt.slice x (some i) none=StrLaws.sliceText x (some (min i x.length)) none:=by
  unfold Txt.slice StrLaws.sliceText
  rw [ix_lo x h]
 have hl:=sg_len x
 rw [e,StrLaws.sliceText_from ⟨by lia,by show _<=((sg x).length:Int); lia⟩]
 show ((sg x).drop _).take _=_
 rw [List.take_of_length_le (by rw [List.length_drop]; show _<=(((sg x).length:Int) - _).toNat; lia)]
 by_cases hi:i<=x.length
 ·rw [show (min i (x.length:Int)).toNat=i.toNat by lia]
 ·rw [List.drop_of_length_le (by lia),List.drop_of_length_le (by lia)]
theorem starts_one (x:Str) (c:Nat):Txt.startswith x ⟨#[c]⟩=decide ((sg x).head? = some c):=by
 unfold Txt.startswith
 rw [StrLaws.subAt_eq]
 show (decide (0+1<=x.length) && (((sg x).drop 0).take 1 == [c]))=_
 rw [List.drop_zero,<- sg_len]
 cases sg x with
 | nil=>simp
 | cons a r =>
   simp
   rw [Bool.eq_iff_iff]
   simp
def figs (w:List Nat):List Nat:=if w.head? = some 45 then w.tail else w
def numW (w:List Nat):Prop:=1<=(figs w).length/\(figs w).length<=40/\(∀ c∈figs w,48<=c/\c<=57)/\((figs w).head?≠some 48\/w=[48])
instance (w:List Nat):Decidable (numW w):=by unfold numW; infer_instance
abbrev tx (n:Int):Str:=Str.ofString (toString n)
def valOf (x:Str):Int:=(intText? x).getD 0
theorem back_sign {cs:List Nat} (h:NumText.AllDigits cs):(cs.map Char.ofNat).map Char.toNat=cs:=by
 rw [List.map_map]
 conv=>rhs; rw [<- List.map_id cs]
 refine List.map_congr_left fun c hc=>?_
 have:=h c hc
 have:∀ n:Nat,n<58->(Char.ofNat n).toNat=n:=by decide
 exact this c (by lia)
theorem digits_back {cs:List Nat} (h:NumText.AllDigits cs) (h1:1<=cs.length) (h2:cs.head?≠some 48\/cs=[48]):(Nat.toDigits 10 (NumText.digitsVal cs)).map Char.toNat=cs:=by
 obtain⟨n,hn⟩:∃ n,cs.length=n+1:=⟨cs.length - 1,by lia⟩
 rw [NumText.toDigits_digitsVal n cs hn h ?_,back_sign h]
 rcases h2 with h2 | rfl
 ·cases cs with
  | nil=>simp at h1
  | cons c r =>
    have hc:=h c (by simp)
    refine .inr ⟨c,r,rfl,?_⟩
    simp at h2
    lia
 ·exact .inl (by simpa using hn.symm)
theorem num_word {x:Str} (h:numW (sg x)):∃ n:Int,intText? x=some n/\tx n=x:=by
 obtain⟨h1,h2,h3,h4⟩:=h
 unfold figs at *
 split at h1
 ·rename_i hm
  rw [if_pos hm] at h2 h3 h4
  obtain⟨cs,hx⟩:∃ cs,sg x=45 :: cs:=by
   cases e:sg x with
   | nil=>rw [e] at hm; cases hm
   | cons a r=>rw [e] at hm; simp at hm; exact⟨r,by rw [hm]⟩
  rw [hx] at h1 h2 h3 h4
  simp only [List.tail_cons] at h1 h2 h3 h4
  have hd:NumText.AllDigits cs:=h3
  have hne:cs≠[]:=fun z=>by rw [z] at h1; simp at h1
  have hl:x.length<=4300:=by rw [<- sg_len,hx]; simp; lia
  refine⟨_,intText_neg hx hd hne hl,?_⟩
  have hh:cs.head?≠some 48\/cs=[48]:=by
   rcases h4 with z | z
   ·exact .inl z
   ·cases z
  have hp:0<NumText.digitsVal cs:=by
   cases cs with
   | nil=>exact absurd rfl hne
   | cons c r =>
     have hc:=hd c (by simp)
     refine NumText.digitsVal_pos ?_
     rcases h4 with z | z
     ·simp at z
      lia
     ·cases z
  refine sg_ext ?_
  rw [hx]
  have hb:=digits_back hd h1 hh
  obtain⟨k,hk⟩:∃ k,NumText.digitsVal cs=k+1:=⟨NumText.digitsVal cs - 1,by lia⟩
  rw [hk] at hb ⊢
  show sg (Str.ofString (toString (Int.negSucc k)))=_
  rw [sg,PyProof.Rows.signs_ofString]
  show (("-" ++ Nat.repr (k+1):String)).toList.map Char.toNat=_
  rw [String.toList_append,List.map_append,Nat.toList_repr,hb]
  rfl
 ·rename_i hm
  rw [if_neg hm] at h2 h3 h4
  have hd:NumText.AllDigits (sg x):=h3
  have hne:sg x≠[]:=fun z=>by rw [z] at h1; simp at h1
  refine⟨_,intText_digits hd hne (by rw [<- sg_len]; lia),?_⟩
  refine sg_ext ?_
  show (Str.ofString (toString ((NumText.digitsVal (sg x):Nat):Int))).cps.toList=_
  rw [PySem.W.KIN.signs_num]
  exact digits_back hd h1 h4
def Asc (x:Str):Prop:=∀ c∈sg x,c<128
instance (x:Str):Decidable (Asc x):=by unfold Asc; infer_instance
theorem Asc.all {x:Str} (h:Asc x):x.cps.all (·<128)=true:=by
 rw [<- Array.all_toList]
 exact List.all_eq_true.mpr fun c hc=>decide_eq_true (h c hc)
theorem Asc.ok {x:Str} (h:Asc x):PyData.strOk x=true:=by
 unfold PyData.strOk
 rw [<- Array.all_toList]
 exact List.all_eq_true.mpr fun c hc=>decide_eq_true (Nat.lt_trans (h c hc) (by decide))
theorem join_cons (s a b:Str) (r:List Str):Str.join s (a :: b :: r)=a++s++Str.join s (b :: r):=rfl
theorem join_mem (s:Str):∀ {ss:List Str} {p:Str} {c:Nat},p∈ss->c∈sg p->c∈sg (Str.join s ss)
 | [a],p,c,hp,hc=>by
   have:p=a:=by simpa using hp
   rw [<- this]
   exact hc
 | a :: b :: r,p,c,hp,hc=>by
   rw [join_cons,sg_app,sg_app]
   rcases List.mem_cons.mp hp with rfl | hp
   ·exact List.mem_append_left _ (List.mem_append_left _ hc)
   ·exact List.mem_append_right _ (join_mem s hp hc)
theorem app_len (x y:Str):(x++y).length=x.length+y.length:=by rw [<- sg_len,sg_app,List.length_append,sg_len,sg_len]
theorem join_len (s:Str):∀ {ss:List Str},ss≠[]->(Str.join s ss).length+s.length=(ss.map (·.length)).sum+ss.length*s.length
 | [],h=>absurd rfl h
 | [a],_=>by simp [Str.join]
 | a :: b :: r,_=>by
   have ih:=join_len s (ss:=b :: r) (by simp)
   rw [join_cons,app_len,app_len]
   simp only [List.map_cons,List.sum_cons,List.length_cons,Nat.succ_mul] at ih ⊢
   lia
theorem split_ne (x y:Str):Txt.split x y≠[]:=by
 unfold Txt.split
 split
 ·simp
 ·split
  ·simp
  ·rw [StrLaws.partsBetween_eq]
   obtain⟨p,r,e⟩:=StrLaws.partsFrom_ne x y.length 0 (Builtin.Str.occurrences x y 0 x.length (x.length+1))
   rw [e]
   simp
theorem mem_sum_le:∀ {ss:List Str} {p:Str},p∈ss->p.length<=(ss.map (·.length)).sum
 | a :: r,p,h=>by
   simp only [List.map_cons,List.sum_cons]
   rcases List.mem_cons.mp h with rfl | h
   ·lia
   ·have:=mem_sum_le h
    lia
structure Parted (x:Str) (ss:List Str):Prop where
 ne:ss≠[]
 asc:Asc x->∀ p∈ss,Asc p
 sum:(ss.map (·.length)).sum+ss.length=x.length+1
 len:∀ p∈ss,p.length<=x.length
theorem split_ok (x:Str) (c:Nat):Parted x (Txt.split x ⟨#[c]⟩):=by
 have e:=StrLaws.join_split x ⟨#[c]⟩
 have hn:=split_ne x ⟨#[c]⟩
 have hl:=join_len ⟨#[c]⟩ hn
 rw [e,show (⟨#[c]⟩:Str).length=1 from rfl,Nat.mul_one] at hl
 have hpos:0<(Txt.split x ⟨#[c]⟩).length:=List.length_pos_iff.mpr hn
 refine⟨hn,fun ha p hp d hd=>ha d ?_,hl.symm,fun p hp=>?_⟩
 ·rw [<- e]
  exact join_mem _ hp hd
 ·have:=mem_sum_le hp
  lia
def nums? (name:Str) (least:Nat) (row:Str):Option (List Int) :=
 match Txt.split row ⟨#[32]⟩ with
 | []=>none
 | a :: r=>if a=name/\least<=r.length/\∀ p∈r,numW (sg p) then some (r.map valOf) else none
def Small (n:Int):Prop:=n.natAbs<10 ^ 60
theorem small_log {n:Int} (h:Small n):n.natAbs.log2<1920:=by
 by_cases h0:n.natAbs=0
 ·rw [h0]
  decide
 ·exact (Nat.log2_lt h0).mpr (Nat.lt_trans h (by decide+kernel))
theorem tx_nat (m:Nat):sg (tx (m:Int))=(Nat.toDigits 10 m).map Char.toNat:=PySem.W.KIN.signs_num m
theorem tx_neg (k:Nat):sg (tx (Int.negSucc k))=45 :: (Nat.toDigits 10 (k+1)).map Char.toNat:=by
 rw [sg,PyProof.Rows.signs_ofString]
 show (("-" ++ Nat.repr (k+1):String)).toList.map Char.toNat=_
 rw [String.toList_append,List.map_append,Nat.toList_repr]
 rfl
theorem small_len {n:Int} (h:Small n):(tx n).length<=61:=by
 rw [<- sg_len]
 cases n with
 | ofNat m =>
   show (sg (tx (m:Int))).length<=61
   rw [tx_nat,List.length_map]
   exact Nat.le_trans (toDigits_len_pow (by decide) (by decide) (show m<10 ^ 60 from h)) (by decide)
 | negSucc k =>
   rw [tx_neg,List.length_cons,List.length_map]
   exact Nat.succ_le_succ (toDigits_len_pow (by decide) (by decide) (show k+1<10 ^ 60 from h))
theorem foldl_lt:∀ (cs:List Nat) (a:Nat),NumText.AllDigits cs->cs.foldl (fun acc c=>acc*10+(c - 48)) a<(a+1)*10 ^ cs.length
 | [],a,_=>by simp
 | c :: cs,a,h=>by
   have ih:=foldl_lt cs (a*10+(c - 48)) fun d hd=>h d (by simp [hd])
   have hc:=h c (by simp)
   simp only [List.foldl_cons,List.length_cons,Nat.pow_succ]
   refine Nat.lt_of_lt_of_le ih ?_
   rw [Nat.mul_comm (10 ^ cs.length) 10,<- Nat.mul_assoc]
   exact Nat.mul_le_mul_right _ (by lia)
theorem words_len {ns:List Int} (h:∀ n∈ns,Small n):((ns.map tx).map (·.length)).sum<=ns.length*61:=by
 induction ns with
 | nil=>simp
 | cons n ns ih =>
   have h1:=small_len (h n (by simp))
   have h2:=ih fun m hm=>h m (by simp [hm])
   simp only [List.map_cons,List.sum_cons,List.length_cons,Nat.succ_mul]
   lia
theorem mul_mem {x:Str} {n:Int} {c:Nat} (h:c∈sg (Txt.mul x n)):c∈sg x:=by
 unfold Txt.mul at h
 split at h
 ·cases h
 ·split at h
  ·exact h
  ·have key:∀ (m:Nat) (acc:Array Nat),c∈((List.replicate m x.cps).foldl (·++·) acc).toList->c∈acc.toList\/c∈sg x:=by
    intro m
    induction m with
    | zero=>intro acc h; exact .inl h
    | succ m ih =>
      intro acc h
      rw [List.replicate_succ,List.foldl_cons] at h
      rcases ih _ h with z | z
      ·rw [Array.toList_append] at z
       rcases List.mem_append.mp z with z | z
       ·exact .inl z
       ·exact .inr z
      ·exact .inr z
   rcases key _ _ h with z | z
   ·cases z
   ·exact z
theorem mul_len {x:Str} {n:Int}:(Txt.mul x n).length<=x.length*n.toNat+x.length:=by
 unfold Txt.mul
 split
 ·exact Nat.zero_le _
 ·split
  ·lia
  ·have key:∀ (m:Nat) (acc:Array Nat),((List.replicate m x.cps).foldl (·++·) acc).size=acc.size+m*x.length:=by
    intro m
    induction m with
    | zero=>intro acc; simp
    | succ m ih =>
      intro acc
      rw [List.replicate_succ,List.foldl_cons,ih,Array.size_append,Nat.succ_mul]
      show acc.size+x.length+_=_
      lia
   show ((List.replicate n.toNat x.cps).foldl (·++·) #[]).size<=_
   rw [key,Nat.mul_comm]
   simp
end L2
namespace L2
open PySem M
theorem cut_eq {c:Nat}:∀ {a b r s:List Nat},c ∉ a->c ∉ b->a++c :: r=b++c :: s->a=b/\r=s
 | [],[],r,s,_,_,h=>⟨rfl,by simpa using h⟩
 | [],y :: b,r,s,_,hb,h=>by
   simp at h
   exact absurd h.1 (fun z=>hb (by simp [z]))
 | x :: a,[],r,s,ha,_,h=>by
   simp at h
   exact absurd h.1 (fun z=>ha (by simp [z]))
 | x :: a,y :: b,r,s,ha,hb,h=>by
   simp at h
   obtain⟨rfl,h⟩:=h
   obtain⟨rfl,e⟩:=cut_eq (fun z=>ha (by simp [z])) (fun z=>hb (by simp [z])) h
   exact⟨rfl,e⟩
theorem join_sg (c:Nat) (a b:Str) (r:List Str):sg (Str.join ⟨#[c]⟩ (a :: b :: r))=sg a++c :: sg (Str.join ⟨#[c]⟩ (b :: r)):=by
 rw [join_cons,sg_app,sg_app,sg_one]
 simp
theorem join_inj {c:Nat}:∀ {ws qs:List Str},ws≠[]->qs≠[]->(∀ p∈ws,c ∉ sg p)->(∀ p∈qs,c ∉ sg p)->Str.join ⟨#[c]⟩ ws=Str.join ⟨#[c]⟩ qs->ws=qs
 | [],_,h,_,_,_,_=>absurd rfl h
 | _ :: _,[],_,h,_,_,_=>absurd rfl h
 | [a],[b],_,_,_,_,h=>by
   have:a=b:=h
   rw [this]
 | [a],b :: d :: s,_,_,ha,_,h=>by
   have e:=congrArg sg h
   rw [join_sg] at e
   exact absurd (show c∈sg a by rw [show sg a=sg (Str.join ⟨#[c]⟩ [a]) from rfl,e]; simp) (ha a (by simp))
 | a :: d :: s,[b],_,_,_,hb,h=>by
   have e:=congrArg sg h
   rw [join_sg] at e
   exact absurd (show c∈sg b by rw [show sg b=sg (Str.join ⟨#[c]⟩ [b]) from rfl,<- e]; simp) (hb b (by simp))
 | a :: d :: s,b :: e :: t,_,_,ha,hb,h=>by
   have z:=congrArg sg h
   rw [join_sg,join_sg] at z
   obtain⟨h1,h2⟩:=cut_eq (ha a (by simp)) (hb b (by simp)) z
   rw [sg_ext h1,join_inj (ws:=d :: s) (qs:=e :: t) (by simp) (by simp) (fun p hp=>ha p (by simp only [List.mem_cons] at hp ⊢; exact .inr hp)) (fun p hp=>hb p (by simp only [List.mem_cons] at hp ⊢; exact .inr hp)) (sg_ext h2)]
theorem split_join {c:Nat} {ws:List Str} (hn:ws≠[]) (hf:∀ p∈ws,c ∉ sg p):Txt.split (Str.join ⟨#[c]⟩ ws) ⟨#[c]⟩=ws :=
 (join_inj hn (split_ne _ _) hf (StrLaws.split_free _ c) (StrLaws.join_split _ ⟨#[c]⟩).symm).symm
theorem head_dig (m:Nat):0<m->((Nat.toDigits 10 m).map Char.toNat).head?≠some 48:=by
 induction m using Nat.strongRecOn with
 | _ m ih =>
   intro h0
   by_cases h:m<10
   ·rw [Nat.toDigits_of_lt_base h]
    have:∀ d:Nat,d<10->0<d->(Nat.digitChar d).toNat≠48:=by decide
    simpa using this m h h0
   ·have hm:m % 10<10:=Nat.mod_lt m (by decide)
    have t:Nat.toDigits 10 (m / 10)++Nat.toDigits 10 (m % 10)=Nat.toDigits 10 (10*(m / 10)+m % 10):=Nat.toDigits_append_toDigits (by decide) (by lia) hm
    rw [Nat.div_add_mod] at t
    have i2:=ih (m / 10) (by lia) (by lia)
    rw [<- t,List.map_append]
    cases e:(Nat.toDigits 10 (m / 10)).map Char.toNat with
    | nil =>
      have:=toDigits_len_ge 10 (m / 10)
      rw [List.map_eq_nil_iff.mp e] at this
      simp at this
    | cons a r =>
      rw [e] at i2
      simpa using i2
theorem dig_all (m:Nat):NumText.AllDigits ((Nat.toDigits 10 m).map Char.toNat):=fun c hc=>by
 obtain⟨d,hd,rfl⟩:=List.mem_map.mp hc
 have r:=PyProof.Rows.digit_range (Nat.isDigit_of_mem_toDigits (by decide) (by decide) hd)
 lia
theorem dig_len (m:Nat):1<=((Nat.toDigits 10 m).map Char.toNat).length:=by
 rw [List.length_map]
 exact toDigits_len_ge 10 m
theorem dig_ne (m:Nat):(Nat.toDigits 10 m).map Char.toNat≠[]:=fun z=>by
 have:=dig_len m
 rw [z] at this
 simp at this
theorem tx_num {n:Int} (h:n.natAbs<10 ^ 40):numW (sg (tx n))/\valOf (tx n)=n:=by
 cases n with
 | ofNat m =>
   have hm:m<10 ^ 40:=h
   have e:=tx_nat m
   have hl:((Nat.toDigits 10 m).map Char.toNat).length<=40:=by
    rw [List.length_map]
    exact toDigits_len_pow (by decide) (by decide) hm
   have hh:((Nat.toDigits 10 m).map Char.toNat).head?≠some 45:=fun z=>by
    have:=dig_all m 45 (List.mem_of_mem_head? z)
    lia
   refine⟨?_,?_⟩
   ·show numW (sg (tx (m:Int)))
    rw [e]
    unfold numW figs
    rw [if_neg hh]
    refine⟨dig_len m,hl,dig_all m,?_⟩
    by_cases h0:m=0
    ·subst h0
     exact .inr (by decide)
    ·exact .inl (head_dig m (by lia))
   ·show (intText? (tx (m:Int))).getD 0=_
    rw [intText_digits (by show NumText.AllDigits (sg (tx (m:Int))); rw [e]; exact dig_all m) (by show sg (tx (m:Int))≠[]; rw [e]; exact dig_ne m) (by rw [<- sg_len,e]; lia)]
    show ((NumText.digitsVal (sg (tx (m:Int))):Nat):Int)=_
    rw [e,PySem.W.KIN.val_back]
    rfl
 | negSucc k =>
   have hk:k+1<10 ^ 40:=h
   have e:=tx_neg k
   have hl:((Nat.toDigits 10 (k+1)).map Char.toNat).length<=40:=by
    rw [List.length_map]
    exact toDigits_len_pow (by decide) (by decide) hk
   refine⟨?_,?_⟩
   ·rw [e]
    unfold numW figs
    rw [if_pos (show (45 :: (Nat.toDigits 10 (k+1)).map Char.toNat).head? = some 45 from rfl)]
    exact⟨dig_len (k+1),hl,dig_all (k+1),.inl (head_dig (k+1) (by lia))⟩
   ·show (intText? (tx (Int.negSucc k))).getD 0=_
    rw [intText_neg (cs:=(Nat.toDigits 10 (k+1)).map Char.toNat) e (dig_all (k+1)) (dig_ne (k+1)) (by rw [<- sg_len,e]; simp only [List.length_cons]; lia)]
    show -((NumText.digitsVal ((Nat.toDigits 10 (k+1)).map Char.toNat):Nat):Int)=_
    rw [PySem.W.KIN.val_back]
    rfl
theorem tx_free (n:Int):32 ∉ sg (tx n):=fun z=>(PyProof.Rows.intText_free_32 n).mp z
theorem row_words {name:Str} {ns:List Int} (h:32 ∉ sg name):Txt.split (Str.join ⟨#[32]⟩ (name :: ns.map tx)) ⟨#[32]⟩=name :: ns.map tx :=
 split_join (by simp) fun p hp=>by
  rcases List.mem_cons.mp hp with rfl | hp
  ·exact h
  ·obtain⟨n,_,rfl⟩:=List.mem_map.mp hp
   exact tx_free n
theorem vals_back {ns:List Int} (h:∀ n∈ns,n.natAbs<10 ^ 40):(ns.map tx).map valOf=ns:=by
 rw [List.map_map]
 conv=>rhs; rw [<- List.map_id ns]
 exact List.map_congr_left fun n hn=>(tx_num (h n hn)).2
end L2
namespace L2
open PySem PySem.Spec PyProof.Rows
section
variable {κ:Type} [DecidableEq κ]
def valV (kvs:List (κ×V)) (k:κ):Option V:=(kvs.find? fun kv=>decide (kv.1=k)).map (·.2)
def putK (kvs:List (κ×V)) (k:κ) (v:V):List (κ×V) :=
 if (kvs.any fun kv=>decide (kv.1=k))=true then kvs.map (fun kv=>if kv.1=k then (kv.1,v) else kv) else kvs++[(k,v)]
theorem valV_nil {k:κ}:valV ([]:List (κ×V)) k=none:=rfl
theorem valV_pos {p:κ×V} {r:List (κ×V)} {k:κ} (e:p.1=k):valV (p :: r) k=some p.2:=by simp [valV,List.find?_cons,e]
theorem valV_neg {p:κ×V} {r:List (κ×V)} {k:κ} (e:¬ p.1=k):valV (p :: r) k=valV r k:=by simp [valV,List.find?_cons,e]
theorem valV_any (k:κ):∀ kvs:List (κ×V),(kvs.any fun kv=>decide (kv.1=k))=(valV kvs k).isSome
 | []=>rfl
 | p :: r=>by
   rw [List.any_cons]
   by_cases e:p.1=k
   ·simp only [valV_pos e,decide_eq_true e,Bool.true_or,Option.isSome_some]
   ·rw [valV_neg e,decide_eq_false e,Bool.false_or]; exact valV_any k r
theorem valV_map (k j:κ) (y:V):∀ kvs:List (κ×V),valV (kvs.map fun kv=>if kv.1=k then (kv.1,y) else kv) j=(valV kvs j).map fun x=>if j=k then y else x
 | []=>rfl
 | p :: r=>by
   have ih:=valV_map k j y r
   rw [List.map_cons]
   by_cases h:p.1=k
   ·rw [if_pos h]
    by_cases e:p.1=j
    ·rw [valV_pos (p:=(p.1,y)) e,valV_pos e,Option.map_some,if_pos (e.symm.trans h)]
    ·rw [valV_neg (p:=(p.1,y)) e,valV_neg e,ih]
   ·rw [if_neg h]
    by_cases e:p.1=j
    ·rw [valV_pos (p:=p) e,valV_pos e,Option.map_some,if_neg (fun z=>h (e.trans z))]
    ·rw [valV_neg (p:=p) e,valV_neg e,ih]
theorem valV_snoc (k j:κ) (y:V):∀ kvs:List (κ×V),valV kvs k=none->valV (kvs++[(k,y)]) j=if j=k then some y else valV kvs j
 | [],_=>by
   by_cases e:k=j
   ·rw [if_pos e.symm]; exact valV_pos (p:=(k,y)) e
   ·rw [if_neg (fun z=>e z.symm)]; exact valV_neg (p:=(k,y)) e
 | p :: r,hn=>by
   rw [List.cons_append]
   have hk:¬ p.1=k:=fun z=>by rw [valV_pos z] at hn; cases hn
   rw [valV_neg hk] at hn
   have ih:=valV_snoc k j y r hn
   by_cases e:p.1=j
   ·rw [valV_pos e,valV_pos e,if_neg (fun z=>hk (e.trans z))]
   ·rw [valV_neg e,valV_neg e,ih]
theorem valV_put (kvs:List (κ×V)) (k j:κ) (y:V):valV (putK kvs k y) j=if j=k then some y else valV kvs j:=by
 unfold putK
 by_cases a:(kvs.any fun kv=>decide (kv.1=k))=true
 ·rw [if_pos a,valV_map]
  rw [valV_any] at a
  by_cases e:j=k
  ·obtain⟨x,hx⟩:=Option.isSome_iff_exists.mp a
   rw [if_pos e,e,hx,Option.map_some,if_pos rfl]
  ·rw [if_neg e]
   cases valV kvs j with
   | none=>rfl
   | some x=>rw [Option.map_some,if_neg e]
 ·rw [if_neg a]
  refine valV_snoc k j y kvs ?_
  rw [valV_any] at a
  cases q:valV kvs k with
  | none=>rfl
  | some x=>rw [q] at a; exact (a rfl).elim
theorem length_putK (kvs:List (κ×V)) (k:κ) (v:V):(putK kvs k v).length<=kvs.length+1:=by
 unfold putK
 split
 ·rw [List.length_map]; lia
 ·rw [List.length_append,List.length_cons,List.length_nil]; lia
theorem RelO.isSome_eq {o:Option V} {u:Option Value} (r:RelO o u):o.isSome=u.isSome:=by
 cases o with
 | none=>cases u with
   | none=>rfl
   | some _=>exact (show False from r).elim
 | some _=>cases u with
   | none=>exact (show False from r).elim
   | some _=>rfl
theorem KV.val {kvs:List (κ×V)} {vs:List (κ×Value)} (r:KV kvs vs) (k:κ):RelO (valV kvs k) (valueAt vs k):=by
 unfold KV at r
 induction r with
 | nil=>exact True.intro
 | @cons p q ps qs h t ih =>
   obtain⟨h1,h2⟩:=h
   by_cases e:p.1=k
   ·have e':q.1=k:=h1.symm.trans e
    have b:valueAt (q :: qs) k=some q.2:=by simp [valueAt,List.find?_cons,e']
    rw [valV_pos e,b]; exact h2
   ·have e':¬ q.1=k:=fun z=>e (h1.trans z)
    have b:valueAt (q :: qs) k=valueAt qs k:=by simp [valueAt,List.find?_cons,e']
    rw [valV_neg e,b]; exact ih
theorem KV.any {kvs:List (κ×V)} {vs:List (κ×Value)} (r:KV kvs vs) (k:κ):(kvs.any fun kv=>decide (kv.1=k))=vs.any fun kv=>decide (kv.1=k):=by
 unfold KV at r
 induction r with
 | nil=>rfl
 | cons h t ih=>rw [List.any_cons,List.any_cons,ih,h.1]
theorem KV.repl {kvs:List (κ×V)} {vs:List (κ×Value)} (r:KV kvs vs) (k:κ) {y:V} {u:Value} (ry:RelV y u) :
 KV (kvs.map fun kv=>if kv.1=k then (kv.1,y) else kv) (vs.map fun kv=>if kv.1=k then (kv.1,u) else kv):=by
 unfold KV at r ⊢
 induction r with
 | nil=>exact .nil
 | @cons p q ps qs h t ih =>
   rw [List.map_cons,List.map_cons]
   refine .cons ?_ ih
   obtain⟨h1,h2⟩:=h
   by_cases e:p.1=k
   ·rw [if_pos e,if_pos (h1.symm.trans e)]; exact⟨h1,ry⟩
   ·rw [if_neg e,if_neg (fun z=>e (h1.trans z))]; exact⟨h1,h2⟩
theorem KV.put {kvs:List (κ×V)} {vs:List (κ×Value)} (r:KV kvs vs) (k:κ) {y:V} {u:Value} (ry:RelV y u):KV (putK kvs k y) (stored vs k u):=by
 unfold putK stored
 rw [r.any k]
 by_cases e:(vs.any fun kv=>decide (kv.1=k))=true
 ·rw [if_pos e,if_pos e]; exact r.repl k ry
 ·rw [if_neg e,if_neg e]; exact Paired.snoc r ⟨rfl,ry⟩
end
theorem kV_is {P:Program} {w:World} {k:Key} {u:Value} (r:RelV (kV k) u):(mixKind P w).is k u=true:=by
 cases k with
 | inl i=>obtain⟨t,e⟩:=(show ∃ t,u=Value.int i t from r); subst e; exact mixKind_int P w i t
 | inr x=>obtain⟨t,e⟩:=(show ∃ t,u=Value.str x t from r); subst e; exact mixKind_str P w x t
theorem items_are {P:Program} {w:World}:∀ {ks:List Key} {us:List Value},Vals (ks.map kV) us->ItemsAre (mixKind P w) ks us
 | [],_,r=>by rw [List.map_nil] at r; cases r; exact .nil
 | k :: ks,_,r=>by
   rw [List.map_cons] at r
   cases r with
   | cons h t=>exact .cons (kV_is h) (items_are t)
abbrev KT (H:Hp):List (List Key×V)->List (List Key×Addr×Value)->Prop:=Paired fun p q=>p.1=q.1/\H q.2.1=some (.tup (p.1.map kV))/\RelV p.2 q.2.2
theorem KT.val {H:Hp} {kvs:List (List Key×V)} {xs:List (List Key×Addr×Value)} (r:KT H kvs xs) (k:List Key):RelO (valV kvs k) ((atKey xs k).map (·.2)):=by
 induction r with
 | nil=>exact True.intro
 | @cons p q ps qs h t ih =>
   obtain⟨h1,_,h2⟩:=h
   by_cases e:p.1=k
   ·have e':q.1=k:=h1.symm.trans e
    have b:atKey (q :: qs) k=some q.2:=by simp [atKey,List.find?_cons,e']
    rw [valV_pos e,b]; exact h2
   ·have e':¬ q.1=k:=fun z=>e (h1.trans z)
    have b:atKey (q :: qs) k=atKey qs k:=by simp [atKey,List.find?_cons,e']
    rw [valV_neg e,b]; exact ih
section
variable {P:Program} {w:World} {H:Hp} {h:Heap} {a:Addr}
theorem rd_of {u:HO} (ok:HOk P w H h) (e:Rd H a u):ObjOk P w H h a u:=e.ok ok
theorem dk_rd {kvs:List (Key×V)} (ok:HOk P w H h) (e:Rd H a (.dK kvs)):kvs.length<=sizeLine/\(a == sysModules)=false/\∃ vs,KV kvs vs/\h.DictOf (mixKind P w) a vs :=
 show ObjOk P w H h a (.dK kvs) from rd_of ok e
theorem dk_of {kvs:List (Key×V)} (ok:HOk P w H h) (e:H a=some (.dK kvs)):kvs.length<=sizeLine/\(a == sysModules)=false/\∃ vs,KV kvs vs/\h.DictOf (mixKind P w) a vs:=dk_rd ok (.inl e)
theorem key_of {ks:List Key} (ok:HOk P w H h) (e:H a=some (.tup (ks.map kV))):(tupleKind (mixKind P w)).is h ks a:=by
 obtain⟨_,its,r,o,h1,h2,n,h3⟩:=(show ObjOk P w H h a (.tup (ks.map kV)) from ok a _ e)
 exact⟨o,its.toArray,n,h1,h2,h3,by simpa using items_are r⟩
theorem dt_rd {kvs:List (List Key×V)} (ok:HOk P w H h) (e:Rd H a (.dT kvs)):kvs.length<=sizeLine/\(a == sysModules)=false /\
 ∃ xs,KT H kvs xs/\h.DictOfH (tupleKind (mixKind P w)) a xs:=by
 obtain⟨z,y,xs,r,o,es,ep,h1,h2,h3,h4,h5⟩:=(show ObjOk P w H h a (.dT kvs) from rd_of ok e)
 refine⟨z,y,xs,r,o,es,ep,h1,h2,h3,h4,fun x hx=>?_,h5⟩
 have all:∀ {l:List (List Key×V)} {m:List (List Key×Addr×Value)},KT H l m->∀ x∈m,(tupleKind (mixKind P w)).is h x.1 x.2.1:=by
  intro l m q
  induction q with
  | nil=>intro x hx; exact nomatch hx
  | @cons p q ps qs hq t ih =>
    intro x hx
    rcases List.mem_cons.mp hx with e | hx
    ·subst e
     exact key_of ok (by rw [<- hq.1]; exact hq.2.1)
    ·exact ih x hx
 exact all r x hx
end
def DGet (H:Hp) (a:Addr) (y:V) (r:Option V):Prop :=
 (∃ kvs k,Rd H a (.dK kvs)/\y=kV k/\r=valV kvs k)\/∃ kvs k b,Rd H a (.dT kvs)/\y=.ref b/\H b=some (.tup (k.map kV))/\r=valV kvs k
theorem DGet.k {H:Hp} {a:Addr} {kvs:List (Key×V)} {k:Key} (e:H a=some (.dK kvs)):DGet H a (kV k) (valV kvs k):=.inl ⟨kvs,k,.inl e,rfl,rfl⟩
section
variable {X:Cx} {pins:List (Addr×Obj)} {σ:St} {H:Hp} {s:Shared} {a:Addr} {y v:V} {u r:Value} {o:Option V} {A:Around} {E:Value->Shared->Prop}
theorem Inv.big (I:Inv X pins σ H s):sysModules<s.heap.objs.size:=by
 have h:mainGlobals<s.heap.objs.size:=(I.mod.glob.keeps I.bk).lt
 exact Nat.lt_trans (by decide) h
theorem d_getItem {Q:Value->Shared->Prop} (hu:A.units+1<cLine) (I:Inv X pins σ H s) (g:DGet H a y (some v)) (ry:RelV y u) (h:∀ w' s',Inv X pins σ H s'->RelV v w'->Q w' s') :
 wpAny (model X.prog X.w) A (getItem (.ref a) u) Q E s:=by
 rcases g with ⟨kvs,k,e,ey,l⟩ | ⟨kvs,k,b,e,ey,eb,l⟩
 ·subst ey
  obtain⟨z,hd,vs,rel,dd⟩:=dk_rd I.hok e
  obtain⟨w',hw,rw'⟩:=RelO.some_of (v:=v) (o:=valueAt vs k) (by rw [l]; exact rel.val k)
  exact wpAny_getItem_of (kV_is ry) dd.mapOf hw (h w' _ (I.tok _) rw')
 ·subst ey
  cases (show u=Value.ref b from ry)
  obtain⟨z,hd,xs,rel,dd⟩:=dt_rd I.hok e
  obtain⟨w',hw,rw'⟩:=RelO.some_of (v:=v) (o:=(atKey xs k).map (·.2)) (by rw [l]; exact rel.val k)
  obtain⟨p,hp,hp2⟩:=Option.map_eq_some_iff.mp hw
  refine wpAny_getItem_heap (tupleKind_room_in1 hu) (key_of I.hok eb) dd hp ?_
  rw [hp2]
  exact h w' _ (I.tok _) rw'
theorem d_in {Q:Value->Shared->Prop} (hu:A.units+1<cLine) (I:Inv X pins σ H s) (g:DGet H a y o) (ry:RelV y u) (h:∀ s',Inv X pins σ H s'->Q (.bool o.isSome) s') :
 wpAny (model X.prog X.w) A (compareOp .In u (.ref a)) Q E s:=by
 rcases g with ⟨kvs,k,e,ey,l⟩ | ⟨kvs,k,b,e,ey,eb,l⟩
 ·subst ey
  obtain⟨z,hd,vs,rel,dd⟩:=dk_rd I.hok e
  refine wpAny_in_of (kV_is ry) hd dd.mapOf ?_
  rw [<- (rel.val k).isSome_eq,<- l]
  exact h _ (I.tok _)
 ·subst ey
  cases (show u=Value.ref b from ry)
  obtain⟨z,hd,xs,rel,dd⟩:=dt_rd I.hok e
  refine wpAny_in_heap (tupleKind_room_in1 hu) (key_of I.hok eb) hd dd ?_
  have q:=(rel.val k).isSome_eq
  rw [Option.isSome_map] at q
  rw [<- q,<- l]
  exact h _ (I.tok _)
theorem d_write {h':Heap} {t':Nat} {ob:HO} (I:Inv X pins σ H s) (mu:Mut (H a)) (hs:Heap.SameBut a s.heap h') (he:∃ q,h'.get? a=some q) (new:ObjOk X.prog X.w (upd H a ob) h' a ob) :
 Inv X pins σ (upd H a ob) { s with heap:=h',toks:=t' } :=
 I.write (x:=a) (e:=a) mu (.inl rfl) (fun b q hb z=>(hs.2 b hb).trans z) he new
theorem dk_new {P:Program} {w:World} {H':Hp} {h':Heap} {kvs:List (Key×V)} {vs:List (Key×Value)} (z:kvs.length<=sizeLine) (hd:(a == sysModules)=false) (rel:KV kvs vs) (dd:h'.DictOf (mixKind P w) a vs) :
 ObjOk P w H' h' a (.dK kvs):=⟨z,hd,vs,rel,dd⟩
end
section
variable {X:Cx} {pins:List (Addr×Obj)} {σ:St} {H:Hp} {s:Shared} {a:Addr} {kvs:List (Key×V)} {k:Key} {u:Value} {A:Around} {E:Value->Shared->Prop}
end
def NoSl (i:Expr):Prop:=∀ ov iv,subscripted i false ov iv=operate [ov,iv] (getItem ov iv)
theorem subD_of {prog:Program} {w:World} {A:Around} {E:Value->Shared->Prop} {s:Shared} {env:Env} {value slice:Expr} {pos:Pos} {T id:String} {Q:Value->Shared->Prop}
 (hl:typeLookup (.type T) "__getitem__" = pure (some (.builtin id))) (hs:NoSl slice)
 (h:wpAny (model prog w) A (eval value env) (fun o s₁=>wpAny (model prog w) A (eval slice env) (fun i s₂=>s₂.TypeIs o T/\wpAny (model prog w) A (getItem o i) Q E s₂) E s₁) E s) :
 wpAny (model prog w) A (eval (.Subscript value slice pos) env) Q E s:=by
 refine Subscript_ (wpAny_mono h (fun o s₁ h₁=>wpAny_mono h₁ (fun i s₂ h₂=>?_) fun _ _ x=>x) fun _ _ x=>x)
 obtain⟨hT,h₂⟩:=h₂
 unfold subscriptTail
 refine wpAny_bind ?_
 rw [getitemInPython_of_ne hT.not_modules]
 refine wpAny_bind (wpAny_specialOf hT hl ?_)
 have fin:wpAny (model prog w) A (subscripted slice false o i) (fun r s₃=>wpAny (model prog w) A (letTemporaryGo value o r >>= fun _=>pure r) Q E s₃) E s₂:=by
  rw [hs o i]
  exact wpAny_operating (wpAny_mono h₂ (fun r s₃ h₃=>wpAny_bind (wpAny_letTemporaryGo (wpAny_pure h₃))) fun _ _ x=>x)
 first
  | exact wpAny_pure (wpAny_bind fin)
  | exact wpAny_bind (wpAny_pure (wpAny_bind fin))
  | exact wpAny_bind fin
theorem dict_typeIs {X:Cx} {pins:List (Addr×Obj)} {σ:St} {H:Hp} {s:Shared} {a:Addr} {y:V} {o:Option V} (I:Inv X pins σ H s) (g:DGet H a y o):s.TypeIs (.ref a) "dict" := by
 rcases g with ⟨kvs,k,e,_,_⟩ | ⟨kvs,k,b,e,_,_,_⟩
 ·obtain⟨_,_,vs,_,dd⟩:=dk_rd I.hok e
  exact dd.typeIs
 ·obtain⟨_,_,xs,_,dd⟩:=dt_rd I.hok e
  exact dd.typeIs
def tDGet (td ty:TE):TE:=fun σ H Q=>td σ H fun x H1=>ty σ H1 fun y H2=>∃ a v,x=.ref a/\DGet H2 a y (some v)/\Q v H2
def tDIn (ty td:TE):TE:=fun σ H Q=>ty σ H fun y H1=>td σ H1 fun x H2=>∃ a o,x=.ref a/\DGet H2 a y o/\Q (.bl o.isSome) H2
section
variable {X:Cx} {o i e value:Expr} {pos pos' tpos:Pos} {td ty tv:TE}
theorem pe_dget (hu:X.A.units+1<cLine) (ho:PE X o td) (hi:PE X i ty) (hs:NoSl i):PE X (.Subscript o i pos) (tDGet td ty):=by
 walk_at"z3"
 refine subD_of PySem.F.slot_dict_getitem.lookup hs (thn (ho pins s σ H _ I h) fun u s1 ⟨x,H1,I1,rx,q1⟩=>thn (hi pins s1 σ H1 _ I1 q1) fun iv s2 ⟨y,H2,I2,ry,a,v,ex,g,q2⟩=>?_)
 subst ex
 obtain rfl:u=Value.ref a:=rx
 exact⟨dict_typeIs I2 g,d_getItem hu I2 g ry fun w' s3 I3 rw'=>⟨v,H2,I3,rw',q2⟩⟩
theorem pc_din (hu:X.A.units+1<cLine) (hi:PE X i ty) (ho:PE X o td):PC X .In i o (tDIn ty td):=by
 walk_at"z3"
 refine thn (hi pins s σ H _ I h) fun iv s1 ⟨y,H1,I1,ry,q1⟩=>thn (ho pins s1 σ H1 _ I1 q1) fun u s2 ⟨x,H2,I2,rx,a,ov,ex,g,q2⟩=>?_
 subst ex
 obtain rfl:u=Value.ref a:=rx
 exact d_in hu I2 g ry fun s3 I3=>⟨.bl ov.isSome,H2,I3,rfl,q2⟩
end
end L2
namespace L2
open PySem PySem.Spec PyProof.Rows
theorem dk_empty {P:Program} {w:World} {H:Hp} (h:Heap) (hb:sysModules<h.objs.size):ObjOk P w H (h.push { cls:=.type "dict", data:=.dict #[] }) h.objs.size (.dK []) :=
 ⟨Nat.zero_le _,beq_eq_false_iff_ne.mpr (Ne.symm (Nat.ne_of_lt hb)),[],.nil,Heap.DictOf.new h⟩
section
variable {X:Cx} {pos:Pos}
end
def tPairs:List (TE×TE)->St->Hp->(List (V×V)->Hp->Prop)->Prop
 | [],_,H,Q=>Q [] H
 | (tk,tv) :: r,σ,H,Q=>tk σ H fun x H1=>tv σ H1 fun y H2=>tPairs r σ H2 fun ps H3=>Q ((x,y) :: ps) H3
abbrev VV:List (V×V)->List (Value×Value)->Prop:=Paired fun p q=>RelV p.1 q.1/\RelV p.2 q.2
def PPs (X:Cx) (pos:Pos) (keys:List (Option Expr)) (values:List Expr) (trs:List (TE×TE)):Prop :=
 ∀ (pins:List (Addr×Obj)) (s:Shared) (σ:St) (H:Hp) (Q:List (V×V)->Hp->Prop),Inv X pins σ H s->tPairs trs σ H Q ->
  wpAny (model X.prog X.w) X.A (evalPairs (pairTrees keys values X.env pos)) (fun vs s'=>∃ ps H',Inv X pins σ H' s'/\VV ps vs/\Q ps H') X.xe s
theorem pps_nil {X:Cx} {pos:Pos}:PPs X pos [] [] []:=fun pins s σ H Q I h=>pairTrees_nil_walk ⟨[],H,I,.nil,h⟩
theorem pps_cons {X:Cx} {pos:Pos} {k v:Expr} {ks:List (Option Expr)} {vs:List Expr} {tk tv:TE} {trs:List (TE×TE)} (hk:PE X k tk) (hv:PE X v tv) (hr:PPs X pos ks vs trs) :
 PPs X pos (some k :: ks) (v :: vs) ((tk,tv) :: trs):=fun pins s σ H Q I h =>
 pairTrees_cons_walk (thn (hk pins s σ H _ I h) fun u s1 ⟨x,H1,I1,rx,q1⟩=>thn (hv pins s1 σ H1 _ I1 q1) fun w2 s2 ⟨y,H2,I2,ry,q2⟩ =>
  thn (hr pins s2 σ H2 _ I2 q2) fun ws s3 ⟨ps,H3,I3,rel,q3⟩=>⟨(x,y) :: ps,H3,I3,.cons ⟨rx,ry⟩ rel,q3⟩)
def mergeK (kvs more:List (Key×V)):List (Key×V):=more.foldl (fun acc kv=>putK acc kv.1 kv.2) kvs
theorem KV.merge:∀ {more:List (Key×V)} {rs:List (Key×Value)} {kvs:List (Key×V)} {vs:List (Key×Value)},KV more rs->KV kvs vs->KV (mergeK kvs more) (merged vs rs):=by
 intro more rs kvs vs r
 unfold KV at r
 induction r generalizing kvs vs with
 | nil=>intro q; exact q
 | @cons p q ps qs h t ih =>
   intro r0
   have e:KV (putK kvs p.1 p.2) (stored vs q.1 q.2):=by
    have:=r0.put p.1 h.2
    rw [<- h.1]; exact this
   exact ih e
theorem length_mergeK:∀ (more kvs:List (Key×V)),(mergeK kvs more).length<=kvs.length+more.length
 | [],kvs=>by show kvs.length<=kvs.length+0; lia
 | p :: r,kvs=>by
   have h1:=length_mergeK r (putK kvs p.1 p.2)
   have h2:=length_putK kvs p.1 p.2
   show (mergeK (putK kvs p.1 p.2) r).length<=_
   rw [List.length_cons]; lia
theorem carries_of {P:Program} {w:World}:∀ {kvs:List (Key×V)} {ws:List (Value×Value)},VV (kvs.map fun kv=>(kV kv.1,kv.2)) ws->∃ rs,Carries (mixKind P w) ws rs/\KV kvs rs
 | [],_,r=>by rw [List.map_nil] at r; cases r; exact⟨[],True.intro,.nil⟩
 | p :: kvs,_,r=>by
   rw [List.map_cons] at r
   cases r with
   | @cons a b as bs h t =>
     obtain⟨rs,c,q⟩:=carries_of (P:=P) (w:=w) t
     obtain⟨b1,b2⟩:=b
     exact⟨(p.1,b2) :: rs,⟨kV_is h.1,rfl,c⟩,.cons ⟨rfl,h.2⟩ q⟩
def tDisp (trs:List (TE×TE)):TE:=fun σ H Q=>∀ p,H p=none->tPairs trs σ (upd H p (.dK [])) fun ps H2=>H2 p=some (.dK [])/\∃ kvs:List (Key×V),ps=kvs.map (fun kv=>(kV kv.1,kv.2))/\kvs.length<=15/\Q (.ref p) (upd H2 p (.dK (mergeK [] kvs)))
theorem pe_disp {X:Cx} {pos:Pos} {keys:List (Option Expr)} {values:List Expr} {trs:List (TE×TE)} (h:PPs X pos keys values trs) (hall:keys.all (·.isSome)=true) (hl:keys.length=values.length) (h0:keys≠[])
 (h15:keys.length<=15):PE X (.Dict keys values pos) (tDisp trs):=by
 intro pins s σ H Q I q
 have hn:=I.hok.fresh (Nat.le_refl s.heap.objs.size)
 have I1:=I.laid (a:=s.heap.objs.size) (o:=.dK []) (h':=s.heap.push { cls:=.type "dict", data:=.dict #[] }) (t':=s.toks) (fun _ _ q=>Heap.get?_push_of_some _ q) (Nat.le_refl _) (dk_empty s.heap I.big)
 refine wpAny_Dict_walk (knd:=mixKind X.prog X.w) hall hl h0 h15 (thn (h pins _ σ _ _ I1 (q _ hn)) fun ws s2 ⟨ps,H2,I2,rel,e,kvs,ep,lk,q2⟩=>?_)
 subst ep
 obtain⟨rs,c,rk⟩:=carries_of (P:=X.prog) (w:=X.w) rel
 obtain⟨z,hd,vs0,r0,dd⟩:=dk_of I2.hok e
 cases r0
 refine⟨rs,c,dd,fun h' dd' hs=>⟨.ref s.heap.objs.size,_,?_,rfl,q2⟩⟩
 have hz:(mergeK [] kvs).length<=sizeLine:=by
  have h1:=length_mergeK kvs []
  rw [List.length_nil] at h1
  rw [sizeLine_eq]; lia
 have he:∃ q,h'.get? s.heap.objs.size=some q:=let ⟨q,_,_,hq,_⟩:=dd'; ⟨q,hq⟩
 exact d_write I2 (by rw [e]; exact True.intro) hs he (dk_new hz hd (rk.merge .nil) dd')
structure M1 (X:Cx) (o:Expr) (m:Str) (apos:Pos) (e:Expr) (cpos:Pos):Prop where
 base:attributeBase o m X.env (eval o X.env)=eval o X.env
 few:((backTo cpos (starEach [e] X.env)).all (fun x=>!x.1) && (backToKw cpos (keywordEach [] X.env)).all (fun x=>x.1.isSome)
  && decide (([e]:List Expr).length+([]:List Keyword).length+(if ([]:List Keyword).isEmpty then 0 else 1)<30))=true
 line:(apos.endLine == cpos.line)=true
 trees:backTo cpos (starEach [e] X.env)=[(false,eval e X.env)]
structure M2 (X:Cx) (o:Expr) (m:Str) (apos:Pos) (e f:Expr) (cpos:Pos):Prop where
 base:attributeBase o m X.env (eval o X.env)=eval o X.env
 few:((backTo cpos (starEach [e,f] X.env)).all (fun x=>!x.1) && (backToKw cpos (keywordEach [] X.env)).all (fun x=>x.1.isSome)
  && decide (([e,f]:List Expr).length+([]:List Keyword).length+(if ([]:List Keyword).isEmpty then 0 else 1)<30))=true
 line:(apos.endLine == cpos.line)=true
 trees:backTo cpos (starEach [e,f] X.env)=[(false,eval e X.env),(false,eval f X.env)]
def IsD (H:Hp) (a:Addr):Prop:=(∃ kvs,Rd H a (.dK kvs))\/∃ kvs,Rd H a (.dT kvs)
section
variable {X:Cx} {pins:List (Addr×Obj)} {σ:St} {H:Hp} {s:Shared} {a:Addr} {y d:V} {u r:Value} {o:Option V} {A:Around} {E:Value->Shared->Prop}
end
def tDGet2 (td ty tx:TE):TE:=fun σ H Q=>td σ H fun x H1=>∃ a,x=.ref a/\IsD H1 a/\ty σ H1 fun y H2=>tx σ H2 fun z H3=>∃ o,DGet H3 a y o/\Q (o.getD z) H3
section
variable {X:Cx} {o e f:Expr} {apos cpos:Pos} {td ty tx:TE}
end
end L2
namespace L2
open PySem PySem.Spec PyProof.Rows
def DMod (w:World) (K:PySem.W.Frag) (a:Addr) (kvs:List (Str×V)):Prop :=
 ∃ (es:Array DictEntry) (n:Nat),K.lookup a=some ⟨.type "dict", none,.dict es n,#[]⟩/\PySem.W.KeysLit w.params es.toList/\(a == sysModules)=false/\Paired (fun (p:Str×V) (e:DictEntry)=>∃ t,e.key=.str p.1 t/\RelV p.2 e.val) kvs es.toList
theorem find_rows (x:Str):∀ {kvs:List (Str×V)} {es:List DictEntry},Paired (fun (p:Str×V) (e:DictEntry)=>∃ t,e.key=.str p.1 t/\RelV p.2 e.val) kvs es->RelO (kvs.lookup x) ((es.find? fun e=>Value.isStrOf x e.key).map (·.val))
 | _,_,.nil=>by
   show RelO none none
   trivial
 | (k,v) :: r,e :: es,.cons ⟨t,h1,h2⟩ q=>by
   have ih:=find_rows x q
   rw [List.lookup_cons,List.find?_cons,h1]
   by_cases h:x=k
   ·subst h
    rw [show Value.isStrOf x (.str x t)=true from by simp [Value.isStrOf],beq_self_eq_true]
    exact h2
   ·rw [show Value.isStrOf x (.str k t)=false from by simp [Value.isStrOf]; exact fun z=>h z.symm,show (x == k)=false from beq_eq_false_iff_ne.mpr h]
    exact ih
section
variable {X:Cx} {pins:List (Addr×Obj)} {σ:St} {H:Hp} {s:Shared} {a:Addr} {x:Str} {t:Tok} {v:V} {kvs:List (Str×V)} {A:Around} {E:Value->Shared->Prop}
theorem dm_dict (I:Inv X pins σ H s) (h:DMod X.w X.K a kvs):∃ f:Str->Option Value,(a == sysModules)=false/\s.heap.MapOf (strKind X.prog X.w) a f/\∀ x,RelO (kvs.lookup x) (f x):=by
 obtain⟨es,n,h1,h2,h3,h4⟩:=h
 refine⟨_,h3,PySem.W.mapOf_K I.kIn h1 h2,fun x=>?_⟩
 obtain⟨l⟩:=es
 have:=find_rows x h4
 unfold findBy
 rw [List.find?_toArray]
 exact this
theorem dm_get {Q:Value->Shared->Prop} (I:Inv X pins σ H s) (h:DMod X.w X.K a kvs) (hv:kvs.lookup x=some v) (q:∀ w' s',Inv X pins σ H s'->RelV v w'->Q w' s'):wpAny (model X.prog X.w) A (getItem (.ref a) (.str x t)) Q E s:=by
 obtain⟨f,h1,h2,h3⟩:=dm_dict I h
 obtain⟨w',hw,rw'⟩:=RelO.some_of (v:=v) (o:=f x) (by rw [<- hv]; exact h3 x)
 exact wpAny_getItem_of (strKind_is X.prog X.w x t) h2 hw (q w' _ (I.tok _) rw')
theorem dm_in {Q:Value->Shared->Prop} (I:Inv X pins σ H s) (h:DMod X.w X.K a kvs) (q:∀ s',Inv X pins σ H s'->Q (.bool (kvs.lookup x).isSome) s'):wpAny (model X.prog X.w) A (compareOp .In (.str x t) (.ref a)) Q E s:=by
 obtain⟨f,h1,h2,h3⟩:=dm_dict I h
 refine wpAny_in_of (strKind_is X.prog X.w x t) h1 h2 ?_
 rw [<- (h3 x).isSome_eq]
 exact q _ (I.tok _)
theorem dm_notIn {Q:Value->Shared->Prop} (I:Inv X pins σ H s) (h:DMod X.w X.K a kvs) (q:∀ s',Inv X pins σ H s'->Q (.bool (!(kvs.lookup x).isSome)) s'):wpAny (model X.prog X.w) A (compareOp .NotIn (.str x t) (.ref a)) Q E s:=by
 obtain⟨f,h1,h2,h3⟩:=dm_dict I h
 refine wpAny_notIn_of (strKind_is X.prog X.w x t) h1 h2 ?_
 rw [<- (h3 x).isSome_eq]
 exact q _ (I.tok _)
theorem dm_typeIs (I:Inv X pins σ H s) (h:DMod X.w X.K a kvs):s.TypeIs (.ref a) "dict" := by
 obtain⟨f,h1,h2,h3⟩:=dm_dict I h
 exact h2.typeIs
end
def tMIn (kvs:List (Str×V)) (neg:Bool) (ty:TE):TE:=fun σ H Q=>ty σ H fun y H1=>∃ x,y=.str x/\Q (.bl (if neg then !(kvs.lookup x).isSome else (kvs.lookup x).isSome)) H1
def tMGet (kvs:List (Str×V)) (ty:TE):TE:=fun σ H Q=>ty σ H fun y H1=>∃ x v,y=.str x/\kvs.lookup x=some v/\Q v H1
section
variable {X:Cx} {i:Expr} {pos p p2:Pos} {ty:TE} {D:Str} {a:Addr} {kvs:List (Str×V)}
theorem pc_min (hg:Gl X D) (hm:X.mg D=some (.ref a)) (hd:DMod X.w X.K a kvs) (hi:PE X i ty) (hdb:(D == ("__debug__" : Str))=false:=by decide):PC X .In i (.Name D p) (tMIn kvs false ty):=by
 walk_at"z3"
 refine thn (hi pins s σ H _ I h) fun iv s1 ⟨y,H1,I1,ry,q1⟩=>?_
 obtain⟨x,rfl,q⟩:=q1
 obtain⟨t,rfl⟩:=ry
 exact ld_glob I1 hg hm (dm_in I1 hd fun s3 I3=>⟨.bl _,H1,I3,rfl,q⟩) hdb
theorem pc_mnotin (hg:Gl X D) (hm:X.mg D=some (.ref a)) (hd:DMod X.w X.K a kvs) (hi:PE X i ty) (hdb:(D == ("__debug__" : Str))=false:=by decide):PC X .NotIn i (.Name D p) (tMIn kvs true ty):=by
 walk_at"z3"
 refine thn (hi pins s σ H _ I h) fun iv s1 ⟨y,H1,I1,ry,q1⟩=>?_
 obtain⟨x,rfl,q⟩:=q1
 obtain⟨t,rfl⟩:=ry
 exact ld_glob I1 hg hm (dm_notIn I1 hd fun s3 I3=>⟨.bl _,H1,I3,rfl,q⟩) hdb
theorem pe_mget (hg:Gl X D) (hm:X.mg D=some (.ref a)) (hd:DMod X.w X.K a kvs) (hi:PE X i ty) (hs:NoSl i) (hdb:(D == ("__debug__" : Str))=false:=by decide):PE X (.Subscript (.Name D p) i pos) (tMGet kvs ty):=by
 walk_at"z3"
 refine subD_of PySem.F.slot_dict_getitem.lookup hs (ld_glob I hg hm (thn (hi pins s σ H _ I h) fun iv s2 ⟨y,H2,I2,ry,q⟩=>?_) hdb)
 obtain⟨x,v,rfl,hl,q⟩:=q
 obtain⟨t,rfl⟩:=ry
 exact⟨dm_typeIs I2 hd,dm_get I2 hd hl fun w' s3 I3 rw'=>⟨v,H2,I3,rw',q⟩⟩
end
def FnAt (P:Program) (w:World) (K:PySem.W.Frag) (mg:Str->Option Value) (base:Heap) (CX:CXT) (k:Nat) (f:Addr) (sp:Sp):Prop:=∃ fd ps,FnOk P w K mg base CX k f fd ps sp/\PySem.W.keepIn K (.ref f)=true/\Binds K fd ps []
def tCallV (C:Addr->Sp->Prop) (E:XK) (i:Nat) (t:TA):TE:=fun σ H Q=>tVar i σ H fun x H1=>∃ f sp,x=.ref f/\C f sp/\t σ H1 fun vs H2=>sp vs H2 Q E
theorem pe_callV {X:Cx} {CX:CXT} {E:XK} {i k:Nat} {x:Str} {e:Expr} {es:List Expr} {t:TA} {p pos:Pos} (hv:PE X (.Name x p) (tVar i)) (hr:Room k X.A) (hx:Passes CX X E) (ha:PA X (e :: es) t)
 (he:starEach (e :: es) X.env=(false,eval e X.env) :: starEach es X.env:=by rfl) (hpl:(backTo pos (starEach es X.env)).any (·.1)=false:=by rfl) :
 PE X (.Call (.Name x p) (e :: es) [] pos) (tCallV (FnAt X.prog X.w X.K X.mg X.base CX k) E i t):=by
 walk_at"z3"
 refine wpAny_Call_Name_kw (thn (hv pins s σ H _ I h) fun u s0 ⟨v,H0,I0,r0,q0⟩=>?_)
 obtain⟨f,sp,rfl,⟨fd,ps,F,hk,hb⟩,q⟩:=q0
 obtain rfl:u=Value.ref f:=r0
 refine PySem.W.callWith_K (h₀:=X.base) I0.ok.mod.kin hk (thn (ha pos pins s0 σ H0 _ I0 q) fun us s1 ⟨vs,H1,I1,r,q'⟩=>⟨I1.kIn,?_⟩) he hpl
 exact run_fn (dvs:=[]) F hr hb .nil hx I1 r (by simpa using q')
theorem CalleeE.at {P:Program} {w:World} {K:PySem.W.Frag} {mg:Str->Option Value} {base:Heap} {x:Str} {j k:Nat} {sp:Sp} {f:Addr} (C:CalleeE P w K mg base x j sp) (h:j<=k) (hm:mg x=some (.ref f)):FnAt P w K mg base (CXE P w) k f sp:=by
 obtain⟨f',fd,ps,F,hm',hk,hb⟩:=C
 rw [hm] at hm'
 cases hm'
 exact⟨fd,ps,F.mono h,hk,hb⟩
section
variable {P:Program} {w:World} {K:PySem.W.Frag} {mg:Str->Option Value} {base:Heap} {N:List Str} {qual:Str} {scope:Scope} {f:Addr} {cd:Value} {A:Around} {outer:List Env} {s:Shared} {H:Hp} {E E':XK} {C:Addr} {m:Str} {k:Nat} {sp:Sp} {o e0:Expr} {es:List Expr} {ta:TE} {t:TA} {apos pos:Pos} {pl:Sem Bool}
theorem pe_meth0E (Ca:CalleeM (CXE P w) P w K mg base C m k sp) (c:Cls K C) (he:PE (cxOf (CXE P w) P w K mg base N qual scope f cd A outer s H E) o ta) (hr:Room k (A.deeper (envOfC qual scope s.heap.objs.size f cd))) (hE:∀ c d H',E' c d H'->E c d H':=by exact fun _ _ _ z=>z)
 (ht:eval (.Call (.Attribute o m apos) [] [] pos) (envOfC qual scope s.heap.objs.size f cd)=(do
  let ov <- eval o (envOfC qual scope s.heap.objs.size f cd)
  standAt apos.atName
  let (f',first) <- holding [ov] (getMethod ov m pl)
  callWith pos f' first (backTo pos (starEach [] (envOfC qual scope s.heap.objs.size f cd))) (backToKw pos (keywordEach [] (envOfC qual scope s.heap.objs.size f cd)))):=by rfl) :
 PE (cxOf (CXE P w) P w K mg base N qual scope f cd A outer s H E) (.Call (.Attribute o m apos) [] [] pos) (tMeth C m sp [] E' ta tNil):=by
 obtain⟨f',fd,ps,F,hm,hb⟩:=Ca
 exact pe_meth0 (pl:=pl) he c hm F hr hb .nil (pass_exc hE) (ht:=ht)
theorem pe_methE (Ca:CalleeM (CXE P w) P w K mg base C m k sp) (c:Cls K C) (he:PE (cxOf (CXE P w) P w K mg base N qual scope f cd A outer s H E) o ta) (hr:Room k (A.deeper (envOfC qual scope s.heap.objs.size f cd))) (ha:PA (cxOf (CXE P w) P w K mg base N qual scope f cd A outer s H E) (e0 :: es) t) (hE:∀ c d H',E' c d H'->E c d H':=by exact fun _ _ _ z=>z)
 (hst:starEach (e0 :: es) (envOfC qual scope s.heap.objs.size f cd)=(false,eval e0 (envOfC qual scope s.heap.objs.size f cd)) :: starEach es (envOfC qual scope s.heap.objs.size f cd):=by rfl) (hpl:(backTo pos (starEach es (envOfC qual scope s.heap.objs.size f cd))).any (·.1)=false:=by rfl)
 (ht:eval (.Call (.Attribute o m apos) (e0 :: es) [] pos) (envOfC qual scope s.heap.objs.size f cd)=(do
  let ov <- eval o (envOfC qual scope s.heap.objs.size f cd)
  standAt apos.atName
  let (f',first) <- holding [ov] (getMethod ov m pl)
  callWith pos f' first (backTo pos (starEach (e0 :: es) (envOfC qual scope s.heap.objs.size f cd))) (backToKw pos (keywordEach [] (envOfC qual scope s.heap.objs.size f cd)))):=by rfl) :
 PE (cxOf (CXE P w) P w K mg base N qual scope f cd A outer s H E) (.Call (.Attribute o m apos) (e0 :: es) [] pos) (tMeth C m sp [] E' ta t):=by
 obtain⟨f',fd,ps,F,hm,hb⟩:=Ca
 exact pe_meth (pl:=pl) he c hm F hr hb .nil (pass_exc hE) ha (hst:=hst) (hpl:=hpl) (ht:=ht)
end
end L2
namespace L2
open PySem PySem.Spec PyProof.Rows
def tFmt2 (z:Str) (t1 t2:TE):TE:=fun σ H Q=>t1 σ H fun x H1=>∃ i,x=.int i/\Small i/\t2 σ H1 fun y H2=>∃ j,y=.int j/\Small j/\Q (.str (tx i++z++tx j)) H2
theorem pps4 {X:Cx} {pos:Pos} {k1 k2 k3 k4:Str} {v1 v2 v3 v4:Int} {j1 j2 j3 j4 m1 m2 m3 m4:Nat} {p1 p2 p3 p4 q1 q2 q3 q4:Pos}:PPs X pos [some (.Constant (.str k1) j1 p1),some (.Constant (.str k2) j2 p2),some (.Constant (.str k3) j3 p3),some (.Constant (.str k4) j4 p4)] [.Constant (.int v1) m1 q1,.Constant (.int v2) m2 q2,.Constant (.int v3) m3 q3,.Constant (.int v4) m4 q4] [(tC (.str k1),tC (.int v1)),(tC (.str k2),tC (.int v2)),(tC (.str k3),tC (.int v3)),(tC (.str k4),tC (.int v4))]:=by
 have h5:PPs X pos [] [] []:=pps_nil
 have h4:PPs X pos [some (.Constant (.str k4) j4 p4)] [.Constant (.int v4) m4 q4] [(tC (.str k4),tC (.int v4))]:=pps_cons (k:=.Constant (.str k4) j4 p4) (v:=.Constant (.int v4) m4 q4) pe_str pe_int h5
 have h3:PPs X pos [some (.Constant (.str k3) j3 p3),some (.Constant (.str k4) j4 p4)] [.Constant (.int v3) m3 q3,.Constant (.int v4) m4 q4] [(tC (.str k3),tC (.int v3)),(tC (.str k4),tC (.int v4))]:=pps_cons (k:=.Constant (.str k3) j3 p3) (v:=.Constant (.int v3) m3 q3) pe_str pe_int h4
 have h2:PPs X pos [some (.Constant (.str k2) j2 p2),some (.Constant (.str k3) j3 p3),some (.Constant (.str k4) j4 p4)] [.Constant (.int v2) m2 q2,.Constant (.int v3) m3 q3,.Constant (.int v4) m4 q4] [(tC (.str k2),tC (.int v2)),(tC (.str k3),tC (.int v3)),(tC (.str k4),tC (.int v4))]:=pps_cons (k:=.Constant (.str k2) j2 p2) (v:=.Constant (.int v2) m2 q2) pe_str pe_int h3
 have h1:PPs X pos [some (.Constant (.str k1) j1 p1),some (.Constant (.str k2) j2 p2),some (.Constant (.str k3) j3 p3),some (.Constant (.str k4) j4 p4)] [.Constant (.int v1) m1 q1,.Constant (.int v2) m2 q2,.Constant (.int v3) m3 q3,.Constant (.int v4) m4 q4] [(tC (.str k1),tC (.int v1)),(tC (.str k2),tC (.int v2)),(tC (.str k3),tC (.int v3)),(tC (.str k4),tC (.int v4))]:=pps_cons (k:=.Constant (.str k1) j1 p1) (v:=.Constant (.int v1) m1 q1) pe_str pe_int h2
 exact h1
end L2
namespace L2
open PySem PySem.Spec PyProof.Rows
def Cut (u N:St->Hp->Prop):Prop:=∀ σ H,u σ H->N σ H
theorem cut_seq {t u:TS} {D:Ends} {σ:St} {H:Hp} (h:∀ N:St->Hp->Prop,Cut (u D) N->t { D with nx:=N } σ H):tSeq t u D σ H:=h (u D) fun _ _ z=>z
theorem cut_on {u N:St->Hp->Prop} {σ:St} {H:Hp} (k:Cut u N) (h:u σ H):N σ H:=k _ _ h
end L2
namespace L2
open PySem
theorem psS {X:Cx} {pos:Pos} (i:Nat) {x:Str} {e:Expr} {te:TE} {pos':Pos} (hN:X.N.Nodup) (he:PE X e te) (hi:X.N[i]?=some x:=by rfl) (hx:Loc X.env.scope x:=by exact Or.inl rfl) (hs:swapsWith e (some (.Name x pos')) pos.line X.env=pure false:=by rfl) (hf:X.fn x=true\/X.env.scope.names.lookup x=some .local:=by first | exact .inl rfl | exact .inr rfl | assumption):PS X (.Assign [.Name x pos'] e pos) (tAsg te (gName i)):=ps_set hN hi hx he hs hf
end L2
namespace My
open PySem L2 M
local macro_rules | `(tactic| walk_at"s1")=>`(tactic| first
 | with_reducible refine i_var rfl ?_
 | with_reducible refine i_I0 ?_
 | with_reducible refine iteF ?_
 | with_reducible refine iteNT ?_
 | with_reducible refine iteNF ?_
 | with_reducible refine iteT ?_
 | with_reducible refine i_truB ?_
 | with_reducible refine i_addI ?_
 | with_reducible refine i_U ?_
 | with_reducible refine i_isB ?_
 | with_reducible refine i_isNotB ?_
 | with_reducible refine i_eqI ?_
 | with_reducible refine i_neI ?_
 | with_reducible refine i_intB ?_
 | with_reducible refine i_abs ?_
 | with_reducible refine i_isiII ?_
 | with_reducible refine i_isiIB ?_
 | with_reducible refine i_isiIL ?_
 | with_reducible refine i_isiID ?_
 | with_reducible refine i_isiIT ?_
 | with_reducible refine i_isiBB ?_
 | with_reducible refine i_div (by lia) (by lia) ?_
 | with_reducible refine i_mod (by lia) ?_
 | with_reducible refine And.intro (szl (Nat.le_of_ble_eq_true rfl)) ?_
 | with_reducible refine⟨_,rfl,?_⟩
 | (with_reducible refine cut_seq (fun _ _=>?_); walk_at"un")
 | (with_reducible refine cut_on (by assumption) ?_; walk_at"un"))
local macro_rules | `(tactic| walk_at"un")=>`(tactic| try dsimp only [tAsg,gName,tOp,tUn,tTest,tB,tAnd,tOr,tNot,tAndV,tOrV,tNotV,tIf,tIfS,tRet,tRetN,tDrop,tNext,tCons,tNil,tCB,tCall,tMenu,tComp,tComp2,msk,List.zipWith,tMakeS,tMIn,tMGet,tCallV,tFmt2,tDisp,tPairs,tDGet2,tDGet,tDIn,iZip2,iStr,iEnum,tNoIf,tTru,tJoin,cxOf_K,tLst,tTup,tSl,tPart,tNoPart,tBM,tBM0,tChain,tC,tFor_eq,gTup,gStar,gLst,gCons,gNil,gSub,iList,iRng1,iRng2,iRng3,iTup,iZip3,tWhile,tRev,tFld,sFld,tMeth,tMethS,tMake,tRaise,tCallS,tTry,tAug,tPar,tNever,ipI,List.append_nil])
local macro_rules | `(tactic| walk_at"s")=>`(tactic| (walk_at"un"; repeat walk_at"s1"))
abbrev BdOk (a b:String) (st:Stmt) (ps:List Str):Prop:=∀ (kV doc pm:Value) (an:Option Addr) (cdv ct:Value) (us:List Value) (hl:us.length=ps.length),bindArgs (PySem.W.fnOf a b (defArgs st) (defBody st) (defScope st) .none kV doc pm an cdv ct) ⟨us,[]⟩=pure (ps.zip us)
theorem len1 {us:List Value} (h:us.length=1):∃ a0:Value,us=[a0]:=by
 rcases us with _ | ⟨a0,us⟩ <;> simp at h
 subst h
 exact⟨a0,rfl⟩
theorem len2 {us:List Value} (h:us.length=2):∃ a0 a1:Value,us=[a0,a1]:=by
 rcases us with _ | ⟨a0,us⟩ <;> simp at h
 rcases us with _ | ⟨a1,us⟩ <;> simp at h
 subst h
 exact⟨a0,a1,rfl⟩
theorem len3 {us:List Value} (h:us.length=3):∃ a0 a1 a2:Value,us=[a0,a1,a2]:=by
 rcases us with _ | ⟨a0,us⟩ <;> simp at h
 rcases us with _ | ⟨a1,us⟩ <;> simp at h
 rcases us with _ | ⟨a2,us⟩ <;> simp at h
 subst h
 exact⟨a0,a1,a2,rfl⟩
theorem len4 {us:List Value} (h:us.length=4):∃ a0 a1 a2 a3:Value,us=[a0,a1,a2,a3]:=by
 rcases us with _ | ⟨a0,us⟩ <;> simp at h
 rcases us with _ | ⟨a1,us⟩ <;> simp at h
 rcases us with _ | ⟨a2,us⟩ <;> simp at h
 rcases us with _ | ⟨a3,us⟩ <;> simp at h
 subst h
 exact⟨a0,a1,a2,a3,rfl⟩
theorem len5 {us:List Value} (h:us.length=5):∃ a0 a1 a2 a3 a4:Value,us=[a0,a1,a2,a3,a4]:=by
 rcases us with _ | ⟨a0,us⟩ <;> simp at h
 rcases us with _ | ⟨a1,us⟩ <;> simp at h
 rcases us with _ | ⟨a2,us⟩ <;> simp at h
 rcases us with _ | ⟨a3,us⟩ <;> simp at h
 rcases us with _ | ⟨a4,us⟩ <;> simp at h
 subst h
 exact⟨a0,a1,a2,a3,a4,rfl⟩
local macro_rules | `(tactic| walk_at"c")=>`(tactic| exact⟨rfl,rfl,rfl,by decide+kernel,rfl,by decide+kernel,by decide+kernel⟩)
def top (i:Nat):Stmt:=PySem.Challenge.pw_lugtrain_k32_whole_desk_rows.main.body.getD i (.Pass ⟨0,0,0,0⟩)
abbrev Gq0:Stmt:=top 49
theorem Uq0:FnScope ["word", "figures"] ["word"] (defScope Gq0):=by walk_at"c"
theorem Jq0:BdOk "is_number" "is_number" Gq0 ["word"]:=fun _ _ _ _ _ _ us hl=>by obtain⟨a0,rfl⟩:=len1 hl; rfl
abbrev Gq1:Stmt:=top 50
theorem Uq1:FnScope ["words"] ["words"] (defScope Gq1):=by walk_at"c"
theorem Jq1:BdOk "are_numbers" "are_numbers" Gq1 ["words"]:=fun _ _ _ _ _ _ us hl=>by obtain⟨a0,rfl⟩:=len1 hl; rfl
abbrev Gq2:Stmt:=top 51
theorem Uq2:FnScope ["words"] ["words"] (defScope Gq2):=by walk_at"c"
theorem Jq2:BdOk "numbers_of" "numbers_of" Gq2 ["words"]:=fun _ _ _ _ _ _ us hl=>by obtain⟨a0,rfl⟩:=len1 hl; rfl
abbrev Gq3:Stmt:=top 58
theorem Uq3:FnScope ["word", "rest", "least", "most"] ["word", "rest"] (defScope Gq3):=by walk_at"c"
theorem Jq3:BdOk "has_form" "has_form" Gq3 ["word", "rest"]:=fun _ _ _ _ _ _ us hl=>by obtain⟨a0,a1,rfl⟩:=len2 hl; rfl
abbrev Gq4:Stmt:=top 59
theorem Uq4:FnScope ["row", "word", "rest"] ["row"] (defScope Gq4):=by walk_at"c"
theorem Jq4:BdOk "parted" "parted" Gq4 ["row"]:=fun _ _ _ _ _ _ us hl=>by obtain⟨a0,rfl⟩:=len1 hl; rfl
abbrev Gq5:Stmt:=inClass (top 71) 0
theorem Uq5:FnScope ["self"] ["self"] (defScope Gq5):=by walk_at"c"
theorem Jq5:BdOk "__init__" "Desk.__init__" Gq5 ["self"]:=fun _ _ _ _ _ _ us hl=>by obtain⟨a0,rfl⟩:=len1 hl; rfl
abbrev Gq6:Stmt:=inClass (top 71) 1
theorem Uq6:FnScope ["self", "row", "word", "numbers"] ["self", "row"] (defScope Gq6):=by walk_at"c"
theorem Jq6:BdOk "say" "Desk.say" Gq6 ["self", "row"]:=fun _ _ _ _ _ _ us hl=>by obtain⟨a0,a1,rfl⟩:=len2 hl; rfl
abbrev Gq7:Stmt:=inClass (top 71) 2
theorem Uq7:FnScope ["self"] ["self"] (defScope Gq7):=by walk_at"c"
theorem Jq7:BdOk "take_back" "Desk.take_back" Gq7 ["self"]:=fun _ _ _ _ _ _ us hl=>by obtain⟨a0,rfl⟩:=len1 hl; rfl
abbrev Gq8:Stmt:=inClass (top 71) 3
theorem Uq8:FnScope ["self", "word", "numbers", "state", "deed"] ["self", "word", "numbers"] (defScope Gq8):=by walk_at"c"
theorem Jq8:BdOk "do" "Desk.do" Gq8 ["self", "word", "numbers"]:=fun _ _ _ _ _ _ us hl=>by obtain⟨a0,a1,a2,rfl⟩:=len3 hl; rfl
abbrev Gq9:Stmt:=inClass (top 71) 4
theorem Uq9:FnScope ["self", "word", "numbers", "asked"] ["self", "word", "numbers"] (defScope Gq9):=by walk_at"c"
theorem Jq9:BdOk "tell" "Desk.tell" Gq9 ["self", "word", "numbers"]:=fun _ _ _ _ _ _ us hl=>by obtain⟨a0,a1,a2,rfl⟩:=len3 hl; rfl
abbrev Gq10:Stmt:=inClass (top 71) 5
theorem Uq10:FnScope ["self"] ["self"] (defScope Gq10):=by walk_at"c"
theorem Jq10:BdOk "state" "Desk.state" Gq10 ["self"]:=fun _ _ _ _ _ _ us hl=>by obtain⟨a0,rfl⟩:=len1 hl; rfl
abbrev Gq11:Stmt:=top 74
theorem Uq11:FnScope ["cell", "many", "base", "found", "rest", "stirred", "k"] ["cell", "many", "base"] (defScope Gq11):=by walk_at"c"
theorem Jq11:BdOk "_law_draws" "_law_draws" Gq11 ["cell", "many", "base"]:=fun _ _ _ _ _ _ us hl=>by obtain⟨a0,a1,a2,rfl⟩:=len3 hl; rfl
abbrev Gq12:Stmt:=top 75
theorem Uq12:FnScope ["plays", "wheels", "place", "found", "ahead", "play", "at"] ["plays", "wheels", "place"] (defScope Gq12):=by walk_at"c"
theorem Jq12:BdOk "_law_all" "_law_all" Gq12 ["plays", "wheels", "place"]:=fun _ _ _ _ _ _ us hl=>by obtain⟨a0,a1,a2,rfl⟩:=len3 hl; rfl
abbrev Gq13:Stmt:=top 76
theorem Uq13:FnScope ["word", "figures", "sign"] ["word"] (defScope Gq13):=by walk_at"c"
theorem Jq13:BdOk "_law_a_number" "_law_a_number" Gq13 ["word"]:=fun _ _ _ _ _ _ us hl=>by obtain⟨a0,rfl⟩:=len1 hl; rfl
abbrev Gq14:Stmt:=top 77
theorem Uq14:FnScope ["numbers"] ["numbers"] (defScope Gq14):=by walk_at"c"
theorem Jq14:BdOk "_law_a_words" "_law_a_words" Gq14 ["numbers"]:=fun _ _ _ _ _ _ us hl=>by obtain⟨a0,rfl⟩:=len1 hl; rfl
abbrev Gq15:Stmt:=top 78
theorem Uq15:FnScope ["row", "head", "many", "words", "found"] ["row", "head", "many"] (defScope Gq15):=by walk_at"c"
theorem Jq15:BdOk "_law_a_numbers" "_law_a_numbers" Gq15 ["row", "head", "many"]:=fun _ _ _ _ _ _ us hl=>by obtain⟨a0,a1,a2,rfl⟩:=len3 hl; rfl
abbrev Gq16:Stmt:=top 79
theorem Uq16:FnScope ["plays", "handle", "wheels", "ahead", "play", "at"] ["plays", "handle", "wheels"] (defScope Gq16):=by walk_at"c"
theorem Jq16:BdOk "_law_keeps" "_law_keeps" Gq16 ["plays", "handle", "wheels"]:=fun _ _ _ _ _ _ us hl=>by obtain⟨a0,a1,a2,rfl⟩:=len3 hl; rfl
abbrev Gq17:Stmt:=top 80
theorem Uq17:FnScope ["text", "picks", "some", "few", "sign", "at", "marks", "words", "k"] ["text", "picks"] (defScope Gq17):=by walk_at"c"
theorem Jq17:BdOk "_law_spoilt" "_law_spoilt" Gq17 ["text", "picks"]:=fun _ _ _ _ _ _ us hl=>by obtain⟨a0,a1,rfl⟩:=len2 hl; rfl
abbrev Gq18:Stmt:=top 81
theorem Uq18:FnScope ["e", "kin"] ["e"] (defScope Gq18):=by walk_at"c"
theorem Jq18:BdOk "_law_a_kin" "_law_a_kin" Gq18 ["e"]:=fun _ _ _ _ _ _ us hl=>by obtain⟨a0,rfl⟩:=len1 hl; rfl
abbrev Gq19:Stmt:=top 82
theorem Uq19:FnScope ["name", "names"] ["name"] (defScope Gq19):=by walk_at"c"
theorem Jq19:BdOk "_law_due_kin" "_law_due_kin" Gq19 ["name"]:=fun _ _ _ _ _ _ us hl=>by obtain⟨a0,rfl⟩:=len1 hl; rfl
abbrev Gq20:Stmt:=top 83
theorem Uq20:FnScope ["held", "end", "goal", "plays", "handle", "wheels", "gone", "moved_v", "row", "side", "here", "wheel", "depth", "there", "off"] ["held", "end", "goal"] (defScope Gq20):=by walk_at"c"
theorem Jq20:BdOk "_law_a_least" "_law_a_least" Gq20 ["held", "end", "goal"]:=fun _ _ _ _ _ _ us hl=>by obtain⟨a0,a1,a2,rfl⟩:=len3 hl; rfl
abbrev Gq21:Stmt:=top 84
theorem Uq21:FnScope ["held", "head", "numbers", "plays", "handle", "wheels", "gone", "row", "total", "here", "place"] ["held", "head", "numbers"] (defScope Gq21):=by walk_at"c"
theorem Jq21:BdOk "_law_answer" "_law_answer" Gq21 ["held", "head", "numbers"]:=fun _ _ _ _ _ _ us hl=>by obtain⟨a0,a1,a2,rfl⟩:=len3 hl; rfl
abbrev Gq22:Stmt:=top 85
theorem Uq22:FnScope ["held", "head", "numbers", "plays", "handle", "wheels", "gone", "place", "behind"] ["held", "head", "numbers"] (defScope Gq22):=by walk_at"c"
theorem Jq22:BdOk "_law_a_behind" "_law_a_behind" Gq22 ["held", "head", "numbers"]:=fun _ _ _ _ _ _ us hl=>by obtain⟨a0,a1,a2,rfl⟩:=len3 hl; rfl
abbrev Gq23:Stmt:=top 86
theorem Uq23:FnScope ["held", "picks", "plays", "handle", "wheels", "gone", "form", "many", "scale", "far", "some", "span", "pick", "row", "end", "k", "play", "offs"] ["held", "picks"] (defScope Gq23):=by walk_at"c"
theorem Jq23:BdOk "_law_row_drawn" "_law_row_drawn" Gq23 ["held", "picks"]:=fun _ _ _ _ _ _ us hl=>by obtain⟨a0,a1,rfl⟩:=len2 hl; rfl
abbrev Gq24:Stmt:=top 87
theorem Uq24:FnScope ["held", "row", "words", "needs", "head", "numbers"] ["held", "row"] (defScope Gq24):=by walk_at"c"
theorem Jq24:BdOk "_law_read_row" "_law_read_row" Gq24 ["held", "row"]:=fun _ _ _ _ _ _ us hl=>by obtain⟨a0,a1,rfl⟩:=len2 hl; rfl
abbrev Gq25:Stmt:=top 88
theorem Uq25:FnScope ["desk", "row", "found", "kin", "e"] ["desk", "row"] (defScope Gq25):=by walk_at"c"
theorem Jq25:BdOk "_law_said" "_law_said" Gq25 ["desk", "row"]:=fun _ _ _ _ _ _ us hl=>by obtain⟨a0,a1,rfl⟩:=len2 hl; rfl
abbrev Gq26:Stmt:=top 89
theorem Uq26:FnScope ["desk", "held", "row", "found", "kin"] ["desk", "held"] (defScope Gq26):=by walk_at"c"
theorem Jq26:BdOk "_law_stands" "_law_stands" Gq26 ["desk", "held"]:=fun _ _ _ _ _ _ us hl=>by obtain⟨a0,a1,rfl⟩:=len2 hl; rfl
abbrev Gq27:Stmt:=top 90
theorem Uq27:FnScope ["script", "desks", "both", "cells", "cell", "picks", "k", "row", "fault", "head", "numbers", "found", "kin", "due"] ["script"] (defScope Gq27):=by walk_at"c"
abbrev Gq28:Stmt:=top 52
theorem Uq28:FnScope ["numbers"] ["numbers"] (defScope Gq28):=by walk_at"c"
theorem Jq28:BdOk "written" "written" Gq28 ["numbers"]:=fun _ _ _ _ _ _ us hl=>by obtain⟨a0,rfl⟩:=len1 hl; rfl
abbrev Gq29:Stmt:=top 16
theorem Uq29:FnScope ["plays"] ["plays"] (defScope Gq29):=by walk_at"c"
theorem Jq29:BdOk "is_train" "is_train" Gq29 ["plays"]:=fun _ _ _ _ _ _ us hl=>by obtain⟨a0,rfl⟩:=len1 hl; rfl
abbrev Gq30:Stmt:=top 18
theorem Uq30:FnScope ["plays", "handle", "wheels", "ahead", "play", "at"] ["plays", "handle", "wheels"] (defScope Gq30):=by walk_at"c"
theorem Jq30:BdOk "keeps_plays" "keeps_plays" Gq30 ["plays", "handle", "wheels"]:=fun _ _ _ _ _ _ us hl=>by obtain⟨a0,a1,a2,rfl⟩:=len3 hl; rfl
abbrev Gq31:Stmt:=top 21
theorem Uq31:FnScope ["play", "ahead", "at"] ["play", "ahead", "at"] (defScope Gq31):=by walk_at"c"
theorem Jq31:BdOk "dragged" "dragged" Gq31 ["play", "ahead", "at"]:=fun _ _ _ _ _ _ us hl=>by obtain⟨a0,a1,a2,rfl⟩:=len3 hl; rfl
abbrev Gq32:Stmt:=top 22
theorem Uq32:FnScope ["plays", "wheels", "place", "places", "ahead", "play", "at"] ["plays", "wheels", "place"] (defScope Gq32):=by walk_at"c"
theorem Jq32:BdOk "all_dragged" "all_dragged" Gq32 ["plays", "wheels", "place"]:=fun _ _ _ _ _ _ us hl=>by obtain⟨a0,a1,a2,rfl⟩:=len3 hl; rfl
abbrev Gq33:Stmt:=top 17
theorem Uq33:FnScope ["plays"] ["plays"] (defScope Gq33):=by walk_at"c"
theorem Jq33:BdOk "refuse_no_train" "refuse_no_train" Gq33 ["plays"]:=fun _ _ _ _ _ _ us hl=>by obtain⟨a0,rfl⟩:=len1 hl; rfl
abbrev Gq34:Stmt:=top 19
theorem Uq34:FnScope ["plays", "handle", "wheels"] ["plays", "handle", "wheels"] (defScope Gq34):=by walk_at"c"
theorem Jq34:BdOk "is_stand" "is_stand" Gq34 ["plays", "handle", "wheels"]:=fun _ _ _ _ _ _ us hl=>by obtain⟨a0,a1,a2,rfl⟩:=len3 hl; rfl
abbrev Gq35:Stmt:=top 20
theorem Uq35:FnScope ["plays", "handle", "wheels"] ["plays", "handle", "wheels"] (defScope Gq35):=by walk_at"c"
theorem Jq35:BdOk "refuse_no_stand" "refuse_no_stand" Gq35 ["plays", "handle", "wheels"]:=fun _ _ _ _ _ _ us hl=>by obtain⟨a0,a1,a2,rfl⟩:=len3 hl; rfl
abbrev Gq36:Stmt:=top 55
theorem Uq36:FnScope ["ways", "wheels", "places"] ["ways", "wheels", "places"] (defScope Gq36):=by walk_at"c"
theorem Jq36:BdOk "farther" "farther" Gq36 ["ways", "wheels", "places"]:=fun _ _ _ _ _ _ us hl=>by obtain⟨a0,a1,a2,rfl⟩:=len3 hl; rfl
abbrev Gq37:Stmt:=top 23
theorem Uq37:FnScope ["plays", "handle", "wheels", "row", "run", "places", "place"] ["plays", "handle", "wheels", "row"] (defScope Gq37):=by walk_at"c"
theorem Jq37:BdOk "run_of" "run_of" Gq37 ["plays", "handle", "wheels", "row"]:=fun _ _ _ _ _ _ us hl=>by obtain⟨a0,a1,a2,a3,rfl⟩:=len4 hl; rfl
abbrev Gq38:Stmt:=top 60
theorem Uq38:FnScope ["state", "plays"] ["state", "plays"] (defScope Gq38):=by walk_at"c"
theorem Jq38:BdOk "new_train" "new_train" Gq38 ["state", "plays"]:=fun _ _ _ _ _ _ us hl=>by obtain⟨a0,a1,rfl⟩:=len2 hl; rfl
abbrev Gq39:Stmt:=top 61
theorem Uq39:FnScope ["state", "numbers", "plays", "handle", "wheels", "ways", "end", "goal"] ["state", "numbers"] (defScope Gq39):=by walk_at"c"
theorem Jq39:BdOk "set_down" "set_down" Gq39 ["state", "numbers"]:=fun _ _ _ _ _ _ us hl=>by obtain⟨a0,a1,rfl⟩:=len2 hl; rfl
abbrev Gq40:Stmt:=top 64
theorem Uq40:FnScope ["state", "numbers", "plays", "handle", "wheels", "ways"] ["state", "numbers"] (defScope Gq40):=by walk_at"c"
theorem Jq40:BdOk "where_text" "where_text" Gq40 ["state", "numbers"]:=fun _ _ _ _ _ _ us hl=>by obtain⟨a0,a1,rfl⟩:=len2 hl; rfl
abbrev Gq41:Stmt:=top 65
theorem Uq41:FnScope ["state", "numbers", "plays", "handle", "wheels", "ways"] ["state", "numbers"] (defScope Gq41):=by walk_at"c"
theorem Jq41:BdOk "ways_text" "ways_text" Gq41 ["state", "numbers"]:=fun _ _ _ _ _ _ us hl=>by obtain⟨a0,a1,rfl⟩:=len2 hl; rfl
abbrev Gq42:Stmt:=top 62
theorem Uq42:FnScope ["state", "row", "plays", "handle", "wheels", "ways", "run", "ahead", "here"] ["state", "row"] (defScope Gq42):=by walk_at"c"
theorem Jq42:BdOk "turned_by" "turned_by" Gq42 ["state", "row"]:=fun _ _ _ _ _ _ us hl=>by obtain⟨a0,a1,rfl⟩:=len2 hl; rfl
abbrev Gq43:Stmt:=top 53
theorem Uq43:FnScope ["plays", "handle", "wheels"] ["plays", "handle", "wheels"] (defScope Gq43):=by walk_at"c"
theorem Jq43:BdOk "shown" "shown" Gq43 ["plays", "handle", "wheels"]:=fun _ _ _ _ _ _ us hl=>by obtain⟨a0,a1,a2,rfl⟩:=len3 hl; rfl
abbrev Gq44:Stmt:=top 25
theorem Uq44:FnScope ["plays", "depths", "depth", "play"] ["plays"] (defScope Gq44):=by walk_at"c"
theorem Jq44:BdOk "depths_of" "depths_of" Gq44 ["plays"]:=fun _ _ _ _ _ _ us hl=>by obtain⟨a0,rfl⟩:=len1 hl; rfl
abbrev Gq45:Stmt:=top 32
theorem Uq45:FnScope ["handle", "wheels"] ["handle", "wheels"] (defScope Gq45):=by walk_at"c"
theorem Jq45:BdOk "pieces_of" "pieces_of" Gq45 ["handle", "wheels"]:=fun _ _ _ _ _ _ us hl=>by obtain⟨a0,a1,rfl⟩:=len2 hl; rfl
abbrev Gq46:Stmt:=top 33
theorem Uq46:FnScope ["plays", "end", "goal", "must", "wheel", "side"] ["plays", "end", "goal", "must"] (defScope Gq46):=by walk_at"c"
theorem Jq46:BdOk "must_place" "must_place" Gq46 ["plays", "end", "goal", "must"]:=fun _ _ _ _ _ _ us hl=>by obtain⟨a0,a1,a2,a3,rfl⟩:=len4 hl; rfl
abbrev Gq47:Stmt:=top 34
theorem Uq47:FnScope ["handle", "wheels", "end", "goal", "wheel", "first", "last"] ["handle", "wheels", "end", "goal", "wheel"] (defScope Gq47):=by walk_at"c"
theorem Jq47:BdOk "side_to_go" "side_to_go" Gq47 ["handle", "wheels", "end", "goal", "wheel"]:=fun _ _ _ _ _ _ us hl=>by obtain⟨a0,a1,a2,a3,a4,rfl⟩:=len5 hl; rfl
abbrev Gq48:Stmt:=top 35
theorem Uq48:FnScope ["plays", "end", "goal", "ahead", "wheel", "depth", "last"] ["plays", "end", "goal", "ahead", "wheel"] (defScope Gq48):=by walk_at"c"
theorem Jq48:BdOk "is_beyond" "is_beyond" Gq48 ["plays", "end", "goal", "ahead", "wheel"]:=fun _ _ _ _ _ _ us hl=>by obtain⟨a0,a1,a2,a3,a4,rfl⟩:=len5 hl; rfl
abbrev Gq49:Stmt:=top 37
theorem Uq49:FnScope ["handle", "wheels", "end", "goal", "wheel", "side"] ["handle", "wheels", "end", "goal"] (defScope Gq49):=by walk_at"c"
theorem Jq49:BdOk "first_musts" "first_musts" Gq49 ["handle", "wheels", "end", "goal"]:=fun _ _ _ _ _ _ us hl=>by obtain⟨a0,a1,a2,a3,rfl⟩:=len4 hl; rfl
abbrev Gq50:Stmt:=top 26
theorem Uq50:FnScope ["places"] ["places"] (defScope Gq50):=by walk_at"c"
theorem Jq50:BdOk "way_of" "way_of" Gq50 ["places"]:=fun _ _ _ _ _ _ us hl=>by obtain⟨a0,rfl⟩:=len1 hl; rfl
abbrev Gq51:Stmt:=top 31
theorem Uq51:FnScope ["plays", "handle", "wheels", "end", "goal"] ["plays", "handle", "wheels", "end", "goal"] (defScope Gq51):=by walk_at"c"
theorem Jq51:BdOk "refuse_no_errand" "refuse_no_errand" Gq51 ["plays", "handle", "wheels", "end", "goal"]:=fun _ _ _ _ _ _ us hl=>by obtain⟨a0,a1,a2,a3,a4,rfl⟩:=len5 hl; rfl
abbrev Gq52:Stmt:=top 38
theorem Uq52:FnScope ["plays", "handle", "wheels", "end", "goal", "paper", "ahead", "wheel"] ["plays", "handle", "wheels", "end", "goal"] (defScope Gq52):=by walk_at"c"
theorem Jq52:BdOk "paper_of" "paper_of" Gq52 ["plays", "handle", "wheels", "end", "goal"]:=fun _ _ _ _ _ _ us hl=>by obtain⟨a0,a1,a2,a3,a4,rfl⟩:=len5 hl; rfl
abbrev Gq53:Stmt:=top 39
theorem Uq53:FnScope ["plays", "handle", "wheels", "end", "goal", "paper"] ["plays", "handle", "wheels", "end", "goal"] (defScope Gq53):=by walk_at"c"
theorem Jq53:BdOk "least_row" "least_row" Gq53 ["plays", "handle", "wheels", "end", "goal"]:=fun _ _ _ _ _ _ us hl=>by obtain⟨a0,a1,a2,a3,a4,rfl⟩:=len5 hl; rfl
abbrev Gq54:Stmt:=top 40
theorem Uq54:FnScope ["plays", "handle", "wheels", "end", "goal"] ["plays", "handle", "wheels", "end", "goal"] (defScope Gq54):=by walk_at"c"
theorem Jq54:BdOk "least_of" "least_of" Gq54 ["plays", "handle", "wheels", "end", "goal"]:=fun _ _ _ _ _ _ us hl=>by obtain⟨a0,a1,a2,a3,a4,rfl⟩:=len5 hl; rfl
abbrev Gq55:Stmt:=top 67
theorem Uq55:FnScope ["state", "numbers", "plays", "handle", "wheels", "ways"] ["state", "numbers"] (defScope Gq55):=by walk_at"c"
theorem Jq55:BdOk "train_text" "train_text" Gq55 ["state", "numbers"]:=fun _ _ _ _ _ _ us hl=>by obtain⟨a0,a1,rfl⟩:=len2 hl; rfl
abbrev Gq56:Stmt:=top 66
theorem Uq56:FnScope ["state", "numbers", "plays", "handle", "wheels", "ways", "end", "goal", "row"] ["state", "numbers"] (defScope Gq56):=by walk_at"c"
theorem Jq56:BdOk "least_text" "least_text" Gq56 ["state", "numbers"]:=fun _ _ _ _ _ _ us hl=>by obtain⟨a0,a1,rfl⟩:=len2 hl; rfl
structure Txt (mg:Str->Option Value):Prop where
 z_ValueError:mg "ValueError" = none
 z_abs:mg "abs" = none
 z_all:mg "all" = none
 z_enumerate:mg "enumerate" = none
 z_int:mg "int" = none
 z_isinstance:mg "isinstance" = none
 z_len:mg "len" = none
 z_max:mg "max" = none
 z_min:mg "min" = none
 z_range:mg "range" = none
 z_str:mg "str" = none
 z_sum:mg "sum" = none
 z_zip:mg "zip" = none
 g_FIGURES:∃ t,mg "FIGURES" = some (.str "0123456789" t)
 g_MOST_FIGURES:∃ t,mg "MOST_FIGURES" = some (.int 40 t)
 g_MOST_PLAYS:∃ t,mg "MOST_PLAYS" = some (.int 12 t)
structure Cls (K:PySem.W.Frag) (mg:Str->Option Value) where
 jAa:Addr
 jAb:Addr
 jAc:Addr
 jAd:Addr
 jAe:Addr
 jAf:Addr
 jAg:Addr
 jAh:Addr
 jAi:Addr
 jAj:Addr
 jAk:Addr
 jAl:Addr
 jAm:Addr
 jAn:mg "TrainError" = some (.ref jAa)
 jAo:mg "NoTrain" = some (.ref jAb)
 jAp:mg "NoStand" = some (.ref jAc)
 jAq:mg "NoPaper" = some (.ref jAd)
 jAr:mg "NoBox" = some (.ref jAe)
 jAs:mg "NoSwitch" = some (.ref jAf)
 jAt:mg "NoPlace" = some (.ref jAg)
 jAu:mg "NoTable" = some (.ref jAh)
 jAv:mg "NoText" = some (.ref jAi)
 jAw:mg "NoRow" = some (.ref jAj)
 jAx:mg "NoPiece" = some (.ref jAk)
 jAy:mg "NothingLeft" = some (.ref jAl)
 jAz:mg "TooMany" = some (.ref jAm)
 x_NoTrain:PySem.W.excIn K jAb [.type "ValueError", .type "Exception", .type "BaseException", .type "object"] "ValueError.__new__" = true
 jBa:PySem.W.exmOne K (.ref jAb) (.ref jAa)=some true
 i_NoTrain_ga:PySem.W.findIn K (.ref jAb) "__getattribute__" = some (some (.builtin "BaseException.__getattribute__"))
 i_NoTrain_gt:PySem.W.findIn K (.ref jAb) "__getattr__" = some none
 i_NoTrain_mb:PySem.W.mroIn K jAb (.type "BaseException")=some true
 i_NoTrain_hd:PySem.W.hasDictIn K jAb=true
 i_NoTrain_ca:PySem.W.findIn K (.ref jAb) "__class__" = some (some (.builtin "object.__class__"))
 i_NoTrain_sp:PySem.W.specialIn K (.builtin "object.__class__") "__get__" = some (some (.builtin "getset_descriptor.__get__"))
 i_NoTrain_tk:PySem.W.takesIn K (.builtin "object.__class__")=some true
 i_NoTrain_mr:PySem.W.mroIn K jAb (.type "object")=some true
 jBb:PySem.W.kitOne K (.ref jAb) (.ref jAb)=some true
 jBc:PySem.W.kitOne K (.ref jAb) (.ref jAc)=some false
 jBd:PySem.W.kitOne K (.ref jAb) (.ref jAd)=some false
 jBe:PySem.W.kitOne K (.ref jAb) (.ref jAe)=some false
 jBf:PySem.W.kitOne K (.ref jAb) (.ref jAf)=some false
 jBg:PySem.W.kitOne K (.ref jAb) (.ref jAg)=some false
 jBh:PySem.W.kitOne K (.ref jAb) (.ref jAh)=some false
 jBi:PySem.W.kitOne K (.ref jAb) (.ref jAi)=some false
 jBj:PySem.W.kitOne K (.ref jAb) (.ref jAj)=some false
 jBk:PySem.W.kitOne K (.ref jAb) (.ref jAk)=some false
 jBl:PySem.W.kitOne K (.ref jAb) (.ref jAl)=some false
 jBm:PySem.W.kitOne K (.ref jAb) (.ref jAm)=some false
 jBn:PySem.W.kitOne K (.ref jAb) (.type "ValueError")=some true
 x_NoStand:PySem.W.excIn K jAc [.type "ValueError", .type "Exception", .type "BaseException", .type "object"] "ValueError.__new__" = true
 jBo:PySem.W.exmOne K (.ref jAc) (.ref jAa)=some true
 i_NoStand_ga:PySem.W.findIn K (.ref jAc) "__getattribute__" = some (some (.builtin "BaseException.__getattribute__"))
 i_NoStand_gt:PySem.W.findIn K (.ref jAc) "__getattr__" = some none
 i_NoStand_mb:PySem.W.mroIn K jAc (.type "BaseException")=some true
 i_NoStand_hd:PySem.W.hasDictIn K jAc=true
 i_NoStand_ca:PySem.W.findIn K (.ref jAc) "__class__" = some (some (.builtin "object.__class__"))
 i_NoStand_sp:PySem.W.specialIn K (.builtin "object.__class__") "__get__" = some (some (.builtin "getset_descriptor.__get__"))
 i_NoStand_tk:PySem.W.takesIn K (.builtin "object.__class__")=some true
 i_NoStand_mr:PySem.W.mroIn K jAc (.type "object")=some true
 jBp:PySem.W.kitOne K (.ref jAc) (.ref jAb)=some false
 jBq:PySem.W.kitOne K (.ref jAc) (.ref jAc)=some true
 jBr:PySem.W.kitOne K (.ref jAc) (.ref jAd)=some false
 jBs:PySem.W.kitOne K (.ref jAc) (.ref jAe)=some false
 jBt:PySem.W.kitOne K (.ref jAc) (.ref jAf)=some false
 jBu:PySem.W.kitOne K (.ref jAc) (.ref jAg)=some false
 jBv:PySem.W.kitOne K (.ref jAc) (.ref jAh)=some false
 jBw:PySem.W.kitOne K (.ref jAc) (.ref jAi)=some false
 jBx:PySem.W.kitOne K (.ref jAc) (.ref jAj)=some false
 jBy:PySem.W.kitOne K (.ref jAc) (.ref jAk)=some false
 jBz:PySem.W.kitOne K (.ref jAc) (.ref jAl)=some false
 jCa:PySem.W.kitOne K (.ref jAc) (.ref jAm)=some false
 jCb:PySem.W.kitOne K (.ref jAc) (.type "ValueError")=some true
 x_NoRow:PySem.W.excIn K jAj [.type "ValueError", .type "Exception", .type "BaseException", .type "object"] "ValueError.__new__" = true
 jCc:PySem.W.exmOne K (.ref jAj) (.ref jAa)=some true
 i_NoRow_ga:PySem.W.findIn K (.ref jAj) "__getattribute__" = some (some (.builtin "BaseException.__getattribute__"))
 i_NoRow_gt:PySem.W.findIn K (.ref jAj) "__getattr__" = some none
 i_NoRow_mb:PySem.W.mroIn K jAj (.type "BaseException")=some true
 i_NoRow_hd:PySem.W.hasDictIn K jAj=true
 i_NoRow_ca:PySem.W.findIn K (.ref jAj) "__class__" = some (some (.builtin "object.__class__"))
 i_NoRow_sp:PySem.W.specialIn K (.builtin "object.__class__") "__get__" = some (some (.builtin "getset_descriptor.__get__"))
 i_NoRow_tk:PySem.W.takesIn K (.builtin "object.__class__")=some true
 i_NoRow_mr:PySem.W.mroIn K jAj (.type "object")=some true
 jCd:PySem.W.kitOne K (.ref jAj) (.ref jAb)=some false
 jCe:PySem.W.kitOne K (.ref jAj) (.ref jAc)=some false
 jCf:PySem.W.kitOne K (.ref jAj) (.ref jAd)=some false
 jCg:PySem.W.kitOne K (.ref jAj) (.ref jAe)=some false
 jCh:PySem.W.kitOne K (.ref jAj) (.ref jAf)=some false
 jCi:PySem.W.kitOne K (.ref jAj) (.ref jAg)=some false
 jCj:PySem.W.kitOne K (.ref jAj) (.ref jAh)=some false
 jCk:PySem.W.kitOne K (.ref jAj) (.ref jAi)=some false
 jCl:PySem.W.kitOne K (.ref jAj) (.ref jAj)=some true
 jCm:PySem.W.kitOne K (.ref jAj) (.ref jAk)=some false
 jCn:PySem.W.kitOne K (.ref jAj) (.ref jAl)=some false
 jCo:PySem.W.kitOne K (.ref jAj) (.ref jAm)=some false
 jCp:PySem.W.kitOne K (.ref jAj) (.type "ValueError")=some true
 x_NothingLeft:PySem.W.excIn K jAl [.type "ValueError", .type "Exception", .type "BaseException", .type "object"] "ValueError.__new__" = true
 jCq:PySem.W.exmOne K (.ref jAl) (.ref jAa)=some true
 i_NothingLeft_ga:PySem.W.findIn K (.ref jAl) "__getattribute__" = some (some (.builtin "BaseException.__getattribute__"))
 i_NothingLeft_gt:PySem.W.findIn K (.ref jAl) "__getattr__" = some none
 i_NothingLeft_mb:PySem.W.mroIn K jAl (.type "BaseException")=some true
 i_NothingLeft_hd:PySem.W.hasDictIn K jAl=true
 i_NothingLeft_ca:PySem.W.findIn K (.ref jAl) "__class__" = some (some (.builtin "object.__class__"))
 i_NothingLeft_sp:PySem.W.specialIn K (.builtin "object.__class__") "__get__" = some (some (.builtin "getset_descriptor.__get__"))
 i_NothingLeft_tk:PySem.W.takesIn K (.builtin "object.__class__")=some true
 i_NothingLeft_mr:PySem.W.mroIn K jAl (.type "object")=some true
 jCr:PySem.W.kitOne K (.ref jAl) (.ref jAb)=some false
 jCs:PySem.W.kitOne K (.ref jAl) (.ref jAc)=some false
 jCt:PySem.W.kitOne K (.ref jAl) (.ref jAd)=some false
 jCu:PySem.W.kitOne K (.ref jAl) (.ref jAe)=some false
 jCv:PySem.W.kitOne K (.ref jAl) (.ref jAf)=some false
 jCw:PySem.W.kitOne K (.ref jAl) (.ref jAg)=some false
 jCx:PySem.W.kitOne K (.ref jAl) (.ref jAh)=some false
 jCy:PySem.W.kitOne K (.ref jAl) (.ref jAi)=some false
 jCz:PySem.W.kitOne K (.ref jAl) (.ref jAj)=some false
 jDa:PySem.W.kitOne K (.ref jAl) (.ref jAk)=some false
 jDb:PySem.W.kitOne K (.ref jAl) (.ref jAl)=some true
 jDc:PySem.W.kitOne K (.ref jAl) (.ref jAm)=some false
 jDd:PySem.W.kitOne K (.ref jAl) (.type "ValueError")=some true
theorem Cls.exc_NoTrain {K:PySem.W.Frag} {mg:Str->Option Value} (Z:Cls K mg):ExcCls K mg "NoTrain" Z.jAb [.type "ValueError", .type "Exception", .type "BaseException", .type "object"] "ValueError.__new__" := ⟨Z.jAo,Z.x_NoTrain⟩
theorem Cls.isi_NoTrain {K:PySem.W.Frag} {mg:Str->Option Value} (Z:Cls K mg):IsiCls K Z.jAb:=⟨Z.i_NoTrain_ga,Z.i_NoTrain_gt,Z.i_NoTrain_mb,Z.i_NoTrain_hd,Z.i_NoTrain_ca,Z.i_NoTrain_sp,Z.i_NoTrain_tk,Z.i_NoTrain_mr⟩
theorem Cls.exc_NoStand {K:PySem.W.Frag} {mg:Str->Option Value} (Z:Cls K mg):ExcCls K mg "NoStand" Z.jAc [.type "ValueError", .type "Exception", .type "BaseException", .type "object"] "ValueError.__new__" := ⟨Z.jAp,Z.x_NoStand⟩
theorem Cls.isi_NoStand {K:PySem.W.Frag} {mg:Str->Option Value} (Z:Cls K mg):IsiCls K Z.jAc:=⟨Z.i_NoStand_ga,Z.i_NoStand_gt,Z.i_NoStand_mb,Z.i_NoStand_hd,Z.i_NoStand_ca,Z.i_NoStand_sp,Z.i_NoStand_tk,Z.i_NoStand_mr⟩
theorem Cls.exc_NoRow {K:PySem.W.Frag} {mg:Str->Option Value} (Z:Cls K mg):ExcCls K mg "NoRow" Z.jAj [.type "ValueError", .type "Exception", .type "BaseException", .type "object"] "ValueError.__new__" := ⟨Z.jAw,Z.x_NoRow⟩
theorem Cls.isi_NoRow {K:PySem.W.Frag} {mg:Str->Option Value} (Z:Cls K mg):IsiCls K Z.jAj:=⟨Z.i_NoRow_ga,Z.i_NoRow_gt,Z.i_NoRow_mb,Z.i_NoRow_hd,Z.i_NoRow_ca,Z.i_NoRow_sp,Z.i_NoRow_tk,Z.i_NoRow_mr⟩
theorem Cls.exc_NothingLeft {K:PySem.W.Frag} {mg:Str->Option Value} (Z:Cls K mg):ExcCls K mg "NothingLeft" Z.jAl [.type "ValueError", .type "Exception", .type "BaseException", .type "object"] "ValueError.__new__" := ⟨Z.jAy,Z.x_NothingLeft⟩
structure Own (K:PySem.W.Frag) (mg:Str->Option Value) where
 jDe:Addr
 jDf:mg "Desk" = some (.ref jDe)
 pg_Desk:PySem.W.plainGet K jDe Str.empty=true
 hd_Desk:PySem.W.hasDictIn K jDe=true
 po_Desk:PySem.W.plainOver K jDe=true
 sa_Desk:PySem.W.findIn K (.ref jDe) "__setattr__" = some (some (.builtin "object.__setattr__"))
 mk_Desk:PySem.W.makesIn K jDe=true
 kc_Desk:PySem.W.keepIn K (.ref jDe)=true
 jDg:PySem.W.findIn K (.ref jDe) "states" = some none
theorem Own.cl_Desk {K:PySem.W.Frag} {mg:Str->Option Value} (Y:Own K mg):L2.Cls K Y.jDe:=⟨Y.pg_Desk,Y.hd_Desk,Y.po_Desk,Y.sa_Desk⟩
section
variable {P:Program} {w:World} {K:PySem.W.Frag} {mg:Str->Option Value} {base:Heap}
structure NewI (H H':Hp) (l:Addr) (xs:List Int):Prop where
 fr:H l=none
 sm:Same H H'
 at_:H' l=some (.lst (iL xs))
theorem NewI.app {H H':Hp} {l:Addr} {xs:List Int} {x:Int} (N:NewI H H' l xs):NewI H (upd H' l (.lst (iL xs++[V.int x]))) l (xs++[x]) :=
 ⟨N.fr,fun b o e=>by rw [upd_ne (ne_of_none e N.fr)]; exact N.sm b o e,by rw [upd_same]; simp [iL]⟩
theorem NewI.more {H H' H2:Hp} {l:Addr} {xs:List Int} (N:NewI H H' l xs) (s:Same H' H2):NewI H H2 l xs:=⟨N.fr,N.sm.trans s,s _ _ N.at_⟩
def spLaw (K:PySem.W.Frag):Sp:=fun vs H Q _=>∃ (a:Addr) (ns:List Int),vs=[.ref a]/\SqL K H a (ns.map V.int)/\ns.length<=63/\∀ H',Q (.bl true) H'
def optV:Option Nat->V
 | none=>.non
 | some n=>.int n
def formsT:List (Str×(Nat×Option Nat)):=[("plays", 1,none),("at", 2,none),("turn", 1,none),("where", 0,some 0),("ways", 0,some 0),("least", 2,none),("text", 0,some 0),("grab", 2,some 2),("range", 2,some 2),("back", 0,some 0)]
def deedsT:List (Str×Str):=[("plays", "new_train"),("at", "set_down"),("turn", "turned_by"),("grab", "grabbed_at")]
def answersT:List (Str×Str):=[("where", "where_text"),("ways", "ways_text"),("least", "least_text"),("text", "train_text"),("range", "range_text")]
structure Tabs (w:World) (K:PySem.W.Frag) (mg:Str->Option Value) where
 t_FORMS:Addr
 v_FORMS:List (Str×V)
 m_FORMS:mg "FORMS" = some (.ref t_FORMS)
 d_FORMS:DMod w K t_FORMS v_FORMS
 p_FORMS:Paired (fun (p:Str×(Nat×Option Nat)) (q:Str×V)=>p.1=q.1/\∃ a,q.2=.ref a/\∀ H,SqT K H a [.int p.2.1,optV p.2.2]) formsT v_FORMS
 t_DEEDS:Addr
 v_DEEDS:List (Str×V)
 m_DEEDS:mg "DEEDS" = some (.ref t_DEEDS)
 d_DEEDS:DMod w K t_DEEDS v_DEEDS
 p_DEEDS:Paired (fun (p:Str×Str) (q:Str×V)=>p.1=q.1/\∃ a,q.2=.ref a/\mg p.2=some (.ref a)) deedsT v_DEEDS
 t_ANSWERS:Addr
 v_ANSWERS:List (Str×V)
 m_ANSWERS:mg "ANSWERS" = some (.ref t_ANSWERS)
 d_ANSWERS:DMod w K t_ANSWERS v_ANSWERS
 p_ANSWERS:Paired (fun (p:Str×Str) (q:Str×V)=>p.1=q.1/\∃ a,q.2=.ref a/\mg p.2=some (.ref a)) answersT v_ANSWERS
theorem row_get {α:Type} {R:α->V->Prop} (x:Str):∀ {ts:List (Str×α)} {vs:List (Str×V)},Paired (fun (p:Str×α) (q:Str×V)=>p.1=q.1/\R p.2 q.2) ts vs->(ts.lookup x=none/\vs.lookup x=none)\/∃ r v,ts.lookup x=some r/\vs.lookup x=some v/\R r v
 | _,_,.nil=>.inl ⟨rfl,rfl⟩
 | (k,r) :: ts,(k',v) :: vs,.cons ⟨h1,h2⟩ q=>by
   obtain rfl:k=k':=h1
   rw [List.lookup_cons,List.lookup_cons]
   by_cases h:(x == k)=true
   ·rw [h]
    exact .inr ⟨r,v,rfl,rfl,h2⟩
   ·rw [Bool.not_eq_true] at h
    rw [h]
    exact row_get x q
def FormOk (word:Str) (rest:List Str):Prop:=(∀ s∈rest,numW (sg s))/\∃ l m,formsT.lookup word=some (l,m)/\l<=rest.length/\∀ n,m=some n->rest.length<=n
abbrev MsAt (H:Hp) (ts:List Addr) (ms:List Must):Prop:=Paired (fun t (m:Must)=>H t=some (.tup [.int m.1,.int m.2])) ts ms
structure NewM (H H':Hp) (l:Addr) (ms:List Must) (ts:List Addr):Prop where
 fr:H l=none
 sm:Same H H'
 at_:H' l=some (.lst (ts.map V.ref))
 it:MsAt H' ts ms
theorem MsAt.more {H H':Hp} {ts:List Addr} {ms:List Must} (h:MsAt H ts ms) (s:Same H H'):MsAt H' ts ms:=Paired.mapP h fun _ _ e=>s _ _ e
theorem NewM.more {H H' H2:Hp} {l:Addr} {ms:List Must} {ts:List Addr} (N:NewM H H' l ms ts) (s:Same H' H2):NewM H H2 l ms ts:=⟨N.fr,N.sm.trans s,s _ _ N.at_,N.it.more s⟩
theorem MsAt.up {H:Hp} {l:Addr} {vs ws:List V} {ts:List Addr} {ms:List Must} (h:MsAt H ts ms) (hl:H l=some (.lst ws)):MsAt (upd H l (.lst vs)) ts ms :=
 Paired.mapP h fun t m e=>by
  have:t≠l:=fun z=>by rw [z,hl] at e; cases e
  rw [upd_ne this]; exact e
theorem NewM.app {H H':Hp} {l t:Addr} {ms:List Must} {ts:List Addr} {m:Must} (N:NewM H H' l ms ts) (e:H' t=some (.tup [.int m.1,.int m.2])):NewM H (upd H' l (.lst (ts.map V.ref++[V.ref t]))) l (ms++[m]) (ts++[t]):=by
 refine⟨N.fr,fun b o z=>by rw [upd_ne (ne_of_none z N.fr)]; exact N.sm b o z,by rw [upd_same]; simp,Paired.snoc (N.it.up N.at_) ?_⟩
 have:t≠l:=fun z=>by rw [z,N.at_] at e; cases e
 rw [upd_ne this]; exact e
theorem ifT {b:Bool} {A B:Prop} (e:b=true) (h:A):if b=true then A else B:=by rw [if_pos e]; exact h
theorem ifF {b:Bool} {A B:Prop} (e:b=false) (h:B):if b=true then A else B:=by rw [if_neg (by rw [e]; exact Bool.false_ne_true)]; exact h
theorem i_pc {H:Hp} {Q:VK} {l:Addr} {xs:List Int} {h w:Int} (hl:H l=some (.lst (iL (xs++[h])))) (h0:-1<=w) (h1:w<xs.length) (q:Q (.int (pc xs h w)) H):rIxP K (.ref l) (.int w) H Q:=by
 by_cases e:w = -1
 ·subst e
  rw [pc_neg] at q
  exact i_ixLast (xs:=iL xs) (SqL.of (by rw [hl]; simp [iL])) q
 ·have g:=pc_get (h:=h) (show 0<=w by lia) h1
  exact i_ixN (SqL.of hl) (by lia) (by rw [List.getElem?_map,List.getElem?_append_left (by lia),g]; rfl) q
theorem paired_getL {α β:Type} {F:α->β->Prop}:∀ {as:List α} {bs:List β} {i:Nat} {a:α},Paired F as bs->as[i]? = some a->∃ b,bs[i]? = some b/\F a b
 | _,_,i,b,.nil,h=>by simp at h
 | _,_,0,b,.cons r _,h=>by simp at h; subst h; exact⟨_,rfl,r⟩
 | _,_,i+1,b,.cons _ t,h=>by
   obtain⟨a,h1,h2⟩:=paired_getL (i:=i) (a:=b) t (by simpa using h)
   exact⟨a,by simpa using h1,h2⟩
theorem paired_mem {α β:Type} {F:α->β->Prop}:∀ {as:List α} {bs:List β} {a:α},Paired F as bs->a∈as->∃ b,F a b
 | _,_,a,.nil,h=>by simp at h
 | _,_,a,.cons r t,h=>by
   rcases List.mem_cons.mp h with e | e
   ·subst e; exact⟨_,r⟩
   ·exact paired_mem t e
theorem calm_of {x:Str} {k:Nat} {spE sp:Sp} (C:CalleeE P w K mg base x k spE) (h:∀ vs H Q E,sp vs H Q E->spE vs H Q (fun _ _ _=>False)):Callee P w K mg base x k sp:=by
 obtain⟨f,fd,ps,F,r⟩:=C
 refine⟨f,fd,ps,⟨fun vs H Q E hs=>F.len vs H Q _ (h vs H Q E hs),fun A outer s H args us vs Q E hr he hb hv hs=>codeAny_mono (F.run A outer s H args us vs Q _ hr he hb hv (h vs H Q E hs)) fun r s' z=>?_⟩,r⟩
 cases r with
 | ok x=>cases x <;> exact z
 | error e =>
   obtain⟨_,_,_,_,_,_,_,_,_,_,_,_,q⟩:=z
   exact q.elim
def Exs (E:XK) (H:Hp) (CT CS:Addr) (tr st:Prop):Prop:=(¬ tr->∀ H',Same H H'->E (.ref CT) none H')/\(tr->¬ st->∀ H',Same H H'->E (.ref CS) none H')
theorem Exs.on {E:XK} {H H1:Hp} {CT CS:Addr} {tr st:Prop} (x:Exs E H CT CS tr st) (s:Same H H1):Exs E H1 CT CS tr st:=⟨fun h H' s'=>x.1 h H' (s.trans s'),fun h1 h2 H' s'=>x.2 h1 h2 H' (s.trans s')⟩
theorem Exs.imp {E:XK} {H:Hp} {CT CS:Addr} {tr st st2:Prop} (x:Exs E H CT CS tr st) (h:tr->st->st2):Exs E H CT CS tr st2:=⟨x.1,fun h1 h2=>x.2 h1 fun z=>h2 (h h1 z)⟩
theorem Exs.no {H:Hp} {CT CS:Addr} {tr st:Prop} (h1:tr) (h2:st):Exs (fun _ _ _=>False) H CT CS tr st:=⟨fun h=>absurd h1 h,fun _ h=>absurd h2 h⟩
abbrev bL (bs:List Bool):List V:=bs.map V.bl
theorem i_isx {H:Hp} {Q:VK} {e D C':Addr} {b:Bool} (he:H e=some (.ext (ExcAt e (.ref D)))) (C:IsiCls K D) (hk:PySem.W.kitOne K (.ref D) (.ref C')=some b) (q:Q (.bl b) H):rIsiX K [.ref e,.ref C'] H Q:=⟨e,D,_,_,b,rfl,fun _ h=>h,he,C,hk,q⟩
theorem i_isxT {H:Hp} {Q:VK} {e D:Addr} {n:String} {b:Bool} (he:H e=some (.ext (ExcAt e (.ref D)))) (C:IsiCls K D) (hk:PySem.W.kitOne K (.ref D) (.type n)=some b) (q:Q (.bl b) H):rIsiX K [.ref e,.ty n] H Q:=⟨e,D,_,_,b,rfl,fun _ h=>h,he,C,hk,q⟩
theorem bt_ValueError:bootBuiltins "ValueError" = some (.type "ValueError"):=by decide+kernel
structure KinF (Z:Cls K mg) (C:Addr) (b0 b1 b2 b3 b4 b5 b6 b7 b8 b9 b10 b11:Bool):Prop where
 isi:IsiCls K C
 f0:PySem.W.kitOne K (.ref C) (.ref Z.jAb)=some b0
 f1:PySem.W.kitOne K (.ref C) (.ref Z.jAc)=some b1
 f2:PySem.W.kitOne K (.ref C) (.ref Z.jAd)=some b2
 f3:PySem.W.kitOne K (.ref C) (.ref Z.jAe)=some b3
 f4:PySem.W.kitOne K (.ref C) (.ref Z.jAf)=some b4
 f5:PySem.W.kitOne K (.ref C) (.ref Z.jAg)=some b5
 f6:PySem.W.kitOne K (.ref C) (.ref Z.jAh)=some b6
 f7:PySem.W.kitOne K (.ref C) (.ref Z.jAi)=some b7
 f8:PySem.W.kitOne K (.ref C) (.ref Z.jAj)=some b8
 f9:PySem.W.kitOne K (.ref C) (.ref Z.jAk)=some b9
 f10:PySem.W.kitOne K (.ref C) (.ref Z.jAl)=some b10
 f11:PySem.W.kitOne K (.ref C) (.ref Z.jAm)=some b11
 f12:PySem.W.kitOne K (.ref C) (.type "ValueError")=some true
def spKinG (Z:Cls K mg):Sp:=fun vs H Q _=>∃ (e C:Addr) (b0 b1 b2 b3 b4 b5 b6 b7 b8 b9 b10 b11:Bool),vs=[.ref e]/\H e=some (.ext (ExcAt e (.ref C)))/\KinF Z C b0 b1 b2 b3 b4 b5 b6 b7 b8 b9 b10 b11/\∀ l H',Same H H'->H' l=some (.lst (bL [b0,b1,b2,b3,b4,b5,b6,b7,b8,b9,b10,b11,true]))->Q (.ref l) H'
theorem Oq18 (T:Txt mg) (Z:Cls K mg) (D:Def K mg "_law_a_kin" Gq18):CalleeN P w K mg base "_law_a_kin" 1 (spKinG Z):=by
 refine Def.okN D Uq18 Jq18 (fun vs H Q E h=>?len) (fun f cdv A outer s H vs Q E hr h=>?body)
 case len=>obtain⟨e,C,b0,b1,b2,b3,b4,b5,b6,b7,b8,b9,b10,b11,rfl,_⟩:=h; rfl
 case body =>
  obtain⟨e,C,b0,b1,b2,b3,b4,b5,b6,b7,b8,b9,b10,b11,rfl,hE,F,k⟩:=h
  refine⟨_,(pss_cons (psS 1 Uq18.nd (pe_lst (pa_cons (pe_callB (call_isinstanceX K) (by rfl) T.z_isinstance bt_isinstance (pa_cons (pv 0) (pa_cons (pe_globR Z.jAo (by rfl)) pa_nil))) (pa_cons (pe_callB (call_isinstanceX K) (by rfl) T.z_isinstance bt_isinstance (pa_cons (pv 0) (pa_cons (pe_globR Z.jAp (by rfl)) pa_nil))) (pa_cons (pe_callB (call_isinstanceX K) (by rfl) T.z_isinstance bt_isinstance (pa_cons (pv 0) (pa_cons (pe_globR Z.jAq (by rfl)) pa_nil))) (pa_cons (pe_callB (call_isinstanceX K) (by rfl) T.z_isinstance bt_isinstance (pa_cons (pv 0) (pa_cons (pe_globR Z.jAr (by rfl)) pa_nil))) pa_nil))))))
 (pss_cons (psS 1 Uq18.nd (pe_op op_addP (pv 1) (pe_lst (pa_cons (pe_callB (call_isinstanceX K) (by rfl) T.z_isinstance bt_isinstance (pa_cons (pv 0) (pa_cons (pe_globR Z.jAs (by rfl)) pa_nil))) (pa_cons (pe_callB (call_isinstanceX K) (by rfl) T.z_isinstance bt_isinstance (pa_cons (pv 0) (pa_cons (pe_globR Z.jAt (by rfl)) pa_nil))) (pa_cons (pe_callB (call_isinstanceX K) (by rfl) T.z_isinstance bt_isinstance (pa_cons (pv 0) (pa_cons (pe_globR Z.jAu (by rfl)) pa_nil))) pa_nil))))))
 (pss_cons (psS 1 Uq18.nd (pe_op op_addP (pv 1) (pe_lst (pa_cons (pe_callB (call_isinstanceX K) (by rfl) T.z_isinstance bt_isinstance (pa_cons (pv 0) (pa_cons (pe_globR Z.jAv (by rfl)) pa_nil))) (pa_cons (pe_callB (call_isinstanceX K) (by rfl) T.z_isinstance bt_isinstance (pa_cons (pv 0) (pa_cons (pe_globR Z.jAw (by rfl)) pa_nil))) (pa_cons (pe_callB (call_isinstanceX K) (by rfl) T.z_isinstance bt_isinstance (pa_cons (pv 0) (pa_cons (pe_globR Z.jAx (by rfl)) pa_nil))) pa_nil))))))
 (pss_one (ps_ret (pe_op op_addP (pv 1) (pe_lst (pa_cons (pe_callB (call_isinstanceX K) (by rfl) T.z_isinstance bt_isinstance (pa_cons (pv 0) (pa_cons (pe_globR Z.jAy (by rfl)) pa_nil))) (pa_cons (pe_callB (call_isinstanceX K) (by rfl) T.z_isinstance bt_isinstance (pa_cons (pv 0) (pa_cons (pe_globR Z.jAz (by rfl)) pa_nil))) (pa_cons (pe_callB (call_isinstanceX K) (by rfl) T.z_isinstance bt_isinstance (pa_cons (pv 0) (pa_cons (pe_bltn (by rfl) T.z_ValueError bt_ValueError (show RelV (.ty "ValueError") _ from rfl)) pa_nil))) pa_nil)))))))))),?_⟩
  walk_at"un"
  try clear hu
  walk_at"s"
  refine i_isx hE F.isi F.f0 ?_;walk_at"s"
  refine i_isx hE F.isi F.f1 ?_;walk_at"s"
  refine i_isx hE F.isi F.f2 ?_;walk_at"s"
  refine i_isx hE F.isi F.f3 ?_;walk_at"s"
  intro l1 h1
  have s1:Same H _:=same_upd (o:=.lst [.bl b0,.bl b1,.bl b2,.bl b3]) h1
  have e1:upd H l1 (.lst [.bl b0,.bl b1,.bl b2,.bl b3]) l1=some (.lst [.bl b0,.bl b1,.bl b2,.bl b3]):=upd_same
  generalize upd H l1 (.lst [.bl b0,.bl b1,.bl b2,.bl b3])=H1 at *
  have hE1:=s1 _ _ hE
  walk_at"s"
  refine i_isx hE1 F.isi F.f4 ?_;walk_at"s"
  refine i_isx hE1 F.isi F.f5 ?_;walk_at"s"
  refine i_isx hE1 F.isi F.f6 ?_;walk_at"s"
  intro l2 h2
  refine i_addL (a:=l1) (b:=l2) (same_upd h2 _ _ e1) upd_same (szl (by simp)) (fun l3 h3=>?_)
  have s3:Same H1 _:=(same_upd (o:=.lst [.bl b4,.bl b5,.bl b6]) h2).trans (same_upd (o:=.lst ([.bl b0,.bl b1,.bl b2,.bl b3]++[.bl b4,.bl b5,.bl b6])) h3)
  have e3:upd (upd H1 l2 (.lst [.bl b4,.bl b5,.bl b6])) l3 (.lst ([.bl b0,.bl b1,.bl b2,.bl b3]++[.bl b4,.bl b5,.bl b6])) l3=some (.lst ([.bl b0,.bl b1,.bl b2,.bl b3]++[.bl b4,.bl b5,.bl b6])):=upd_same
  generalize upd (upd H1 l2 (.lst [.bl b4,.bl b5,.bl b6])) l3 (.lst ([.bl b0,.bl b1,.bl b2,.bl b3]++[.bl b4,.bl b5,.bl b6]))=H3 at *
  have S3:=s1.trans s3
  have hE3:=S3 _ _ hE
  walk_at"s"
  refine i_isx hE3 F.isi F.f7 ?_;walk_at"s"
  refine i_isx hE3 F.isi F.f8 ?_;walk_at"s"
  refine i_isx hE3 F.isi F.f9 ?_;walk_at"s"
  intro l4 h4
  refine i_addL (a:=l3) (b:=l4) (same_upd h4 _ _ e3) upd_same (szl (by simp)) (fun l5 h5=>?_)
  generalize hx5:([.bl b0,.bl b1,.bl b2,.bl b3]++[.bl b4,.bl b5,.bl b6]++[.bl b7,.bl b8,.bl b9]:List V)=x5 at *
  have s5:Same H3 _:=(same_upd (o:=.lst [.bl b7,.bl b8,.bl b9]) h4).trans (same_upd (o:=.lst x5) h5)
  have e5:upd (upd H3 l4 (.lst [.bl b7,.bl b8,.bl b9])) l5 (.lst x5) l5=some (.lst x5):=upd_same
  generalize upd (upd H3 l4 (.lst [.bl b7,.bl b8,.bl b9])) l5 (.lst x5)=H5 at *
  have S5:=S3.trans s5
  have hE5:=S5 _ _ hE
  walk_at"s"
  refine i_isx hE5 F.isi F.f10 ?_;walk_at"s"
  refine i_isx hE5 F.isi F.f11 ?_;walk_at"s"
  refine i_isxT hE5 F.isi F.f12 ?_;walk_at"s"
  intro l6 h6
  refine i_addL (a:=l5) (b:=l6) (same_upd h6 _ _ e5) upd_same (szl (by rw [<- hx5]; simp)) (fun l7 h7=>?_)
  refine k l7 _ ((S5.trans (same_upd h6)).trans (same_upd h7)) ?_
  rw [upd_same,<- hx5]
  rfl
def kinNames:List Str:=["NoTrain", "NoStand", "NoPaper", "NoBox", "NoSwitch", "NoPlace", "NoTable", "NoText", "NoRow", "NoPiece", "NothingLeft", "TooMany"]
theorem pd_str {H:Hp} {n:Nat} {x:Str} (h:PyData.strOk x=true):PdAt K H n (.str x) (.str x):=by cases n <;> exact⟨rfl,h⟩
theorem i_eqS {H:Hp} {Q:VK} {x y:Str} (hx:PyData.strOk x=true) (hy:PyData.strOk y=true) (q:Q (.bl (x == y)) H):rEqP K (.str x) (.str y) H Q:=⟨_,_,pd_str hx,pd_str hy,by simpa [PyData.eqv] using q⟩
theorem i_neS {H:Hp} {Q:VK} {x y:Str} (hx:PyData.strOk x=true) (hy:PyData.strOk y=true) (q:Q (.bl (!(x == y))) H):rNeP K (.str x) (.str y) H Q:=⟨_,_,pd_str hx,pd_str hy,by simpa [PyData.eqv] using q⟩
theorem names_ok:kinNames.all PyData.strOk=true:=by decide+kernel
def dueX (x:Str):List Bool:=kinNames.map (· == x)++[true]
def spDueKinG:Sp:=fun vs H Q _=>∃ x:Str,vs=[.str x]/\PyData.strOk x=true/\∀ l H',Same H H'->H' l=some (.lst (bL (dueX x)))->Q (.ref l) H'
theorem Oq19 (T:Txt mg) (D:Def K mg "_law_due_kin" Gq19):Callee P w K mg base "_law_due_kin" 1 spDueKinG:=by
 refine D.ok Uq19 Jq19 (fun vs H Q E h=>?len) (fun f cdv A outer s H vs Q E hr h=>?body)
 case len=>obtain⟨x,rfl,_⟩:=h; rfl
 case body =>
  obtain⟨nm,rfl,hnm,k⟩:=h
  walk_at"z4"
  refine⟨_,(pss_cons (psS 1 Uq19.nd (pe_lst (pa_cons pe_str (pa_cons pe_str (pa_cons pe_str (pa_cons pe_str (pa_cons pe_str (pa_cons pe_str (pa_cons pe_str (pa_cons pe_str (pa_cons pe_str pa_nil)))))))))))
 (pss_cons (psS 1 Uq19.nd (pe_op op_addP (pv 1) (pe_lst (pa_cons pe_str (pa_cons pe_str (pa_cons pe_str pa_nil))))))
 (pss_one (ps_ret (pe_op op_addP (by exact pe_comp (N:=["one", "name"]) (fr:=[none,some 0]) ⟨by rfl,by decide+kernel,by decide+kernel,(show ∀ y∈(_:List (Str×NameKind)),y.2=NameKind.free->(defScope Gq19).names.lookup y.1=some .cell\/(defScope Gq19).names.lookup y.1=some .free by decide+kernel),(fr_none (fr_some (by rfl) (by first | exact Or.inl rfl | exact Or.inr rfl) (by rfl) fr_nil))⟩ (by rfl) (pi_listK K (pv 1)) (fun _ _ _ _=>(pg_name (i:=0) (show List.Nodup (["one", "name"]:List Str) by decide) (by rfl) (by first | exact Or.inl rfl | exact Or.inr rfl))) (fun _ _ _ _=>pifs_nil) (fun _ _ _ _=>(pe_cmpR (op_eqK K hu) (pv 0) (pv 1) (nomark _))) (gw_name (by rfl))) (pe_lst (pa_cons pe_bl pa_nil))))))),?_⟩
  walk_at"un"
  try clear hu
  walk_at"s"
  intro l1 h1;walk_at"s"
  intro l2 h2
  refine i_addL (a:=l1) (b:=l2) (same_upd h2 _ _ upd_same) upd_same (szl (by simp)) (fun l3 h3=>?_)
  have s3':∀ o,Same H (upd _ l3 o):=fun o=>((same_upd h1).trans (same_upd h2)).trans (same_upd (o:=o) h3)
  generalize hH:upd _ l3 _=H3
  have s3:Same H H3:=by rw [<- hH]; exact s3' _
  have e4:H3 l3=some (.lst (kinNames.map V.str)):=by rw [<- hH,upd_same]; rfl
  walk_at"s"
  refine⟨⟨_,SqL.of e4⟩,cp_list (xs:=kinNames.map V.str) (fun i ys H4=>ys=bL ((kinNames.take i).map (· == nm))/\i<=12/\H3=H4) ⟨by simp [bL],Nat.zero_le _,rfl⟩ ?_ (szlt (by simp [kinNames])) ?_ ?_⟩
  ·rintro i ys H4 ⟨rfl,hi,rfl⟩
   exact⟨SqL.of e4,by simp [bL]; lia⟩
  ·rintro i x ys H4 hx ⟨rfl,hi,rfl⟩
   rw [List.getElem?_map] at hx
   walk_at"z16"
   have hil:i<kinNames.length:=(List.getElem?_eq_some_iff.mp hz).1
   walk_at"s"
   refine i_eqS (List.all_eq_true.mp names_ok z (List.mem_of_getElem? hz)) hnm ?_
   refine⟨?_,by simp [kinNames] at hil; lia,rfl⟩
   rw [take_snoc_get hz]
   simp [bL]
  ·rintro l5 ys H4 ⟨rfl,hi,rfl⟩ h5
   walk_at"s"
   intro l6 h6
   refine i_addL (a:=l5) (b:=l6) (same_upd h6 _ _ upd_same) upd_same (szl (by simp [bL,kinNames])) (fun l7 h7=>?_)
   refine k l7 _ (((s3.trans (same_upd h5)).trans (same_upd h6)).trans (same_upd h7)) ?_
   rw [upd_same]
   rfl
theorem figs_len (w:List Nat):(figs w).length<=w.length:=by
 unfold figs
 split
 ·simp
 ·exact Nat.le_refl _
def spIsNum:Sp:=fun vs H Q _=>∃ x,vs=[.str x]/\Asc x/\x.length<=20000/\∀ H',Same H H'->Q (.bl (decide (numW (sg x)))) H'
theorem Oq0 (T:Txt mg) (D:Def K mg "is_number" Gq0):Callee P w K mg base "is_number" 1 spIsNum:=by
 refine D.ok Uq0 Jq0 (fun vs H Q E h=>?len) (fun f cdv A outer s H vs Q E hr h=>?body)
 case len=>obtain⟨x,rfl,_⟩:=h; rfl
 case body =>
  obtain⟨x,rfl,hA,hl,k⟩:=h
  walk_at"z4"
  refine⟨_,(pss_join (psS 1 Uq0.nd (pe_ifExp (pt_truthK K (pe_bmK K PySem.F.plainAttrs_str PySem.F.slot_str_startswith PySem.F.type_str_startswith mt_startswith (pv 0) (pa_cons pe_str pa_nil))) (pe_slice (sl_Q (K:=K)) (pv 0) (po_some pe_int) po_none) (pv 0)))
 (pss_cons (ps_if (pt_not (pt_chain op_le op_le pe_int (pe_callB (call_lenK K) (by rfl) T.z_len bt_len (pa_cons (pv 1) pa_nil)) (pe_globI T.g_MOST_FIGURES (by rfl))))
 (pss_one (ps_ret pe_bl))
 pss_nil)
 (pss_cons (ps_if (pt_not (pt_truthK K (pe_callB (call_allK K) (by rfl) T.z_all bt_all (pa_cons (by exact pe_comp (N:=["sign"]) (fr:=[none]) ⟨by rfl,by decide+kernel,by decide+kernel,(show ∀ y∈(_:List (Str×NameKind)),y.2=NameKind.free->(defScope Gq0).names.lookup y.1=some .cell\/(defScope Gq0).names.lookup y.1=some .free by decide+kernel),(fr_none fr_nil)⟩ (by rfl) (pi_str (pv 1)) (fun _ _ _ _=>(pg_name (i:=0) (show List.Nodup (["sign"]:List Str) by decide) (by rfl) (by first | exact Or.inl rfl | exact Or.inr rfl))) (fun _ _ _ _=>pifs_nil) (fun _ _ _ _=>(pe_cmpR (op_inQ (K:=K)) (pv 0) (pe_globS T.g_FIGURES (by rfl)) (by rfl))) (gw_name (by rfl))) pa_nil))))
 (pss_one (ps_ret pe_bl))
 pss_nil)
 (pss_one (ps_ret (pe_or (pe_cmpR (op_neK K hu) (pe_ix (ix_Q (K:=K)) (pv 1) pe_int (by exact fun _ _=>rfl)) pe_str (nomark _)) (pe_one (pe_cmpR (op_eqK K hu) (pv 0) pe_str (nomark _))))))))),?_⟩
  walk_at"un"
  try clear hu
  walk_at"s"
  refine⟨fun σ H1=>∃ f,σ = [some (.str x),some (.str f)]/\sg f=figs (sg x)/\H=H1,?_,?_⟩
  ·walk_at"s"
   refine⟨rfl,i_starts ?_⟩
   rw [show (Str.ofString "-" : Str)=⟨#[45]⟩ from rfl,starts_one]
   walk_at"s"
   by_cases hm:(sg x).head? = some 45
   ·refine ifT (by simp [hm]) ?_
    walk_at"s"
    refine i_slS (by lia) ?_
    refine⟨_,rfl,?_,rfl⟩
    rw [txt_from x (by decide)]
    unfold figs
    rw [if_pos hm]
    simp
   ·refine ifF (by simp [hm]) ?_
    walk_at"s"
    refine⟨?_,rfl⟩
    unfold figs
    rw [if_neg hm]
  rintro σ H1 ⟨f,rfl,hf,rfl⟩
  have hfl:f.length=(figs (sg x)).length:=by rw [<- hf,sg_len]
  have hfx:=figs_len (sg x)
  rw [sg_len] at hfx
  have hfA:Asc f:=fun c hc=>hA c (by
   rw [hf] at hc
   unfold figs at hc
   split at hc
   ·exact List.mem_of_mem_tail hc
   ·exact hc)
  have no:¬ numW (sg x)->∀ H',Same H H'->Q (.bl false) H':=fun hn H' s'=>by
   have:=k H' s'
   rwa [decide_eq_false hn] at this
  walk_at"s"
  refine i_lenS (by lia) ?_;walk_at"s"
  refine i_if (fun g1=>?_) (fun g1=>?_)
  rotate_left
  ·walk_at"s"
   exact no (fun z=>g1 (by have:=z.1; lia)) _ (Same.refl _)
  walk_at"s"
  refine i_ifn (fun g2=>?_) (fun g2=>?_)
  ·exact no (fun z=>g2 (by have:=z.2.1; lia)) _ (Same.refl _)
  walk_at"s"
  refine⟨hfA.all,cp_str (fun i ys H2=>ys=((sg f).take i).map (fun c=>V.bl (decide (c∈sg (Str.ofString "0123456789"))))/\H=H2) ⟨rfl,rfl⟩ ?_ (szlt (by lia)) ?_ ?_⟩
  ·rintro i ys H2 ⟨rfl,rfl⟩
   simp
   lia
  ·rintro i c ys H2 hc ⟨rfl,rfl⟩
   walk_at"s"
   refine i_inC ?_
   refine⟨?_,rfl⟩
   rw [take_snoc_get hc,List.map_append]
   rfl
  rintro l ys H2 ⟨rfl,rfl⟩ hl2
  rw [<- sg_len,List.take_of_length_le (Nat.le_refl _)]
  have s2:Same H _:=same_upd (o:=.lst ((sg f).map fun c=>V.bl (decide (c∈sg (Str.ofString "0123456789"))))) hl2
  have e2:upd H l (.lst ((sg f).map fun c=>V.bl (decide (c∈sg (Str.ofString "0123456789"))))) l=some (.lst (((sg f).map fun c=>decide (c∈sg (Str.ofString "0123456789"))).map V.bl)):=by rw [upd_same,List.map_map]; rfl
  generalize upd H l (.lst ((sg f).map fun c=>V.bl (decide (c∈sg (Str.ofString "0123456789")))))=H2 at *
  have hdig:∀ c,c∈sg (Str.ofString "0123456789")↔48<=c/\c<=57:=fun c=>by
   show c∈[48,49,50,51,52,53,54,55,56,57]↔_
   simp
   omega
  walk_at"s"
  refine i_all K (SqL.of e2) ?_;walk_at"s"
  have hall:(((sg f).map fun c=>decide (c∈sg (Str.ofString "0123456789"))).all id)=decide (∀ c∈figs (sg x),48<=c/\c<=57):=by
   rw [Bool.eq_iff_iff,<- hf,List.all_eq_true,decide_eq_true_iff]
   constructor
   ·intro z c hc
    exact (hdig c).mp (of_decide_eq_true (z _ (List.mem_map.mpr ⟨c,hc,rfl⟩)))
   ·intro z b hb
    obtain⟨c,hc,rfl⟩:=List.mem_map.mp hb
    exact decide_eq_true ((hdig c).mpr (z c hc))
  rw [hall]
  by_cases hd:∀ c∈figs (sg x),48<=c/\c<=57
  rotate_left
  ·refine ifT (by rw [decide_eq_false hd]; rfl) ?_
   exact no (fun z=>hd z.2.2.1) _ s2
  refine ifF (by rw [decide_eq_true hd]; rfl) ?_
  obtain⟨c0,r,hc0⟩:∃ c r,sg f=c :: r:=by
   cases e:sg f with
   | nil=>rw [<- sg_len,e] at g1; simp at g1
   | cons c r=>exact⟨c,r,rfl⟩
  walk_at"s"
  refine i_ixS (by lia) (by decide) (c:=c0) (by show (sg f)[0]? = _; rw [hc0]; rfl) ?_
  have hc1:Asc ⟨#[c0]⟩:=fun c hc=>hfA c (by rw [hc0]; simp at hc ⊢; exact .inl hc)
  walk_at"s"
  refine i_neS hc1.ok (by decide+kernel) ?_;walk_at"s"
  have hx0:sg (Str.ofString "0")=[48]:=rfl
  have hz:((⟨#[c0]⟩:Str) == Str.ofString "0")=decide (c0=48):=by
   rw [Bool.eq_iff_iff,beq_iff_eq,decide_eq_true_iff]
   constructor
   ·intro z
    have:[c0]=[48]:=congrArg sg z
    simpa using this
   ·rintro rfl
    rfl
  rw [hz]
  have hnum:numW (sg x)↔(c0≠48\/sg x=[48]):=by
   unfold numW
   rw [<- hf,hc0]
   rw [hc0] at hf
   rw [<- hf] at hd
   have:(c0 :: r).length=f.length:=by rw [<- hc0,sg_len]
   constructor
   ·rintro⟨_,_,_,z | z⟩
    ·exact .inl (by simpa using z)
    ·exact .inr z
   ·intro z
    refine⟨by lia,by lia,hd,?_⟩
    rcases z with z | z
    ·exact .inl (by simpa using z)
    ·exact .inr z
  by_cases h48:c0=48
  ·refine ifF (by simp [h48]) ?_
   walk_at"s"
   refine i_eqS hA.ok (by decide+kernel) ?_
   have:=k _ s2
   rwa [show decide (numW (sg x))=(x == Str.ofString "0") from ?_] at this
   rw [Bool.eq_iff_iff,decide_eq_true_iff,hnum,beq_iff_eq]
   constructor
   ·rintro (z | z)
    ·exact absurd h48 z
    ·exact sg_ext z
   ·rintro rfl
    exact .inr rfl
  ·refine ifT (by simp [h48]) ?_
   have:=k _ s2
   rwa [decide_eq_true (hnum.mpr (.inl h48))] at this
def spAreNums:Sp:=fun vs H Q _=>∃ (p:Addr) (ss:List Str),vs=[.ref p]/\H p=some (.lst (ss.map V.str))/\(∀ s∈ss,Asc s/\s.length<=20000)/\ss.length<=20001/\∀ H',Same H H'->Q (.bl (decide (∀ s∈ss,numW (sg s)))) H'
theorem Oq1 (T:Txt mg) (D:Def K mg "are_numbers" Gq1) (Cq0:Callee P w K mg base "is_number" 1 spIsNum):Callee P w K mg base "are_numbers" 2 spAreNums:=by
 refine D.ok Uq1 Jq1 (fun vs H Q E h=>?len) (fun f cdv A outer s H vs Q E hr h=>?body)
 case len=>obtain⟨p,ss,rfl,_⟩:=h; rfl
 case body =>
  obtain⟨p,ss,rfl,hp,hA,hl,k⟩:=h
  walk_at"z4"
  refine⟨_,(pss_one (ps_ret (pe_callB (call_allK K) (by rfl) T.z_all bt_all (pa_cons (by exact pe_comp (N:=["word"]) (fr:=[none]) ⟨by rfl,by decide+kernel,by decide+kernel,(show ∀ y∈(_:List (Str×NameKind)),y.2=NameKind.free->(defScope Gq1).names.lookup y.1=some .cell\/(defScope Gq1).names.lookup y.1=some .free by decide+kernel),(fr_none fr_nil)⟩ (by rfl) (pi_listK K (pv 0)) (fun _ _ _ _=>(pg_name (i:=0) (show List.Nodup (["word"]:List Str) by decide) (by rfl) (by first | exact Or.inl rfl | exact Or.inr rfl))) (fun _ _ _ _=>pifs_nil) (fun _ _ _ _=>(pe_callN Cq0 (hr.mono (by decide)) (by rfl) (pa_cons (pv 0) pa_nil))) (gw_name (by rfl))) pa_nil)))),?_⟩
  walk_at"un"
  try clear hu
  walk_at"s"
  refine⟨⟨_,SqL.of hp⟩,cp_list (xs:=ss.map V.str) (fun i ys H2=>ys=(((ss.take i).map fun s=>decide (numW (sg s))).map V.bl)/\Same H H2) ⟨rfl,Same.refl _⟩ ?_ (szlt (by simp; lia)) ?_ ?_⟩
  ·rintro i ys H2 ⟨rfl,s2⟩
   exact⟨SqL.of (s2 _ _ hp),by simp; lia⟩
  ·rintro i x ys H2 hx ⟨rfl,s2⟩
   rw [List.getElem?_map] at hx
   walk_at"z16"
   walk_at"s"
   refine⟨z,rfl,(hA z (List.mem_of_getElem? hz)).1,(hA z (List.mem_of_getElem? hz)).2,fun H3 s3=>?_⟩
   refine⟨?_,s2.trans s3⟩
   rw [take_snoc_get hz]
   simp
  rintro l ys H2 ⟨rfl,s2⟩ hl2
  rw [List.length_map,List.take_of_length_le (Nat.le_refl _)]
  refine i_all K (SqL.of upd_same) ?_
  have:=k _ (s2.trans (same_upd (o:=.lst ((ss.map fun s=>decide (numW (sg s))).map V.bl)) hl2))
  rwa [show decide (∀ s∈ss,numW (sg s))=((ss.map fun s=>decide (numW (sg s))).all id) from ?_] at this
  rw [Bool.eq_iff_iff,List.all_eq_true,decide_eq_true_iff]
  constructor
  ·intro z b hb
   obtain⟨c,hc,rfl⟩:=List.mem_map.mp hb
   exact decide_eq_true (z c hc)
  ·intro z c hc
   exact of_decide_eq_true (z _ (List.mem_map.mpr ⟨c,hc,rfl⟩))
def spNumsOf:Sp:=fun vs H Q _=>∃ (p:Addr) (ss:List Str),vs=[.ref p]/\H p=some (.lst (ss.map V.str))/\(∀ s∈ss,numW (sg s))/\ss.length<=20001/\∀ l H',NewI H H' l (ss.map valOf)->Q (.ref l) H'
theorem Oq2 (T:Txt mg) (D:Def K mg "numbers_of" Gq2):Callee P w K mg base "numbers_of" 1 spNumsOf:=by
 refine D.ok Uq2 Jq2 (fun vs H Q E h=>?len) (fun f cdv A outer s H vs Q E hr h=>?body)
 case len=>obtain⟨p,ss,rfl,_⟩:=h; rfl
 case body =>
  obtain⟨p,ss,rfl,hp,hA,hl,k⟩:=h
  walk_at"z4"
  refine⟨_,(pss_one (ps_ret (by exact pe_comp (N:=["word"]) (fr:=[none]) ⟨by rfl,by decide+kernel,by decide+kernel,(show ∀ y∈(_:List (Str×NameKind)),y.2=NameKind.free->(defScope Gq2).names.lookup y.1=some .cell\/(defScope Gq2).names.lookup y.1=some .free by decide+kernel),(fr_none fr_nil)⟩ (by rfl) (pi_listK K (pv 0)) (fun _ _ _ _=>(pg_name (i:=0) (show List.Nodup (["word"]:List Str) by decide) (by rfl) (by first | exact Or.inl rfl | exact Or.inr rfl))) (fun _ _ _ _=>pifs_nil) (fun _ _ _ _=>(pe_callTy call_intQ (by rfl) T.z_int bt_int (pa_cons (pv 0) pa_nil))) (gw_name (by rfl))))),?_⟩
  walk_at"un"
  try clear hu
  walk_at"s"
  refine⟨⟨_,SqL.of hp⟩,cp_list (xs:=ss.map V.str) (fun i ys H2=>ys=iL ((ss.take i).map valOf)/\H=H2) ⟨rfl,rfl⟩ ?_ (szlt (by simp; lia)) ?_ ?_⟩
  ·rintro i ys H2 ⟨rfl,rfl⟩
   exact⟨SqL.of hp,by simp [iL]; lia⟩
  ·rintro i x ys H2 hx ⟨rfl,rfl⟩
   rw [List.getElem?_map] at hx
   walk_at"z16"
   have hw:=hA z (List.mem_of_getElem? hz)
   obtain⟨n,hn,_⟩:=num_word hw
   have hzl:z.length<=41:=by
    rw [<- sg_len]
    have:=hw.2.1
    unfold figs at this
    split at this
    ·rw [List.length_tail] at this
     lia
    ·lia
   walk_at"s"
   refine .inr ⟨z,n,rfl,hn,by lia,?_⟩
   refine⟨?_,rfl⟩
   rw [take_snoc_get hz]
   simp [iL,valOf,hn]
  rintro l ys H2 ⟨rfl,rfl⟩ hl2
  rw [List.length_map,List.take_of_length_le (Nat.le_refl _)]
  exact k l _ ⟨hl2,same_upd hl2,upd_same⟩
def spWritten (K:PySem.W.Frag):Sp:=fun vs H Q _=>∃ (p:Addr) (ns:List Int),vs=[.ref p]/\SqL K H p (iL ns)/\(∀ n∈ns,Small n)/\ns.length<=1000/\∀ H',Same H H'->Q (.str (Str.join ⟨#[32]⟩ (ns.map tx))) H'
theorem Oq28 (T:Txt mg) (D:Def K mg "written" Gq28):Callee P w K mg base "written" 1 (spWritten K):=by
 refine D.ok Uq28 Jq28 (fun vs H Q E h=>?len) (fun f cdv A outer s H vs Q E hr h=>?body)
 case len=>obtain⟨p,ns,rfl,_⟩:=h; rfl
 case body =>
  obtain⟨p,ns,rfl,hp,hA,hl,k⟩:=h
  walk_at"z4"
  refine⟨_,(pss_one (ps_ret (pe_bmK K PySem.F.plainAttrs_str PySem.F.slot_str_join PySem.F.type_str_join (mt_joinK K) pe_str (pa_cons (by exact pe_comp (N:=["number"]) (fr:=[none]) ⟨by rfl,by decide+kernel,by decide+kernel,(show ∀ y∈(_:List (Str×NameKind)),y.2=NameKind.free->(defScope Gq28).names.lookup y.1=some .cell\/(defScope Gq28).names.lookup y.1=some .free by decide+kernel),(fr_none fr_nil)⟩ (by rfl) (pi_listK K (pv 0)) (fun _ _ _ _=>(pg_name (i:=0) (show List.Nodup (["number"]:List Str) by decide) (by rfl) (by first | exact Or.inl rfl | exact Or.inr rfl))) (fun _ _ _ _=>pifs_nil) (fun _ _ _ _=>(pe_callTy call_str_int (by rfl) T.z_str bt_str (pa_cons (pv 0) pa_nil))) (gw_name (by rfl))) pa_nil)))),?_⟩
  walk_at"un"
  try clear hu
  walk_at"s"
  refine⟨rfl,?_⟩;walk_at"s"
  refine⟨⟨_,hp⟩,cp_list (xs:=iL ns) (fun i ys H2=>ys=((ns.take i).map tx).map V.str/\H=H2) ⟨rfl,rfl⟩ ?_ (szlt (by simp [iL]; lia)) ?_ ?_⟩
  ·rintro i ys H2 ⟨rfl,rfl⟩
   exact⟨hp,by simp; lia⟩
  ·rintro i x ys H2 hx ⟨rfl,rfl⟩
   unfold iL at hx
   rw [List.getElem?_map] at hx
   walk_at"z16"
   walk_at"s"
   refine⟨small_log (hA z (List.mem_of_getElem? hz)),?_⟩
   refine⟨?_,rfl⟩
   rw [take_snoc_get hz,List.map_append,List.map_append]
   rfl
  rintro l ys H2 ⟨rfl,rfl⟩ hl2
  rw [show (iL ns).length=ns.length by simp [iL],List.take_of_length_le (Nat.le_refl _)]
  have hw:=words_len hA
  refine⟨_,l,ns.map tx,rfl,rfl,SqL.of upd_same,?_,?_⟩
  ·show _+_*1<=_
   rw [List.length_map]
   lia
  exact k _ (same_upd hl2)
def spHasForm:Sp:=fun vs H Q _=>∃ (word:Str) (p:Addr) (ss:List Str),vs=[.str word,.ref p]/\H p=some (.lst (ss.map V.str))/\(∀ s∈ss,Asc s/\s.length<=20000)/\ss.length<=20001/\∀ (b:Bool) H',(b=true↔FormOk word ss)->Same H H'->Q (.bl b) H'
theorem Oq3 (T:Txt mg) (M:Tabs w K mg) (D:Def K mg "has_form" Gq3) (Cq1:Callee P w K mg base "are_numbers" 2 spAreNums):Callee P w K mg base "has_form" 3 spHasForm:=by
 refine D.ok Uq3 Jq3 (fun vs H Q E h=>?len) (fun f cdv A outer s H vs Q E hr h=>?body)
 case len=>obtain⟨word,p,ss,rfl,_⟩:=h; rfl
 case body =>
  obtain⟨word,p,ss,rfl,hp,hA,hl,k⟩:=h
  walk_at"z4"
  refine⟨_,(pss_cons (ps_if (PW.pt (pw_or (pt_cmp (pc_mnotin (by rfl) M.m_FORMS M.d_FORMS (pv 0))) (pw_or1 (pt_not (pt_truthK K (pe_callN Cq1 (hr.mono (by decide)) (by rfl) (pa_cons (pv 1) pa_nil)))))))
 (pss_one (ps_ret pe_bl))
 pss_nil)
 (pss_cons (ps_asg (pe_mget (by rfl) M.m_FORMS M.d_FORMS (pv 0) (by exact fun _ _=>rfl)) (pg_tupK K 2 (pgs_cons (pg_name (i:=2) Uq3.nd rfl (Or.inl rfl)) (pgs_cons (pg_name (i:=3) Uq3.nd rfl (Or.inl rfl)) pgs_nil))))
 (pss_one (ps_ret (pe_and (pe_cmpR op_ge (pe_callB (call_lenK K) (by rfl) T.z_len bt_len (pa_cons (pv 1) pa_nil)) (pv 2) (nomark _)) (pe_one (pe_or (pe_cmpR op_isN (pv 3) pe_non (nomark _)) (pe_one (pe_cmpR op_le (pe_callB (call_lenK K) (by rfl) T.z_len bt_len (pa_cons (pv 1) pa_nil)) (pv 3) (nomark _)))))))))),?_⟩
  walk_at"un"
  try clear hu
  walk_at"s"
  rcases row_get (R:=fun (r:Nat×Option Nat) v=>∃ a,v=.ref a/\∀ H,SqT K H a [.int r.1,optV r.2]) word M.p_FORMS with ⟨h1,h2⟩ | ⟨⟨l,m⟩,v,h1,h2,a,rfl,hq⟩
  ·refine ifT (by rw [h2]; rfl) ?_
   walk_at"s"
   exact k false _ ⟨fun z=>(Bool.noConfusion z),fun ⟨_,l,m,z,_⟩=>by rw [h1] at z; cases z⟩ (Same.refl _)
  refine ifF (by rw [h2]; rfl) ?_;walk_at"s"
  refine⟨p,ss,rfl,hp,hA,hl,fun H2 s2=>?_⟩;walk_at"s"
  by_cases hw:∀ s∈ss,numW (sg s)
  rotate_left
  ·refine ifT (by rw [decide_eq_false hw]; rfl) ?_
   walk_at"s"
   exact k false _ ⟨fun z=>(Bool.noConfusion z),fun z=>absurd z.1 hw⟩ s2
  refine ifF (by rw [decide_eq_true hw]; rfl) ?_;walk_at"s"
  refine⟨word,_,rfl,h2,_,_,rfl,hq H2,rfl,_,_,rfl,_,_,rfl,rfl,?_⟩;walk_at"s"
  refine i_len (SqL.of (s2 _ _ hp)) ?_
  rw [List.length_map]
  walk_at"s"
  walk_at"z2"
  rotate_left
  ·exact k false _ ⟨fun z=>(Bool.noConfusion z),fun ⟨_,l',m',z,z2,_⟩=>by rw [h1] at z; cases z; lia⟩ s2
  walk_at"s"
  refine⟨rfl,_,rfl,?_⟩
  cases m with
  | none =>
    refine ifT (by simp [optV]) ?_
    exact k true _ ⟨fun _=>⟨hw,l,none,h1,by lia,fun n z=>by cases z⟩,fun _=>rfl⟩ s2
  | some n =>
    refine ifF (by simp [optV]) ?_;walk_at"s"
    refine i_len (SqL.of (s2 _ _ hp)) ?_
    rw [List.length_map]
    walk_at"s"
    show rI0 _ _ (.int (n:Int)) _ _
    walk_at"s"
    refine k _ _ ⟨fun z=>⟨hw,l,some n,h1,by lia,fun n' e=>?_⟩,fun ⟨_,l',m',z,_,z3⟩=>?_⟩ s2
    ·cases e
     have:=of_decide_eq_true z
     lia
    ·rw [h1] at z
     cases z
     have:=z3 n rfl
     exact decide_eq_true (by lia)
def RowOk (row word:Str) (ns:List Int):Prop:=∃ rest,Txt.split row ⟨#[32]⟩=word :: rest/\FormOk word rest/\ns=rest.map valOf
def spParted (CR:Addr):Sp:=fun vs H Q E=>∃ (row:Str),vs=[.str row]/\Asc row/\row.length<=20000/\(∀ word ns,RowOk row word ns->∀ t l H',H l=none->Same H H'->H' t=some (.tup [.str word,.ref l])->H' l=some (.lst (iL ns))->Q (.ref t) H')/\((∀ word ns,¬ RowOk row word ns)->∀ H',Same H H'->E (.ref CR) none H')
theorem Oq4 (T:Txt mg) (Z:Cls K mg) (D:Def K mg "parted" Gq4) (Cq3:Callee P w K mg base "has_form" 3 spHasForm) (Cq2:Callee P w K mg base "numbers_of" 1 spNumsOf):CalleeE P w K mg base "parted" 4 (spParted Z.jAj):=by
 refine Def.okE D Uq4 Jq4 (fun vs H Q E h=>?len) (fun f cdv A outer s H vs Q E hr h=>?body)
 case len=>obtain⟨row,rfl,_⟩:=h; rfl
 case body =>
  obtain⟨row,rfl,hA,hl,k,kx⟩:=h
  walk_at"z4"
  refine⟨_,(pss_cons (ps_asg (pe_bmK K PySem.F.plainAttrs_str PySem.F.slot_str_split PySem.F.type_str_split mt_split (pv 0) (pa_cons pe_str pa_nil)) (pg_starK K 1 (pgs_cons (pg_name (i:=1) Uq4.nd rfl (Or.inl rfl)) (pgs_star (pg_name (i:=2) Uq4.nd rfl (Or.inl rfl)) pgs_nil))))
 (pss_cons (ps_if (pt_not (pt_truthK K (pe_callN Cq3 (hr.mono (by decide)) (by rfl) (pa_cons (pv 1) (pa_cons (pv 2) pa_nil)))))
 (pss_one (ps_raise Z.exc_NoRow PySem.F.excBase_ValueError (by rfl) (pa_cons pe_str pa_nil)))
 pss_nil)
 (pss_one (ps_ret (pe_tup (pa_cons (pv 1) (pa_cons (pe_callN Cq2 (hr.mono (by decide)) (by rfl) (pa_cons (pv 2) pa_nil)) pa_nil))))))),?_⟩
  walk_at"un"
  try clear hu
  walk_at"s"
  have hP:=split_ok row 32
  refine⟨rfl,row,⟨#[32]⟩,rfl,rfl,rfl,by lia,?_,fun l1 h1=>?_⟩
  ·have:=hP.sum
   lia
  have hPs:=hP.sum
  have hPa:=hP.asc hA
  have hPl:=hP.len
  cases hsp:Txt.split row ⟨#[32]⟩ with
  | nil=>exact absurd hsp hP.ne
  | cons a r =>
  rw [hsp] at hPs hPa hPl
  have e1:upd H l1 (.lst ((a :: r).map V.str)) l1=some (.lst ((a :: r).map V.str)):=upd_same
  have s1:Same H _:=same_upd (o:=.lst ((a :: r).map V.str)) h1
  generalize upd H l1 (.lst ((a :: r).map V.str))=H1 at *
  refine⟨l1,_,rfl,SqL.of e1,by simp,fun l2 h2=>?_⟩
  refine⟨_,_,rfl,_,_,rfl,rfl,?_⟩
  have e2:upd H1 l2 (.lst (((a :: r).map V.str).drop 1)) l2=some (.lst (r.map V.str)):=by rw [upd_same]; rfl
  have s2:Same H _:=s1.trans (same_upd (o:=.lst (((a :: r).map V.str).drop 1)) h2)
  generalize upd H1 l2 (.lst (((a :: r).map V.str).drop 1))=H2 at *
  simp only [List.map_cons,List.sum_cons,List.length_cons] at hPs
  walk_at"s"
  refine⟨a,l2,r,rfl,e2,fun q hq=>⟨hPa q (by simp [hq]),Nat.le_trans (hPl q (by simp [hq])) hl⟩,by lia,fun b H3 hb s3=>?_⟩;walk_at"s"
  cases b with
  | false =>
    walk_at"s"
    refine⟨by simp,kx (fun word ns ⟨rest,z1,z2,_⟩=>?_) _ (s2.trans s3)⟩
    rw [hsp] at z1
    cases z1
    have:=hb.mpr z2
    cases this
  | true =>
    walk_at"s"
    have hf:=hb.mp rfl
    refine⟨l2,r,rfl,s3 _ _ e2,hf.1,by lia,fun l4 H4 N4=>?_⟩;walk_at"s"
    intro t5 h5
    exact k a _ ⟨r,hsp,hf,rfl⟩ t5 l4 _ ((s2.trans s3).free N4.fr) ((s2.trans s3).trans (N4.sm.trans (same_upd h5))) upd_same (same_upd h5 _ _ N4.at_)
def spIsTrain (K:PySem.W.Frag):Sp:=fun vs H Q _=>∃ (a:Addr) (ps:List Int),vs=[.ref a]/\SqL K H a (iL ps)/\∀ b:Bool,(b=true↔isTr ps)->Q (.bl b) H
theorem Oq29 (T:Txt mg) (D:Def K mg "is_train" Gq29):Callee P w K mg base "is_train" 1 (spIsTrain K):=by
 refine D.ok Uq29 Jq29 (fun vs H Q E h=>?len) (fun f cdv A outer s H vs Q E hr h=>?body)
 case len=>obtain⟨a,ps,rfl,_⟩:=h; rfl
 case body =>
  obtain⟨a,ps,rfl,hS,k⟩:=h
  refine⟨_,(pss_one (ps_ret (pe_and (pe_chain op_le op_le pe_int (pe_callB (call_lenK K) (by rfl) T.z_len bt_len (pa_cons (pv 0) pa_nil)) (pe_globI T.g_MOST_PLAYS (by rfl))) (pe_one (pe_cmpR op_ge (pe_callB (call_minK K) (by rfl) T.z_min bt_min (pa_cons (pv 0) pa_nil)) pe_int (nomark _)))))),?_⟩
  walk_at"un"
  try clear hu
  walk_at"s"
  refine i_lenI hS ?_;walk_at"s"
  refine i_if (fun g1=>?_) (fun g1=>?_)
  ·walk_at"s"
   refine i_if (fun g2=>?_) (fun g2=>?_)
   ·walk_at"s"
    refine i_minL hS (by lia) (fun m hm hle=>?_);walk_at"s"
    refine k _ ⟨fun z=>⟨by lia,by lia,fun p hp=>?_⟩,fun z=>?_⟩
    ·have:=hle p hp
     have:=of_decide_eq_true z
     lia
    ·exact decide_eq_true (z.2.2 m hm)
   ·exact k _ ⟨fun z=>(Bool.noConfusion z),fun z=>absurd z.2.1 (by lia)⟩
  ·walk_at"s"
   exact k _ ⟨fun z=>(Bool.noConfusion z),fun z=>absurd z.1 (by lia)⟩
def spKeeps (K:PySem.W.Frag):Sp:=fun vs H Q _=>∃ (a b:Addr) (ps xs:List Int) (hd:Int),vs=[.ref a,.int hd,.ref b]/\SqL K H a (iL ps)/\SqL K H b (iL xs)/\∀ (r:Bool) H',(r=true↔keeps ps hd xs)->Same H H'->Q (.bl r) H'
theorem keeps_end {ps xs:List Int} {a:Int}:keeps (ps.drop (min ps.length xs.length)) a (xs.drop (min ps.length xs.length)):=by
 by_cases h:ps.length<=xs.length
 ·rw [Nat.min_eq_left h,List.drop_of_length_le (Nat.le_refl _)]; trivial
 ·rw [Nat.min_eq_right (by lia),List.drop_of_length_le (l:=xs) (Nat.le_refl _)]
  cases ps.drop xs.length <;> trivial
theorem Oq30 (T:Txt mg) (D:Def K mg "keeps_plays" Gq30):Callee P w K mg base "keeps_plays" 1 (spKeeps K):=by
 refine D.ok Uq30 Jq30 (fun vs H Q E h=>?len) (fun f cdv A outer s H vs Q E hr h=>?body)
 case len=>obtain⟨a,b,ps,xs,hd,rfl,_⟩:=h; rfl
 case body =>
  obtain⟨a,b,ps,xs,hd,rfl,hA,hB,k⟩:=h
  refine⟨_,(pss_cons (psS 3 Uq30.nd (pv 1))
 (pss_cons (ps_for PassesOwn.never rfl (pi_zip2K K (by rfl) T.z_zip (pa_cons (pv 0) (pa_cons (pv 2) pa_nil))) (pg_tupK K 2 (pgs_cons (pg_name (i:=4) Uq30.nd rfl (Or.inl rfl)) (pgs_cons (pg_name (i:=5) Uq30.nd rfl (Or.inl rfl)) pgs_nil)))
 (pss_cons (ps_if (pt_cmpR op_gt (pe_callB call_absK (by rfl) T.z_abs bt_abs (pa_cons (pe_op op_sub (pv 5) (pv 3)) pa_nil)) (pv 4) (nomark _))
 (pss_one (ps_ret pe_bl))
 pss_nil)
 (pss_one (psS 3 Uq30.nd (pv 5)))))
 (pss_one (ps_ret pe_bl)))),?_⟩
  walk_at"un"
  try clear hu
  walk_at"s"
  refine⟨_,_,rfl,⟨_,hA⟩,⟨_,hB⟩,lp_zip (xs:=iL ps) (ys:=iL xs) (fun i σ H2=>∃ (ah:Int) (u v:Option V),σ = [some (.ref a),some (.int hd),some (.ref b),some (.int ah),u,v]/\Same H H2/\(keeps ps hd xs↔keeps (ps.drop i) ah (xs.drop i))) ?_ ?_ ?_ ?_⟩
  ·exact⟨hd,_,_,rfl,Same.refl _,Iff.rfl⟩
  ·rintro i σ H2 ⟨ah,u,v,rfl,sm,hk⟩
   exact⟨sm.seq hA,sm.seq hB⟩
  ·rintro i x y t σ H2 hx hy ⟨ah,u,v,rfl,sm,hk⟩ ht
   rw [List.getElem?_map] at hx hy
   obtain⟨p,hp,rfl⟩:=Option.map_eq_some_iff.mp hx
   obtain⟨q,hq,rfl⟩:=Option.map_eq_some_iff.mp hy
   walk_at"s"
   walk_at"z9"
   walk_at"s"
   rw [dropc hp,dropc hq] at hk
   walk_at"z2"
   ·walk_at"s"
    refine k _ _ ⟨fun z=>(Bool.noConfusion z),fun z=>?_⟩ (sm.trans (same_upd ht))
    have:=(hk.mp z).1
    split at g <;> lia
   ·walk_at"s"
    refine⟨q,_,_,rfl,sm.trans (same_upd ht),hk.trans ⟨fun z=>z.2,fun z=>⟨?_,z⟩⟩⟩
    split at g <;> lia
  ·rintro σ H2 ⟨ah,u,v,rfl,sm,hk⟩
   walk_at"s"
   refine k _ _ ⟨fun _=>hk.mpr ?_,fun _=>rfl⟩ sm
   simp only [iL,List.length_map]
   exact keeps_end
def spDragged:Sp:=fun vs H Q _=>∃ p a x,vs=[.int p,.int a,.int x]/\Q (.int (drag p a x)) H
theorem Oq31 (T:Txt mg) (D:Def K mg "dragged" Gq31):Callee P w K mg base "dragged" 1 spDragged:=by
 refine D.ok Uq31 Jq31 (fun vs H Q E h=>?len) (fun f cdv A outer s H vs Q E hr h=>?body)
 case len=>obtain⟨p,a,x,rfl,_⟩:=h; rfl
 case body =>
  obtain⟨p,a,x,rfl,k⟩:=h
  unfold drag at k
  refine⟨_,(pss_cons (ps_if (pt_cmpR op_lt (pv 2) (pe_op op_sub (pv 1) (pv 0)) (nomark _))
 (pss_one (ps_ret (pe_op op_sub (pv 1) (pv 0))))
 pss_nil)
 (pss_cons (ps_if (pt_cmpR op_gt (pv 2) (pe_op op_addP (pv 1) (pv 0)) (nomark _))
 (pss_one (ps_ret (pe_op op_addP (pv 1) (pv 0))))
 pss_nil)
 (pss_one (ps_ret (pv 2))))),?_⟩
  walk_at"un"
  try clear hu
  walk_at"s"
  refine i_if (fun h1=>?_) (fun h1=>?_)
  ·walk_at"s"
   rw [if_pos h1] at k; exact k
  ·walk_at"s"
   rw [if_neg h1] at k
   refine i_if (fun h2=>?_) (fun h2=>?_)
   ·walk_at"s"
    rw [if_pos h2] at k; exact k
   ·walk_at"s"
    rw [if_neg h2] at k; exact k
def spAllDr (K:PySem.W.Frag):Sp:=fun vs H Q _=>∃ (a b:Addr) (ps xs:List Int) (c:Int),vs=[.ref a,.ref b,.int c]/\SqL K H a (iL ps)/\SqL K H b (iL xs)/\ps.length<=12/\(∀ p∈ps,0<=p)/\∀ l H',NewI H H' l (dragAll ps xs c)->Q (.ref l) H'
theorem Oq32 (T:Txt mg) (D:Def K mg "all_dragged" Gq32) (Cq31:Callee P w K mg base "dragged" 1 spDragged):Callee P w K mg base "all_dragged" 2 (spAllDr K):=by
 refine D.ok Uq32 Jq32 (fun vs H Q E h=>?len) (fun f cdv A outer s H vs Q E hr h=>?body)
 case len=>obtain⟨a,b,ps,xs,c,rfl,_⟩:=h; rfl
 case body =>
  obtain⟨a,b,ps,xs,c,rfl,hA,hB,h12,hp0,k⟩:=h
  refine⟨_,(pss_cons (psS 3 Uq32.nd (pe_lst pa_nil))
 (pss_cons (psS 4 Uq32.nd (pv 2))
 (pss_cons (ps_for PassesOwn.never rfl (pi_zip2K K (by rfl) T.z_zip (pa_cons (pv 0) (pa_cons (pv 1) pa_nil))) (pg_tupK K 2 (pgs_cons (pg_name (i:=5) Uq32.nd rfl (Or.inl rfl)) (pgs_cons (pg_name (i:=6) Uq32.nd rfl (Or.inl rfl)) pgs_nil)))
 (pss_cons (psS 4 Uq32.nd (pe_callN Cq31 (hr.mono (by decide)) (by rfl) (pa_cons (pv 5) (pa_cons (pv 4) (pa_cons (pv 6) pa_nil)))))
 (pss_one (ps_expr (pe_bmK K PySem.F.plainAttrs_list PySem.F.slot_list_append PySem.F.type_list_append mt_append (pv 3) (pa_cons (pv 4) pa_nil))))))
 (pss_one (ps_ret (pv 3)))))),?_⟩
  walk_at"un"
  try clear hu
  walk_at"s"
  intro l hl;walk_at"s"
  have s1:Same H (upd H l (.lst [])):=same_upd hl
  walk_at"z5"
  ·exact⟨c,_,_,[],rfl,⟨hl,s1,upd_same⟩,by simp,rfl,rfl⟩
  ·rintro i σ H2 ⟨ah,u,v,dn,rfl,N,hl12,hi,hk⟩
   exact⟨N.sm.seq hA,N.sm.seq hB⟩
  ·rintro i x y t σ H2 hx hy ⟨ah,u,v,dn,rfl,N,hl12,hi,hk⟩ ht
   rw [List.getElem?_map] at hx hy
   obtain⟨p,hp,rfl⟩:=Option.map_eq_some_iff.mp hx
   obtain⟨q,hq,rfl⟩:=Option.map_eq_some_iff.mp hy
   have hpl:i<ps.length:=(List.getElem?_eq_some_iff.mp hp).1
   walk_at"s"
   walk_at"z9"
   walk_at"s"
   refine⟨p,ah,q,rfl,?_⟩
   rw [dropc hp,dropc hq] at hk
   have N2:=N.more (same_upd (o:=.tup [.int p,.int q]) ht)
   walk_at"s"
   refine⟨.inl ⟨rfl,_,SqL.of N2.at_⟩,?_⟩;walk_at"s"
   refine i_app N2.at_ (szlt (by simp [iL]; lia)) ?_
   refine⟨_,_,_,dn++[drag p ah q],rfl,N2.app,by simp; lia,by simp; lia,?_⟩
   rw [hk,dragAll]; simp
  ·rintro σ H2 ⟨ah,u,v,dn,rfl,N,hl12,hi,hk⟩
   walk_at"s"
   have e:dragAll ps xs c=dn:=by
    rw [hk]
    simp only [iL,List.length_map]
    by_cases h:ps.length<=xs.length
    ·rw [Nat.min_eq_left h,List.drop_of_length_le (Nat.le_refl _),dragAll_nil,List.append_nil]
    ·rw [Nat.min_eq_right (by lia),List.drop_of_length_le (l:=xs) (Nat.le_refl _),dragAll_nil2,List.append_nil]
   rw [e] at k
   exact k l H2 N
def spRefTrainE (K:PySem.W.Frag) (C:Addr):Sp:=fun vs H Q E=>∃ (a:Addr) (ps:List Int),vs=[.ref a]/\SqL K H a (iL ps)/\(isTr ps->Q .non H)/\(¬ isTr ps->E (.ref C) none H)
theorem Oq33 (T:Txt mg) (Z:Cls K mg) (D:Def K mg "refuse_no_train" Gq33) (Cq29:Callee P w K mg base "is_train" 1 (spIsTrain K)):CalleeE P w K mg base "refuse_no_train" 2 (spRefTrainE K Z.jAb):=by
 refine Def.okE D Uq33 Jq33 (fun vs H Q E h=>?len) (fun f cdv A outer s H vs Q E hr h=>?body)
 case len=>obtain⟨a,ps,rfl,_⟩:=h; rfl
 case body =>
  obtain⟨a,ps,rfl,hS,k1,k2⟩:=h
  refine⟨_,(pss_one (ps_if (pt_not (pt_truthK K (pe_callN Cq29 (hr.mono (by decide)) (by rfl) (pa_cons (pv 0) pa_nil))))
 (pss_one (ps_raise Z.exc_NoTrain PySem.F.excBase_ValueError (by rfl) (pa_cons pe_str pa_nil)))
 pss_nil)),?_⟩
  walk_at"un"
  try clear hu
  walk_at"s"
  refine⟨a,ps,rfl,hS,fun b hb=>?_⟩
  cases b with
  | true =>
    walk_at"s"
    exact k1 (hb.mp rfl)
  | false =>
    walk_at"s"
    exact⟨by simp,k2 fun z=>by have:=hb.mpr z; cases this⟩
def spIsStandE (K:PySem.W.Frag) (C:Addr):Sp:=fun vs H Q E=>∃ (a b:Addr) (ps xs:List Int) (hd:Int),vs=[.ref a,.int hd,.ref b]/\SqL K H a (iL ps)/\SqL K H b (iL xs)/\(isTr ps->∀ (r:Bool) H',(r=true↔stand ps hd xs)->Same H H'->Q (.bl r) H')/\(¬ isTr ps->E (.ref C) none H)
theorem Oq34 (T:Txt mg) (Z:Cls K mg) (D:Def K mg "is_stand" Gq34) (Cq33:CalleeE P w K mg base "refuse_no_train" 2 (spRefTrainE K Z.jAb)) (Cq30:Callee P w K mg base "keeps_plays" 1 (spKeeps K)):CalleeE P w K mg base "is_stand" 3 (spIsStandE K Z.jAb):=by
 refine Def.okE D Uq34 Jq34 (fun vs H Q E h=>?len) (fun f cdv A outer s H vs Q E hr h=>?body)
 case len=>obtain⟨a,b,ps,xs,hd,rfl,_⟩:=h; rfl
 case body =>
  obtain⟨a,b,ps,xs,hd,rfl,hA,hB,k,k2⟩:=h
  walk_at"z4"
  refine⟨_,(pss_cons (ps_expr (pe_callE Cq33 (hr.mono (by decide)) (by rfl) (pa_cons (pv 0) pa_nil)))
 (pss_one (ps_ret (pe_and (pe_cmpR (op_eqK K hu) (pe_callB (call_lenK K) (by rfl) T.z_len bt_len (pa_cons (pv 2) pa_nil)) (pe_callB (call_lenK K) (by rfl) T.z_len bt_len (pa_cons (pv 0) pa_nil)) (nomark _)) (pe_one (pe_callN Cq30 (hr.mono (by decide)) (by rfl) (pa_cons (pv 0) (pa_cons (pv 1) (pa_cons (pv 2) pa_nil))))))))),?_⟩
  walk_at"un"
  try clear hu
  walk_at"s"
  refine⟨a,ps,rfl,hA,fun ht=>?_,k2⟩
  have k:=k ht
  walk_at"s"
  refine i_lenI hB ?_;walk_at"s"
  refine i_lenI hA ?_;walk_at"s"
  walk_at"z2"
  ·walk_at"s"
   exact⟨a,b,ps,xs,hd,rfl,hA,hB,fun r H' hr' sm=>k r H' (hr'.trans ⟨fun z=>⟨by lia,z⟩,fun z=>z.2⟩) sm⟩
  ·exact k _ _ ⟨fun z=>(Bool.noConfusion z),fun z=>absurd z.1 (by lia)⟩ (Same.refl _)
def spRefStandE (K:PySem.W.Frag) (CT CS:Addr):Sp:=fun vs H Q E=>∃ (a b:Addr) (ps xs:List Int) (hd:Int),vs=[.ref a,.int hd,.ref b]/\SqL K H a (iL ps)/\SqL K H b (iL xs)/\(isTr ps->stand ps hd xs->∀ H',Same H H'->Q .non H')/\Exs E H CT CS (isTr ps) (stand ps hd xs)
theorem Oq35 (T:Txt mg) (Z:Cls K mg) (D:Def K mg "refuse_no_stand" Gq35) (Cq34:CalleeE P w K mg base "is_stand" 3 (spIsStandE K Z.jAb)):CalleeE P w K mg base "refuse_no_stand" 4 (spRefStandE K Z.jAb Z.jAc):=by
 refine Def.okE D Uq35 Jq35 (fun vs H Q E h=>?len) (fun f cdv A outer s H vs Q E hr h=>?body)
 case len=>obtain⟨a,b,ps,xs,hd,rfl,_⟩:=h; rfl
 case body =>
  obtain⟨a,b,ps,xs,hd,rfl,hA,hB,k,x⟩:=h
  refine⟨_,(pss_one (ps_if (pt_not (pt_truthK K (pe_callE Cq34 (hr.mono (by decide)) (by rfl) (pa_cons (pv 0) (pa_cons (pv 1) (pa_cons (pv 2) pa_nil))))))
 (pss_one (ps_raise Z.exc_NoStand PySem.F.excBase_ValueError (by rfl) (pa_cons pe_str pa_nil)))
 pss_nil)),?_⟩
  walk_at"un"
  try clear hu
  walk_at"s"
  refine⟨a,b,ps,xs,hd,rfl,hA,hB,fun ht r H' hr' sm=>?_,fun hn=>x.1 hn _ (Same.refl _)⟩
  cases r with
  | true =>
    walk_at"s"
    exact k ht (hr'.mp rfl) H' sm
  | false =>
    walk_at"s"
    exact⟨by simp,x.2 ht (fun z=>by have:=hr'.mpr z; cases this) H' sm⟩
def spRefStand (K:PySem.W.Frag):Sp:=fun vs H Q _=>∃ (a b:Addr) (ps xs:List Int) (hd:Int),vs=[.ref a,.int hd,.ref b]/\SqL K H a (iL ps)/\SqL K H b (iL xs)/\isTr ps/\stand ps hd xs/\∀ H',Same H H'->Q .non H'
theorem calm_refuse_no_stand {CT CS:Addr} (C:CalleeE P w K mg base "refuse_no_stand" 4 (spRefStandE K CT CS)):Callee P w K mg base "refuse_no_stand" 4 (spRefStand K) :=
 calm_of C fun vs H Q E ⟨a,b,ps,xs,hd,h1,h2,h3,h4,h5,h6⟩=>⟨a,b,ps,xs,hd,h1,h2,h3,fun _ _=>h6,Exs.no h4 h5⟩
def spFarther (K:PySem.W.Frag):Sp:=fun vs H Q _=>∃ (a b c:Addr) (ys as ps:List Int),vs=[.ref a,.ref b,.ref c]/\SqL K H a (iL ys)/\SqL K H b (iL as)/\SqL K H c (iL ps)/\ys.length<=1000/\∀ l H',NewI H H' l (fart ys as ps)->Q (.ref l) H'
theorem Oq36 (T:Txt mg) (D:Def K mg "farther" Gq36):Callee P w K mg base "farther" 1 (spFarther K):=by
 refine D.ok Uq36 Jq36 (fun vs H Q E h=>?len) (fun f cdv A outer s H vs Q E hr h=>?body)
 case len=>obtain⟨a,b,c,ys,as,ps,rfl,_⟩:=h; rfl
 case body =>
  obtain⟨a,b,c,ys,as,ps,rfl,hA,hB,hC,hl,k⟩:=h
  walk_at"z4"
  refine⟨_,(pss_one (ps_ret (by exact pe_comp (N:=["way", "at", "place"]) (fr:=[none,none,none]) ⟨by rfl,by decide+kernel,by decide+kernel,(show ∀ y∈(_:List (Str×NameKind)),y.2=NameKind.free->(defScope Gq36).names.lookup y.1=some .cell\/(defScope Gq36).names.lookup y.1=some .free by decide+kernel),(fr_none (fr_none (fr_none fr_nil)))⟩ (by rfl) (pi_zip3K K (by rfl) T.z_zip (pa_cons (pv 0) (pa_cons (pv 1) (pa_cons (pv 2) pa_nil)))) (fun _ _ _ _=>(pg_tupK K 3 (pgs_cons (pg_name (i:=0) (show List.Nodup (["way", "at", "place"]:List Str) by decide) (by rfl) (by first | exact Or.inl rfl | exact Or.inr rfl)) (pgs_cons (pg_name (i:=1) (show List.Nodup (["way", "at", "place"]:List Str) by decide) (by rfl) (by first | exact Or.inl rfl | exact Or.inr rfl)) (pgs_cons (pg_name (i:=2) (show List.Nodup (["way", "at", "place"]:List Str) by decide) (by rfl) (by first | exact Or.inl rfl | exact Or.inr rfl)) pgs_nil))))) (fun _ _ _ _=>pifs_nil) (fun _ _ _ _=>(pe_op op_addP (pv 0) (pe_callB call_absK (by rfl) T.z_abs bt_abs (pa_cons (pe_op op_sub (pv 2) (pv 1)) pa_nil)))) (gw_tup (gws_cons (gw_name (by rfl)) (gws_cons (gw_name (by rfl)) (gws_cons (gw_name (by rfl)) gws_nil))))))),?_⟩
  walk_at"un"
  try clear hu
  walk_at"s"
  refine⟨_,_,_,rfl,⟨_,hA⟩,⟨_,hB⟩,⟨_,hC⟩,cp_zip3 (xs:=iL ys) (ys:=iL as) (ws:=iL ps) (fun i zs H4=>zs=iL ((fart ys as ps).take i)/\i<=(fart ys as ps).length/\Same H H4) ⟨by simp,Nat.zero_le _,Same.refl _⟩ ?_ (szlt (by simp [iL]; lia)) ?_ ?_⟩
  ·rintro i zs H4 ⟨rfl,hi,sm⟩
   exact⟨sm.seq hA,sm.seq hB,sm.seq hC,by simp [iL]; lia⟩
  ·rintro i x1 y1 z1 t zs H4 hx hy hz ⟨rfl,hi,sm⟩ ht
   rw [List.getElem?_map] at hx hy hz
   obtain⟨x2,hx2,rfl⟩:=Option.map_eq_some_iff.mp hx
   obtain⟨y2,hy2,rfl⟩:=Option.map_eq_some_iff.mp hy
   obtain⟨z2,hz2,rfl⟩:=Option.map_eq_some_iff.mp hz
   walk_at"s"
   refine⟨_,_,rfl,SqT.of upd_same,rfl,_,_,rfl,_,_,rfl,_,_,rfl,rfl,?_⟩;walk_at"s"
   refine⟨?_,(List.getElem?_eq_some_iff.mp (fart_get ys as ps i hx2 hy2 hz2)).1,sm.trans (same_upd ht)⟩
   rw [fart_take ys as ps i hx2 hy2 hz2]
   simp [iL,ab]
  rintro l zs H4 ⟨rfl,hi,sm⟩ hl2
  rw [List.take_of_length_le (by rw [fart_len]; simp [iL])]
  exact k l _ ⟨sm.free hl2,sm.trans (same_upd hl2),upd_same⟩
structure NewLL (H H':Hp) (l:Addr) (xss:List (List Int)) (rs:List Addr):Prop where
 fr:H l=none
 sm:Same H H'
 at_:H' l=some (.lst (rs.map V.ref))
 it:Paired (fun r xs=>H r=none/\H' r=some (.lst (iL xs))) rs xss
 nd:(l :: rs).Nodup
theorem NewLL.len {H H':Hp} {l:Addr} {xss:List (List Int)} {rs:List Addr} (N:NewLL H H' l xss rs):rs.length=xss.length:=N.it.length
theorem NewLL.more {H H' H2:Hp} {l:Addr} {xss:List (List Int)} {rs:List Addr} (N:NewLL H H' l xss rs) (s:Same H' H2):NewLL H H2 l xss rs:=⟨N.fr,N.sm.trans s,s _ _ N.at_,Paired.mapP N.it fun r xs h=>⟨h.1,s _ _ h.2⟩,N.nd⟩
def spRunOf (K:PySem.W.Frag):Sp:=fun vs H Q _=>∃ (a b c:Addr) (ps ws row:List Int) (hd:Int),vs=[.ref a,.int hd,.ref b,.ref c]/\SqL K H a (iL ps)/\SqL K H b (iL ws)/\SqL K H c (iL row)/\isTr ps/\stand ps hd ws/\row.length<=50000/\∀ l rs H',NewLL H H' l (runs ps ws row) rs->Q (.ref l) H'
theorem Oq37 (T:Txt mg) (D:Def K mg "run_of" Gq37) (Cq35:Callee P w K mg base "refuse_no_stand" 4 (spRefStand K)) (Cq32:Callee P w K mg base "all_dragged" 2 (spAllDr K)):Callee P w K mg base "run_of" 5 (spRunOf K):=by
 refine D.ok Uq37 Jq37 (fun vs H Q E h=>?len) (fun f cdv A outer s H vs Q E hr h=>?body)
 case len=>obtain⟨a,b,c,ps,ws,row,hd,rfl,_⟩:=h; rfl
 case body =>
  obtain⟨a,b,c,ps,ws,row,hd,rfl,hA,hB,hC,ht,hs,hrow,k⟩:=h
  refine⟨_,(pss_cons (ps_expr (pe_callN Cq35 (hr.mono (by decide)) (by rfl) (pa_cons (pv 0) (pa_cons (pv 1) (pa_cons (pv 2) pa_nil)))))
 (pss_cons (psS 4 Uq37.nd (pe_lst pa_nil))
 (pss_cons (psS 5 Uq37.nd (pv 2))
 (pss_cons (ps_for PassesOwn.never rfl (pi_listK K (pv 3)) (pg_name (i:=6) Uq37.nd rfl (Or.inl rfl))
 (pss_cons (psS 5 Uq37.nd (pe_callN Cq32 (hr.mono (by decide)) (by rfl) (pa_cons (pv 0) (pa_cons (pv 5) (pa_cons (pv 6) pa_nil)))))
 (pss_one (ps_expr (pe_bmK K PySem.F.plainAttrs_list PySem.F.slot_list_append PySem.F.type_list_append mt_append (pv 4) (pa_cons (pv 5) pa_nil))))))
 (pss_one (ps_ret (pv 4))))))),?_⟩
  walk_at"un"
  try clear hu
  walk_at"s"
  refine⟨a,b,ps,ws,hd,rfl,hA,hB,ht,hs,fun H1 sm=>?_⟩;walk_at"s"
  intro l hl;walk_at"s"
  have s2:Same H (upd H1 l (.lst [])):=sm.trans (same_upd hl)
  refine⟨⟨_,s2.seq hC⟩,lp_ints (ns:=row) (fun i σ H2=>∃ (cur:Addr) (cs:List Int) (u:Option V) (xss:List (List Int)) (rs:List Addr),σ = [some (.ref a),some (.int hd),some (.ref b),some (.ref c),some (.ref l),some (.ref cur),u]/\NewLL H H2 l xss rs/\xss.length=i/\SqL K H2 cur (iL cs)/\runs ps ws row=xss++runs ps cs (row.drop i)) ?_ ?_ ?_ ?_⟩
  ·exact⟨b,ws,_,[],[],rfl,⟨sm.free hl,s2,upd_same,.nil,by simp⟩,rfl,s2.seq hB,rfl⟩
  ·rintro i σ H2 _ ⟨cur,cs,u,xss,rs,rfl,N,hx,hc,hrun⟩
   exact N.sm.seq hC
  ·rintro i x σ H2 hxi ⟨cur,cs,u,xss,rs,rfl,N,hx,hc,hrun⟩
   have hil:i<row.length:=(List.getElem?_eq_some_iff.mp hxi).1
   walk_at"s"
   refine⟨a,cur,ps,cs,x,rfl,N.sm.seq hA,hc,ht.2.1,ht.2.2,fun r H3 N3=>?_⟩;walk_at"s"
   have N2:=N.more N3.sm
   refine⟨.inl ⟨rfl,_,SqL.of N2.at_⟩,?_⟩;walk_at"s"
   have hlen:=N.len
   refine i_app N2.at_ (szlt (by simp; lia)) ?_
   have nrl:r≠l:=fun e=>by have:=N3.fr; rw [e,N.at_] at this; cases this
   have nrs:r ∉ rs:=fun hm=>by
    obtain⟨_,_,z⟩:=paired_mem N.it hm
    rw [N3.fr] at z; cases z
   have nlr:∀ {q:Addr},q∈rs->q≠l:=fun hm e=>by subst e; exact (List.nodup_cons.mp N.nd).1 hm
   refine⟨r,dragAll ps cs x,_,xss++[dragAll ps cs x],rs++[r],rfl,⟨N.fr,fun b o e=>?_,?_,?_,?_⟩,by simp; lia,?_,?_⟩
   ·rw [upd_ne (ne_of_none e N.fr)]; exact N2.sm b o e
   ·rw [upd_same]; simp
   ·refine Paired.snoc ?_ ⟨N.sm.free N3.fr,by rw [upd_ne nrl]; exact N3.at_⟩
    have:∀ {as:List Addr} {bs:List (List Int)},Paired (fun r xs=>H r=none/\H3 r=some (HO.lst (iL xs))) as bs->(∀ q∈as,q≠l)->Paired (fun q xs=>H q=none/\upd H3 l (.lst (rs.map V.ref++[V.ref r])) q=some (HO.lst (iL xs))) as bs:=by
     intro as bs p
     induction p with
     | nil=>intro _; exact .nil
     | cons h1 _ ih =>
       intro hq
       refine .cons ⟨h1.1,by rw [upd_ne (hq _ List.mem_cons_self)]; exact h1.2⟩ (ih fun q hm=>hq q (List.mem_cons_of_mem _ hm))
    exact this N2.it fun q hm=>nlr hm
   ·rw [<- List.cons_append,List.nodup_append]
    refine⟨N.nd,by simp,?_⟩
    intro q hq z hz
    simp at hz
    subst hz
    rcases List.mem_cons.mp hq with e | e
    ·rw [e]; exact nrl.symm
    ·exact fun e2=>nrs (e2 ▸ e)
   ·exact SqL.of (by rw [upd_ne nrl]; exact N3.at_)
   ·rw [hrun,dropc hxi,runs]; simp
  ·rintro σ H2 ⟨cur,cs,u,xss,rs,rfl,N,hx,hc,hrun⟩
   walk_at"s"
   rw [List.drop_of_length_le (Nat.le_refl _),runs,List.append_nil] at hrun
   rw [hrun] at k
   exact k l rs H2 N
abbrev zeros (n:Nat):List Int:=List.replicate n 0
def SAt (H:Hp) (t:Addr) (ps:List Int) (hd:Int) (ws gs:List Int):Prop:=∃ lp lw lg,H t=some (.tup [.ref lp,.int hd,.ref lw,.ref lg])/\H lp=some (.lst (iL ps))/\H lw=some (.lst (iL ws))/\H lg=some (.lst (iL gs))
theorem SAt.more {H H':Hp} {t:Addr} {ps ws gs:List Int} {hd:Int} (h:SAt H t ps hd ws gs) (s:Same H H'):SAt H' t ps hd ws gs:=by
 obtain⟨lp,lw,lg,a,b,c,d⟩:=h
 exact⟨lp,lw,lg,s _ _ a,s _ _ b,s _ _ c,s _ _ d⟩
theorem i_repZ {H:Hp} {Q:VK} {l:Addr} {n:Nat} (h:H l=some (.lst [.int 0])) (hn:n<=1000) (q:∀ p,H p=none->Q (.ref p) (upd H p (.lst (iL (zeros n))))):rMulP (.ref l) (.int n) H Q:=by
 refine .inr ⟨l,n,[.int 0],rfl,rfl,h,by lia,by lia,szl (by simp; lia),fun p hp=>?_⟩
 have e:(List.replicate ((n:Int).toNat) [V.int 0]).flatten=iL (zeros n):=by
  rw [show ((n:Int)).toNat=n by lia]
  clear q h hn hp
  induction n with
  | zero=>rfl
  | succ n ih =>
    rw [List.replicate_succ,List.flatten_cons,ih]
    simp [iL,zeros,List.replicate_succ]
 rw [e]
 exact q p hp
def spNewTrain (K:PySem.W.Frag) (CT:Addr):Sp:=fun vs H Q E=>∃ (v:V) (l:Addr) (ns:List Int),vs=[v,.ref l]/\H l=some (.lst (iL ns))/\(isTr ns->∀ t H',Same H H'->SAt H' t ns 0 (zeros ns.length) (zeros ns.length)->Q (.ref t) H')/\(¬ isTr ns->E (.ref CT) none H)
theorem Oq38 (T:Txt mg) (Z:Cls K mg) (D:Def K mg "new_train" Gq38) (Cq33:CalleeE P w K mg base "refuse_no_train" 2 (spRefTrainE K Z.jAb)):CalleeE P w K mg base "new_train" 3 (spNewTrain K Z.jAb):=by
 refine Def.okE D Uq38 Jq38 (fun vs H Q E h=>?len) (fun f cdv A outer s H vs Q E hr h=>?body)
 case len=>obtain⟨v,l,ns,rfl,_⟩:=h; rfl
 case body =>
  obtain⟨v,l,ns,rfl,hl,k,kx⟩:=h
  walk_at"z4"
  refine⟨_,(pss_cons (ps_expr (pe_callE Cq33 (hr.mono (by decide)) (by rfl) (pa_cons (pv 1) pa_nil)))
 (pss_one (ps_ret (pe_tup (pa_cons (pv 1) (pa_cons pe_int (pa_cons (pe_op op_mulP (pe_lst (pa_cons pe_int pa_nil)) (pe_callB (call_lenK K) (by rfl) T.z_len bt_len (pa_cons (pv 1) pa_nil))) (pa_cons (pe_op op_mulP (pe_lst (pa_cons pe_int pa_nil)) (pe_callB (call_lenK K) (by rfl) T.z_len bt_len (pa_cons (pv 1) pa_nil))) pa_nil)))))))),?_⟩
  walk_at"un"
  try clear hu
  walk_at"s"
  refine⟨l,ns,rfl,SqL.of hl,fun ht=>?_,kx⟩
  have h12:=ht.2.1
  walk_at"s"
  intro q1 h1
  have s1:Same H _:=same_upd (o:=.lst [.int 0]) h1
  have e1:upd H q1 (.lst [.int 0]) q1=some (.lst [.int 0]):=upd_same
  generalize upd H q1 (.lst [.int 0])=H1 at *
  walk_at"s"
  refine i_lenI (SqL.of (s1 _ _ hl)) ?_
  refine i_repZ e1 (by lia) (fun q2 h2=>?_)
  have s2:Same H1 _:=same_upd (o:=.lst (iL (zeros ns.length))) h2
  have e2:upd H1 q2 (.lst (iL (zeros ns.length))) q2=some (.lst (iL (zeros ns.length))):=upd_same
  generalize upd H1 q2 (.lst (iL (zeros ns.length)))=H2 at *
  walk_at"s"
  intro q3 h3
  have s3:Same H2 _:=same_upd (o:=.lst [.int 0]) h3
  have e3:upd H2 q3 (.lst [.int 0]) q3=some (.lst [.int 0]):=upd_same
  generalize upd H2 q3 (.lst [.int 0])=H3 at *
  walk_at"s"
  refine i_lenI (SqL.of (s3 _ _ (s2 _ _ (s1 _ _ hl)))) ?_
  refine i_repZ e3 (by lia) (fun q4 h4=>?_)
  have s4:Same H3 _:=same_upd (o:=.lst (iL (zeros ns.length))) h4
  have e4:upd H3 q4 (.lst (iL (zeros ns.length))) q4=some (.lst (iL (zeros ns.length))):=upd_same
  generalize upd H3 q4 (.lst (iL (zeros ns.length)))=H4 at *
  walk_at"s"
  intro t5 h5
  have S:=s1.trans (s2.trans (s3.trans (s4.trans (same_upd (o:=.tup [.ref l,.int 0,.ref q2,.ref q4]) h5))))
  exact k ht t5 _ S ⟨l,q2,q4,upd_same,S _ _ hl,same_upd h5 _ _ (s4 _ _ (s3 _ _ e2)),same_upd h5 _ _ e4⟩
def spSetDown (K:PySem.W.Frag) (CS:Addr):Sp:=fun vs H Q E=>∃ (t l:Addr) (ps ws gs goal:List Int) (hd e:Int),vs=[.ref t,.ref l]/\SAt H t ps hd ws gs/\H l=some (.lst (iL (e :: goal)))/\isTr ps/\(stand ps e goal->∀ t' H',Same H H'->SAt H' t' ps e goal (zeros ps.length)->Q (.ref t') H')/\(¬ stand ps e goal->∀ H',Same H H'->E (.ref CS) none H')
theorem Oq39 (T:Txt mg) (Z:Cls K mg) (D:Def K mg "set_down" Gq39) (Cq35:CalleeE P w K mg base "refuse_no_stand" 4 (spRefStandE K Z.jAb Z.jAc)):CalleeE P w K mg base "set_down" 5 (spSetDown K Z.jAc):=by
 refine Def.okE D Uq39 Jq39 (fun vs H Q E h=>?len) (fun f cdv A outer s H vs Q E hr h=>?body)
 case len=>obtain⟨t,l,ps,ws,gs,goal,hd,e,rfl,_⟩:=h; rfl
 case body =>
  obtain⟨t,l,ps,ws,gs,goal,hd,e,rfl,⟨lp,lw,lg,hT,hP,hW,hG⟩,hL,ht,k,kx⟩:=h
  walk_at"z4"
  have h12:=ht.2.1
  refine⟨_,(pss_cons (ps_asg (pv 0) (pg_tupK K 4 (pgs_cons (pg_name (i:=2) Uq39.nd rfl (Or.inl rfl)) (pgs_cons (pg_name (i:=3) Uq39.nd rfl (Or.inl rfl)) (pgs_cons (pg_name (i:=4) Uq39.nd rfl (Or.inl rfl)) (pgs_cons (pg_name (i:=5) Uq39.nd rfl (Or.inl rfl)) pgs_nil))))))
 (pss_cons (ps_asg (pv 1) (pg_starK K 1 (pgs_cons (pg_name (i:=6) Uq39.nd rfl (Or.inl rfl)) (pgs_star (pg_name (i:=7) Uq39.nd rfl (Or.inl rfl)) pgs_nil))))
 (pss_cons (ps_expr (pe_callE Cq35 (hr.mono (by decide)) (by rfl) (pa_cons (pv 2) (pa_cons (pv 6) (pa_cons (pv 7) pa_nil)))))
 (pss_one (ps_ret (pe_tup (pa_cons (pv 2) (pa_cons (pv 6) (pa_cons (pv 7) (pa_cons (pe_op op_mulP (pe_lst (pa_cons pe_int pa_nil)) (pe_callB (call_lenK K) (by rfl) T.z_len bt_len (pa_cons (pv 2) pa_nil))) pa_nil)))))))))),?_⟩
  walk_at"un"
  try clear hu
  walk_at"s"
  walk_at"z1"
  walk_at"s"
  refine⟨l,_,rfl,SqL.of hL,by simp [iL],fun l4 h4=>⟨_,_,rfl,_,_,rfl,rfl,?_⟩⟩
  have e4:upd H l4 (.lst ((iL (e :: goal)).drop 1)) l4=some (.lst (iL goal)):=by rw [upd_same]; rfl
  have s4:Same H _:=same_upd (o:=.lst ((iL (e :: goal)).drop 1)) h4
  generalize upd H l4 (.lst ((iL (e :: goal)).drop 1))=H4 at *
  walk_at"s"
  refine⟨lp,l4,ps,goal,e,rfl,SqL.of (s4 _ _ hP),SqL.of e4,fun _ hs H5 s5=>?_,⟨fun hn=>absurd ht hn,fun _ hn H5 s5=>kx hn _ (s4.trans s5)⟩⟩;walk_at"s"
  intro q1 h1
  have s1:Same H5 _:=same_upd (o:=.lst [.int 0]) h1
  have e1:upd H5 q1 (.lst [.int 0]) q1=some (.lst [.int 0]):=upd_same
  generalize upd H5 q1 (.lst [.int 0])=H6 at *
  walk_at"s"
  refine i_lenI (SqL.of (s1 _ _ (s5 _ _ (s4 _ _ hP)))) ?_
  refine i_repZ e1 (by lia) (fun q2 h2=>?_)
  have s2:Same H6 _:=same_upd (o:=.lst (iL (zeros ps.length))) h2
  have e2:upd H6 q2 (.lst (iL (zeros ps.length))) q2=some (.lst (iL (zeros ps.length))):=upd_same
  generalize upd H6 q2 (.lst (iL (zeros ps.length)))=H7 at *
  walk_at"s"
  intro t8 h8
  have S:=s5.trans (s1.trans (s2.trans (same_upd (o:=.tup [.ref lp,.int e,.ref l4,.ref q2]) h8)))
  exact k hs t8 _ (s4.trans S) ⟨lp,l4,q2,upd_same,S _ _ (s4 _ _ hP),S _ _ e4,same_upd h8 _ _ e2⟩
def spWhere (K:PySem.W.Frag):Sp:=fun vs H Q _=>∃ (t:Addr) (v:V) (ps ws gs:List Int) (hd:Int),vs=[.ref t,v]/\SAt H t ps hd ws gs/\(∀ n∈hd :: ws,Small n)/\ws.length<=900/\∀ H',Same H H'->Q (.str (Str.join ⟨#[32]⟩ ((hd :: ws).map tx))) H'
theorem Oq40 (T:Txt mg) (D:Def K mg "where_text" Gq40) (Cq28:Callee P w K mg base "written" 1 (spWritten K)):Callee P w K mg base "where_text" 2 (spWhere K):=by
 refine D.ok Uq40 Jq40 (fun vs H Q E h=>?len) (fun f cdv A outer s H vs Q E hr h=>?body)
 case len=>obtain⟨t,v,ps,ws,gs,hd,rfl,_⟩:=h; rfl
 case body =>
  obtain⟨t,v,ps,ws,gs,hd,rfl,⟨lp,lw,lg,hT,hP,hW,hG⟩,hs,hl,k⟩:=h
  walk_at"z4"
  refine⟨_,(pss_cons (ps_asg (pv 0) (pg_tupK K 4 (pgs_cons (pg_name (i:=2) Uq40.nd rfl (Or.inl rfl)) (pgs_cons (pg_name (i:=3) Uq40.nd rfl (Or.inl rfl)) (pgs_cons (pg_name (i:=4) Uq40.nd rfl (Or.inl rfl)) (pgs_cons (pg_name (i:=5) Uq40.nd rfl (Or.inl rfl)) pgs_nil))))))
 (pss_one (ps_ret (pe_callN Cq28 (hr.mono (by decide)) (by rfl) (pa_cons (pe_op op_addP (pe_lst (pa_cons (pv 3) pa_nil)) (pv 4)) pa_nil))))),?_⟩
  walk_at"un"
  try clear hu
  walk_at"s"
  walk_at"z1"
  walk_at"s"
  intro q1 h1;walk_at"s"
  have s1:Same H _:=same_upd (o:=.lst [.int hd]) h1
  refine i_addL (xs:=[.int hd]) (ys:=iL ws) upd_same (s1 _ _ hW) (szl (by simp [iL]; lia)) (fun q2 h2=>?_)
  have s2:Same H _:=s1.trans (same_upd (o:=.lst ([.int hd]++iL ws)) h2)
  have e2:upd (upd H q1 (.lst [.int hd])) q2 (.lst ([.int hd]++iL ws)) q2=some (.lst (iL (hd :: ws))):=by rw [upd_same]; rfl
  generalize upd (upd H q1 (.lst [.int hd])) q2 (.lst ([.int hd]++iL ws))=H2 at *
  walk_at"s"
  exact⟨q2,hd :: ws,rfl,SqL.of e2,hs,by simp; lia,fun H3 s3=>k _ (s2.trans s3)⟩
def spWays (K:PySem.W.Frag):Sp:=fun vs H Q _=>∃ (t:Addr) (v:V) (ps ws gs:List Int) (hd:Int),vs=[.ref t,v]/\SAt H t ps hd ws gs/\(∀ n∈gs,Small n)/\gs.length<=900/\∀ H',Same H H'->Q (.str (Str.join ⟨#[32]⟩ (gs.map tx))) H'
theorem Oq41 (T:Txt mg) (D:Def K mg "ways_text" Gq41) (Cq28:Callee P w K mg base "written" 1 (spWritten K)):Callee P w K mg base "ways_text" 2 (spWays K):=by
 refine D.ok Uq41 Jq41 (fun vs H Q E h=>?len) (fun f cdv A outer s H vs Q E hr h=>?body)
 case len=>obtain⟨t,v,ps,ws,gs,hd,rfl,_⟩:=h; rfl
 case body =>
  obtain⟨t,v,ps,ws,gs,hd,rfl,⟨lp,lw,lg,hT,hP,hW,hG⟩,hs,hl,k⟩:=h
  walk_at"z4"
  refine⟨_,(pss_cons (ps_asg (pv 0) (pg_tupK K 4 (pgs_cons (pg_name (i:=2) Uq41.nd rfl (Or.inl rfl)) (pgs_cons (pg_name (i:=3) Uq41.nd rfl (Or.inl rfl)) (pgs_cons (pg_name (i:=4) Uq41.nd rfl (Or.inl rfl)) (pgs_cons (pg_name (i:=5) Uq41.nd rfl (Or.inl rfl)) pgs_nil))))))
 (pss_one (ps_ret (pe_callN Cq28 (hr.mono (by decide)) (by rfl) (pa_cons (pv 5) pa_nil))))),?_⟩
  walk_at"un"
  try clear hu
  walk_at"s"
  walk_at"z1"
  walk_at"s"
  exact⟨lg,gs,rfl,SqL.of hG,hs,by lia,fun H3 s3=>k _ s3⟩
def farL (gs:List Int) (L:List (List Int)):List Int:=(L.zip L.tail).foldl (fun g p=>fart g p.1 p.2) gs
def farT (gs:List Int) (L:List (List Int)) (i:Nat):List Int:=((L.zip L.tail).take i).foldl (fun g p=>fart g p.1 p.2) gs
theorem farT_succ {gs:List Int} {L:List (List Int)} {i:Nat} {a b:List Int} (h1:L[i]? = some a) (h2:L.tail[i]? = some b):farT gs L (i+1)=fart (farT gs L i) a b:=by
 have e:(L.zip L.tail)[i]? = some (a,b):=by rw [List.getElem?_zip_eq_some]; exact⟨h1,h2⟩
 unfold farT
 rw [take_snoc_get e,List.foldl_append]
 rfl
theorem farT_all (gs:List Int) (L:List (List Int)) {n:Nat} (h:min L.length L.tail.length<=n):farT gs L n=farL gs L:=by
 unfold farT farL
 rw [List.take_of_length_le (by rw [List.length_zip]; exact h)]
theorem runs_lastE {ps:List Int}:∀ (row ws:List Int),row≠[]->(ws :: runs ps ws row).getLast? = some (endW ps ws row)
 | [],_,h=>absurd rfl h
 | [c],ws,_=>rfl
 | c :: d :: r,ws,_=>by
   have:=runs_lastE (ps:=ps) (d :: r) (dragAll ps ws c) (by simp)
   show (ws :: dragAll ps ws c :: runs ps (dragAll ps ws c) (d :: r)).getLast? = some (endW ps (dragAll ps ws c) (d :: r))
   rw [List.getLast?_cons_cons]
   exact this
theorem farT_len {gs:List Int} {L:List (List Int)} {n:Nat} (hg:gs.length=n) (hL:∀ x∈L,x.length=n):∀ i,(farT gs L i).length=n
 | 0=>hg
 | i+1=>by
   by_cases h:i<(L.zip L.tail).length
   ·have h1:i<L.length:=by rw [List.length_zip] at h; lia
    have h2:i<L.tail.length:=by rw [List.length_zip] at h; lia
    rw [farT_succ (List.getElem?_eq_getElem h1) (List.getElem?_eq_getElem h2),fart_len,farT_len hg hL i,hL _ (List.getElem_mem h1),hL _ (List.mem_of_mem_tail (List.getElem_mem h2))]
    lia
   ·unfold farT
    rw [List.take_of_length_le (by lia)]
    have:=farT_len hg hL i
    unfold farT at this
    rwa [List.take_of_length_le (by lia)] at this
def spTurnedBy (K:PySem.W.Frag):Sp:=fun vs H Q _=>∃ (t l:Addr) (ps ws gs row:List Int) (hd:Int),vs=[.ref t,.ref l]/\SAt H t ps hd ws gs/\H l=some (.lst (iL row))/\isTr ps/\stand ps hd ws/\gs.length=ps.length/\row≠[]/\row.length<=20000/\∀ t' H',Same H H'->SAt H' t' ps (lastOf hd row) (endW ps ws row) (farL gs (ws :: runs ps ws row))->Q (.ref t') H'
theorem Oq42 (T:Txt mg) (D:Def K mg "turned_by" Gq42) (Cq37:Callee P w K mg base "run_of" 5 (spRunOf K)) (Cq36:Callee P w K mg base "farther" 1 (spFarther K)):Callee P w K mg base "turned_by" 6 (spTurnedBy K):=by
 refine D.ok Uq42 Jq42 (fun vs H Q E h=>?len) (fun f cdv A outer s H vs Q E hr h=>?body)
 case len=>obtain⟨t,l,ps,ws,gs,row,hd,rfl,_⟩:=h; rfl
 case body =>
  obtain⟨t,l,ps,ws,gs,row,hd,rfl,⟨lp,lw,lg,hT,hP,hW,hG⟩,hL,ht,hs,hgl,hr0,hrl,k⟩:=h
  walk_at"z4"
  have h12:=ht.2.1
  refine⟨_,(pss_cons (ps_asg (pv 0) (pg_tupK K 4 (pgs_cons (pg_name (i:=2) Uq42.nd rfl (Or.inl rfl)) (pgs_cons (pg_name (i:=3) Uq42.nd rfl (Or.inl rfl)) (pgs_cons (pg_name (i:=4) Uq42.nd rfl (Or.inl rfl)) (pgs_cons (pg_name (i:=5) Uq42.nd rfl (Or.inl rfl)) pgs_nil))))))
 (pss_cons (psS 6 Uq42.nd (pe_op op_addP (pe_lst (pa_cons (pv 4) pa_nil)) (pe_callN Cq37 (hr.mono (by decide)) (by rfl) (pa_cons (pv 2) (pa_cons (pv 3) (pa_cons (pv 4) (pa_cons (pv 1) pa_nil)))))))
 (pss_cons (ps_for PassesOwn.never rfl (pi_zip2K K (by rfl) T.z_zip (pa_cons (pv 6) (pa_cons (pe_slice (sl_listK K) (pv 6) (po_some pe_int) po_none) pa_nil))) (pg_tupK K 2 (pgs_cons (pg_name (i:=7) Uq42.nd rfl (Or.inl rfl)) (pgs_cons (pg_name (i:=8) Uq42.nd rfl (Or.inl rfl)) pgs_nil)))
 (pss_one (psS 5 Uq42.nd (pe_callN Cq36 (hr.mono (by decide)) (by rfl) (pa_cons (pv 5) (pa_cons (pv 7) (pa_cons (pv 8) pa_nil)))))))
 (pss_one (ps_ret (pe_tup (pa_cons (pv 2) (pa_cons (pe_ix (ix_K K) (pv 1) (pe_negK (r:=-1) (by decide)) (by exact fun _ _=>rfl)) (pa_cons (pe_ix (ix_K K) (pv 6) (pe_negK (r:=-1) (by decide)) (by exact fun _ _=>rfl)) (pa_cons (pv 5) pa_nil)))))))))),?_⟩
  walk_at"un"
  try clear hu
  walk_at"s"
  walk_at"z1"
  walk_at"s"
  intro q1 h1
  have s1:Same H _:=same_upd (o:=.lst [.ref lw]) h1
  have e1:upd H q1 (.lst [.ref lw]) q1=some (.lst [.ref lw]):=upd_same
  generalize upd H q1 (.lst [.ref lw])=H1 at *
  walk_at"s"
  refine⟨lp,lw,l,ps,ws,row,hd,rfl,SqL.of (s1 _ _ hP),SqL.of (s1 _ _ hW),SqL.of (s1 _ _ hL),ht,hs,by lia,fun l2 rs H2 N2=>?_⟩
  have hrs:rs.length=row.length:=by rw [N2.len,runs_length]
  refine i_addL (xs:=[.ref lw]) (ys:=rs.map V.ref) (N2.sm _ _ e1) N2.at_ (szl (by simp; lia)) (fun l3 h3=>?_)
  have s3:Same H2 _:=same_upd (o:=.lst ([.ref lw]++rs.map V.ref)) h3
  have e3:upd H2 l3 (.lst ([.ref lw]++rs.map V.ref)) l3=some (.lst ((lw :: rs).map V.ref)):=by rw [upd_same]; rfl
  generalize upd H2 l3 (.lst ([.ref lw]++rs.map V.ref))=H3 at *
  have S3:=s1.trans (N2.sm.trans s3)
  have hPr:Paired (fun r xs=>H3 r=some (.lst (iL xs))) (lw :: rs) (ws :: runs ps ws row):=.cons (S3 _ _ hW) (Paired.mapP N2.it fun r xs z=>s3 _ _ z.2)
  walk_at"s"
  refine⟨l3,_,rfl,SqL.of e3,fun l4 h4=>?_⟩
  rw [cut_from (by decide),show ((lw :: rs).map V.ref).drop (1:Int).toNat=rs.map V.ref from rfl]
  have s4:Same H3 _:=same_upd (o:=.lst (rs.map V.ref)) h4
  have e4:upd H3 l4 (.lst (rs.map V.ref)) l4=some (.lst (rs.map V.ref)):=upd_same
  generalize upd H3 l4 (.lst (rs.map V.ref))=H4 at *
  replace e3:=s4 _ _ e3
  have gp:∀ {as:List Addr} {bs:List (List Int)} {i:Nat} {a:Addr},Paired (fun r xs=>H3 r=some (.lst (iL xs))) as bs->as[i]? = some a->∃ b,bs[i]? = some b/\H3 a=some (.lst (iL b)):=by
   intro as
   induction as with
   | nil=>intro bs i a _ h; simp at h
   | cons c cs ih =>
     intro bs i a hp h
     cases hp with
     | cons z zs =>
       cases i with
       | zero=>simp at h; subst h; exact⟨_,rfl,z⟩
       | succ i=>simpa using ih zs (by simpa using h)
  have hL2:∀ x∈ws :: runs ps ws row,x.length=ps.length:=fun x hx=>by
   rcases List.mem_cons.mp hx with rfl | hx
   ·exact hs.1
   ·exact runs_len row ws hs.1 x hx
  refine⟨_,_,rfl,⟨_,SqL.of e3⟩,⟨_,SqL.of e4⟩,lp_zip (xs:=(lw :: rs).map V.ref) (ys:=rs.map V.ref) (fun i σ H5=>∃ (lg2:Addr) (u1 u2:Option V),σ = [some (.ref t),some (.ref l),some (.ref lp),some (.int hd),some (.ref lw),some (.ref lg2),some (.ref l3),u1,u2]/\Same H4 H5/\H5 lg2=some (.lst (iL (farT gs (ws :: runs ps ws row) i)))) ?_ ?_ ?_ ?_⟩
  ·exact⟨lg,_,_,rfl,Same.refl _,s4 _ _ (S3 _ _ hG)⟩
  ·rintro i σ H5 ⟨lg2,u1,u2,rfl,s5,e5⟩
   exact⟨SqL.of (s5 _ _ e3),SqL.of (s5 _ _ e4)⟩
  ·rintro i x y tt σ H5 hx hy ⟨lg2,u1,u2,rfl,s5,e5⟩ htt
   rw [List.getElem?_map] at hx hy
   obtain⟨ra,hra,rfl⟩:=Option.map_eq_some_iff.mp hx
   obtain⟨rb,hrb,rfl⟩:=Option.map_eq_some_iff.mp hy
   obtain⟨xa,hxa,fa⟩:=gp hPr hra
   obtain⟨xb,hxb,fb⟩:=gp hPr (i:=i+1) (by simpa using hrb)
   walk_at"s"
   walk_at"z9"
   have s6:Same H5 _:=same_upd (o:=.tup [.ref ra,.ref rb]) htt
   generalize upd H5 tt (.tup [.ref ra,.ref rb])=H6 at *
   walk_at"s"
   refine⟨lg2,ra,rb,_,xa,xb,rfl,SqL.of (s6 _ _ e5),SqL.of (s6 _ _ (s5 _ _ (s4 _ _ fa))),SqL.of (s6 _ _ (s5 _ _ (s4 _ _ fb))),?_,fun l7 H7 N7=>?_⟩
   ·rw [farT_len hgl hL2]
    lia
   ·refine⟨l7,_,_,rfl,s5.trans (s6.trans N7.sm),?_⟩
    rw [farT_succ hxa (by simpa using hxb)]
    exact N7.at_
  ·rintro σ H5 ⟨lg2,u1,u2,rfl,s5,e5⟩
   rw [farT_all _ _ (by simp [runs_length,hrs])] at e5
   have S5:=S3.trans (s4.trans s5)
   have hlast:=runs_lastE (ps:=ps) row ws hr0
   rw [List.getLast?_eq_getElem?] at hlast
   obtain⟨pre,rz,hz⟩:∃ pre rz,lw :: rs=pre++[rz]:=⟨(lw :: rs).dropLast,(lw :: rs).getLast (by simp),(List.dropLast_concat_getLast (by simp)).symm⟩
   have hzi:(lw :: rs)[(ws :: runs ps ws row).length - 1]? = some rz:=by
    have hl:(ws :: runs ps ws row).length=(lw :: rs).length:=by simp [runs_length,hrs]
    rw [hl,hz]
    simp
   obtain⟨xz,hxz,fz⟩:=gp hPr hzi
   rw [hlast] at hxz
   cases hxz
   obtain⟨row',c,rfl⟩:∃ row' c,row=row'++[c]:=⟨row.dropLast,row.getLast hr0,(List.dropLast_concat_getLast hr0).symm⟩
   walk_at"s"
   refine i_ixLast (xs:=iL row') (v:=.int c) (by have:=S5 _ _ hL; exact SqL.of (by rw [this]; simp [iL])) ?_;walk_at"s"
   refine i_ixLast (xs:=pre.map V.ref) (v:=.ref rz) (by have:=s5 _ _ e3; rw [hz,List.map_append] at this; exact SqL.of this) ?_;walk_at"s"
   intro t9 h9
   have S9:=S5.trans (same_upd (o:=.tup [.ref lp,.int c,.ref rz,.ref lg2]) h9)
   refine k t9 _ S9 ⟨lp,rz,lg2,?_,S9 _ _ hP,same_upd h9 _ _ (s5 _ _ (s4 _ _ fz)),same_upd h9 _ _ e5⟩
   rw [lastOf_snoc]
   exact upd_same
theorem Exs.no' {E:XK} {H:Hp} {CT CS:Addr} {tr st:Prop} (h1:tr) (h2:st):Exs E H CT CS tr st:=⟨fun h=>absurd h1 h,fun _ h=>absurd h2 h⟩
abbrev DS:=List Int×Int×List Int×List Int
def SOkS (s:DS):Prop:=isTr s.1/\stand s.1 s.2.1 s.2.2.1/\s.2.2.2.length=s.1.length
def SA (H:Hp) (t:Addr) (s:DS):Prop:=SAt H t s.1 s.2.1 s.2.2.1 s.2.2.2
def But (q:Addr) (H H':Hp):Prop:=∀ b o,H b=some o->b≠q->H' b=some o
structure DkAt (C:Addr) (H:Hp) (p ls:Addr) (ts:List Addr) (ss:List DS):Prop where
 ob:∃ dx,H p=some (.ins C dx (putF "states" (.ref ls) []))
 sl:H ls=some (.lst (ts.map V.ref))
 it:Paired (fun t s=>SA H t s) ts ss
 ok:∀ s∈ss,SOkS s
theorem ne_il {H:Hp} {a q:Addr} {xs:List Int} {us:List Addr} (ha:H a=some (.lst (iL xs))) (hq:H q=some (.lst (us.map V.ref))) (hx:0<xs.length):a≠q:=fun z=>by
 subst z
 rw [ha] at hq
 have e:=HO.lst.inj (Option.some.inj hq)
 cases xs with
 | nil=>simp at hx
 | cons x xs=>cases us <;> simp [iL] at e
theorem SA.but {H H':Hp} {t q:Addr} {s:DS} {us:List Addr} (h:SA H t s) (ok:SOkS s) (b:But q H H') (hq:H q=some (.lst (us.map V.ref))):SA H' t s:=by
 obtain⟨lp,lw,lg,h1,h2,h3,h4⟩:=h
 have o1:=ok.1.1
 have o2:=ok.2.1.1
 have o3:=ok.2.2
 refine⟨lp,lw,lg,b _ _ h1 fun z=>?_,b _ _ h2 (ne_il h2 hq (by lia)),b _ _ h3 (ne_il h3 hq (by lia)),b _ _ h4 (ne_il h4 hq (by lia))⟩
 subst z
 rw [h1] at hq
 cases hq
theorem sas_but {H H':Hp} {q:Addr} {us:List Addr} (b:But q H H') (hq:H q=some (.lst (us.map V.ref))):∀ {ts:List Addr} {ss:List DS},Paired (fun t s=>SA H t s) ts ss->(∀ s∈ss,SOkS s)->Paired (fun t s=>SA H' t s) ts ss
 | _,_,.nil,_=>.nil
 | _,_,.cons a r,h=>.cons (a.but (h _ (by simp)) b hq) (sas_but b hq r fun s hs=>h s (by simp [hs]))
theorem DkAt.more {C:Addr} {H H':Hp} {p ls:Addr} {ts:List Addr} {ss:List DS} (h:DkAt C H p ls ts ss) (s:Same H H'):DkAt C H' p ls ts ss:=by
 obtain⟨dx,e⟩:=h.ob
 exact⟨⟨dx,s _ _ e⟩,s _ _ h.sl,Paired.mapP h.it fun t d z=>SAt.more z s,h.ok⟩
theorem DkAt.ne {C:Addr} {H:Hp} {p ls:Addr} {ts:List Addr} {ss:List DS} (h:DkAt C H p ls ts ss):p≠ls:=fun z=>by
 obtain⟨dx,e⟩:=h.ob
 rw [z,h.sl] at e
 cases e
theorem DkAt.set {C:Addr} {H:Hp} {p ls:Addr} {ts ts':List Addr} {ss ss':List DS} (h:DkAt C H p ls ts ss) (hi:Paired (fun t s=>SA H t s) ts' ss') (ho:∀ s∈ss',SOkS s):But ls H (upd H ls (.lst (ts'.map V.ref)))/\DkAt C (upd H ls (.lst (ts'.map V.ref))) p ls ts' ss':=by
 have b:But ls H (upd H ls (.lst (ts'.map V.ref))):=fun q o e n=>by rw [upd_ne n]; exact e
 obtain⟨dx,e⟩:=h.ob
 exact⟨b,⟨dx,b _ _ e h.ne⟩,upd_same,sas_but b h.sl hi ho,ho⟩
theorem sfl (ls:Addr):(putF "states" (.ref ls) []).lookup ("states" : Str)=some (.ref ls):=by rw [lookup_putF,if_pos rfl]
theorem sfl_no (ls:Addr) {m:Str} (h:¬ m = "states"):(putF "states" (.ref ls) []).lookup m=none:=by
 rw [lookup_putF,if_neg h]
 rfl
def spStateE (C CR:Addr):Sp:=fun vs H Q E=>∃ (p ls:Addr) (ts:List Addr) (ss:List DS),vs=[.ref p]/\DkAt C H p ls ts ss/\(∀ ts' t ss' s,ts=ts'++[t]->ss=ss'++[s]->SA H t s->SOkS s->Q (.ref t) H)/\(ss=[]->E (.ref CR) none H)
theorem paired_last {F:Addr->DS->Prop}:∀ {as:List Addr} {bs:List DS} {b:DS},Paired F as (bs++[b])->∃ as' a,as=as'++[a]/\Paired F as' bs/\F a b
 | _,[],b,h=>by
   cases h with
   | cons h t=>cases t; exact⟨[],_,rfl,.nil,h⟩
 | _,c :: bs,b,h=>by
   cases h with
   | cons h t =>
     obtain⟨as',a,rfl,q,r⟩:=paired_last (bs:=bs) t
     exact⟨_ :: as',a,rfl,.cons h q,r⟩
theorem Oq10 (T:Txt mg) (Z:Cls K mg) (Y:Own K mg) (D:DefM K Y.jDe "state" "Desk.state" Gq10):CalleeM (CXE P w) P w K mg base Y.jDe "state" 1 (spStateE Y.jDe Z.jAj):=by
 refine DefM.okE D Uq10 Jq10 (fun vs H Q E h=>?len) (fun f cdv A outer s H vs Q E hr h=>?body)
 case len=>obtain⟨p,ls,ts,ss,rfl,_⟩:=h; rfl
 case body =>
  obtain⟨p,ls,ts,ss,rfl,W,k1,k2⟩:=h
  obtain⟨dx,ep⟩:=W.ob
  walk_at"z4"
  refine⟨_,(pss_cons (ps_if (pt_not (pt_truthK K (pe_fldK K (pv 0) (by rfl))))
 (pss_one (ps_raise Z.exc_NoRow PySem.F.excBase_ValueError (by rfl) (pa_cons pe_str pa_nil)))
 pss_nil)
 (pss_one (ps_ret (pe_ix (ix_K K) (pe_fldK K (pv 0) (by rfl)) (pe_negK (r:=-1) (by decide)) (by exact fun _ _=>rfl))))),?_⟩
  walk_at"un"
  try clear hu
  walk_at"s"
  walk_at"z8"
  walk_at"s"
  refine i_truL (SqL.of W.sl) ?_;walk_at"s"
  rcases List.eq_nil_or_concat ss with rfl | ⟨ss',s0,rfl⟩
  ·have:ts=[]:=List.length_eq_zero_iff.mp W.it.length
   subst this
   refine ifT (by rfl) ?_;walk_at"s"
   exact⟨by simp,k2 rfl⟩
  ·rw [List.concat_eq_append] at *
   obtain⟨ts',t0,rfl,hit,hlast⟩:=paired_last W.it
   refine ifF (by simp) ?_;walk_at"s"
   walk_at"z8"
   walk_at"s"
   refine i_ixLast (xs:=ts'.map V.ref) (v:=.ref t0) (by have:=W.sl; rw [List.map_append] at this; exact SqL.of this) ?_
   exact k1 ts' t0 ss' s0 rfl rfl hlast (W.ok _ (by simp))
def spTakeE (C CN:Addr):Sp:=fun vs H Q E=>∃ (p ls:Addr) (ts:List Addr) (ss:List DS),vs=[.ref p]/\DkAt C H p ls ts ss/\(∀ ss' s,ss=ss'++[s]->∀ H',But ls H H'->DkAt C H' p ls ts.dropLast ss'->Q (.str "ok") H')/\(ss=[]->E (.ref CN) none H)
theorem Oq7 (T:Txt mg) (Z:Cls K mg) (Y:Own K mg) (D:DefM K Y.jDe "take_back" "Desk.take_back" Gq7):CalleeM (CXE P w) P w K mg base Y.jDe "take_back" 1 (spTakeE Y.jDe Z.jAl):=by
 refine DefM.okE D Uq7 Jq7 (fun vs H Q E h=>?len) (fun f cdv A outer s H vs Q E hr h=>?body)
 case len=>obtain⟨p,ls,ts,ss,rfl,_⟩:=h; rfl
 case body =>
  obtain⟨p,ls,ts,ss,rfl,W,k1,k2⟩:=h
  obtain⟨dx,ep⟩:=W.ob
  walk_at"z4"
  refine⟨_,(pss_cons (ps_if (pt_not (pt_truthK K (pe_fldK K (pv 0) (by rfl))))
 (pss_one (ps_raise Z.exc_NothingLeft PySem.F.excBase_ValueError (by rfl) (pa_cons pe_str pa_nil)))
 pss_nil)
 (pss_cons (ps_expr (pe_bm0K K PySem.F.plainAttrs_list PySem.F.slot_list_pop PySem.F.type_list_pop mt_pop (pe_fldK K (pv 0) (by rfl))))
 (pss_one (ps_ret pe_str)))),?_⟩
  walk_at"un"
  try clear hu
  walk_at"s"
  walk_at"z8"
  walk_at"s"
  refine i_truL (SqL.of W.sl) ?_;walk_at"s"
  rcases List.eq_nil_or_concat ss with rfl | ⟨ss',s0,rfl⟩
  ·have:ts=[]:=List.length_eq_zero_iff.mp W.it.length
   subst this
   refine ifT (by rfl) ?_;walk_at"s"
   exact⟨by simp,k2 rfl⟩
  ·rw [List.concat_eq_append] at *
   obtain⟨ts',t0,rfl,hit,hlast⟩:=paired_last W.it
   refine ifF (by simp) ?_;walk_at"s"
   walk_at"z8"
   walk_at"s"
   refine⟨.inl ⟨rfl,_,SqL.of W.sl⟩,?_⟩
   have hsl:H ls=some (.lst (ts'.map V.ref++[V.ref t0])):=by rw [W.sl]; simp
   walk_at"s"
   refine i_popS hsl ?_;walk_at"s"
   obtain⟨b1,W1⟩:=W.set hit fun s hs=>W.ok s (by simp [hs])
   refine k1 ss' s0 rfl _ b1 ?_
   rw [List.dropLast_concat]
   exact W1
theorem keeps_zeros:∀ {ns:List Int},(∀ p∈ns,0<=p)->keeps ns 0 (zeros ns.length)
 | [],_=>trivial
 | p :: ns,h=>by
   have h0:=h p (by simp)
   exact⟨⟨by lia,by lia⟩,keeps_zeros fun q hq=>h q (by simp [hq])⟩
theorem stand_zeros {ns:List Int} (h:isTr ns):stand ns 0 (zeros ns.length):=⟨by simp,keeps_zeros h.2.2⟩
def DoneR (ss:List DS) (word:Str) (ns:List Int) (s':DS):Prop :=
 (word = "plays" /\ isTr ns/\s'=(ns,0,zeros ns.length,zeros ns.length)) \/
 ∃ ss0 ps hd ws gs,ss=ss0++[(ps,hd,ws,gs)] /\
  ((word = "at" /\ ∃ e goal,ns=e :: goal/\stand ps e goal/\s'=(ps,e,goal,zeros ps.length)) \/
   (word = "turn" /\ ns≠[]/\s'=(ps,lastOf hd ns,endW ps ws ns,farL gs (ws :: runs ps ws ns))))
def DeedX (Z:Cls K mg) (ss:List DS) (word:Str) (ns:List Int) (C:Addr):Prop :=
 (word = "plays" /\ ¬ isTr ns/\C=Z.jAb)\/(word ≠ "plays" /\ ss=[]/\C=Z.jAj) \/
 ∃ ss0 ps hd ws gs,ss=ss0++[(ps,hd,ws,gs)] /\
  ((word = "at" /\ ∃ e goal,ns=e :: goal/\¬ stand ps e goal/\C=Z.jAc))
def spDoE (C:Addr) (Z:Cls K mg):Sp:=fun vs H Q E=>∃ (p ls l:Addr) (ts:List Addr) (ss:List DS) (word:Str) (ns:List Int),vs=[.ref p,.str word,.ref l]/\DkAt C H p ls ts ss/\l≠ls/\H l=some (.lst (iL ns))/\Asc word/\ns.length<=20000/\((word = "plays")\/(word = "at" /\ ns≠[])\/(word = "turn" /\ ns≠[]))/\ts.length<=50000 /\
 (∀ s',DoneR ss word ns s'->∀ t H',But ls H H'->DkAt C H' p ls (ts++[t]) (ss++[s'])->Q (.str "ok") H')/\(∀ X,DeedX Z ss word ns X->∀ H',Same H H'->E (.ref X) none H')
theorem Oq8 (T:Txt mg) (Z:Cls K mg) (Y:Own K mg) (M:Tabs w K mg) (D:DefM K Y.jDe "do" "Desk.do" Gq8) (Cq10:CalleeM (CXE P w) P w K mg base Y.jDe "state" 1 (spStateE Y.jDe Z.jAj)) (Cq38:CalleeE P w K mg base "new_train" 3 (spNewTrain K Z.jAb)) (Cq39:CalleeE P w K mg base "set_down" 5 (spSetDown K Z.jAc)) (Cq42:Callee P w K mg base "turned_by" 6 (spTurnedBy K)):CalleeM (CXE P w) P w K mg base Y.jDe "do" 9 (spDoE Y.jDe Z):=by
 refine DefM.okE D Uq8 Jq8 (fun vs H Q E h=>?len) (fun f cdv A outer s H vs Q E hr h=>?body)
 case len=>obtain⟨p,ls,l,ts,ss,word,ns,rfl,_⟩:=h; rfl
 case body =>
  obtain⟨p,ls,l,ts,ss,word,ns,rfl,W,nl,hL,hA,hnl,hw,htl,k,kx⟩:=h
  obtain⟨dx,ep⟩:=W.ob
  walk_at"z4"
  refine⟨_,(pss_cons (psS 3 Uq8.nd (pe_ifExp (pt_cmpR (op_eqK K hu) (pv 1) pe_str (nomark _)) pe_non (pe_meth0E Cq10 Y.cl_Desk (pv 0) (hr.mono (by decide)))))
 (pss_cons (psS 4 Uq8.nd (pe_mget (by rfl) M.m_DEEDS M.d_DEEDS (pv 1) (by exact fun _ _=>rfl)))
 (pss_cons (ps_expr (pe_bmK K PySem.F.plainAttrs_list PySem.F.slot_list_append PySem.F.type_list_append mt_append (pe_fldK K (pv 0) (by rfl)) (pa_cons (pe_callV (k:=8) (pv 4) (hr.mono (by decide)) (pass_exc fun _ _ _ z=>z) (pa_cons (pv 3) (pa_cons (pv 2) pa_nil))) pa_nil)))
 (pss_one (ps_ret pe_str))))),?_⟩
  walk_at"un"
  try clear hu
  have dg:∀ fn,deedsT.lookup word=some fn->∃ a,M.v_DEEDS.lookup word=some (.ref a)/\mg fn=some (.ref a):=fun fn hf=>by
   rcases row_get (R:=fun (r:Str) v=>∃ a,v=.ref a/\mg r=some (.ref a)) word M.p_DEEDS with ⟨z,_⟩ | ⟨r,v,z1,z2,a,rfl,z3⟩
   ·rw [hf] at z
    cases z
   ·rw [hf] at z1
    cases z1
    exact⟨a,z2,z3⟩
  have snoc:∀ {H2:Hp} {ts:List Addr} {ss:List DS} {t':Addr} {s':DS},Paired (fun t s=>SA H2 t s) ts ss->SA H2 t' s'->Paired (fun t s=>SA H2 t s) (ts++[t']) (ss++[s']):=by
   intro H2 ts ss t' s' h z
   induction h with
   | nil=>exact .cons z .nil
   | cons a b ih=>exact .cons a ih
  have fin:∀ t' H2 s',Same H H2->SA H2 t' s'->SOkS s'->DoneR ss word ns s'->Q (.str "ok") (upd H2 ls (.lst (ts.map V.ref++[V.ref t']))):=fun t' H2 s' s2 z1 z2 z3=>by
   have W2:=W.more s2
   obtain⟨b3,W3⟩:=W2.set (snoc W2.it z1) fun s hs=>by
    rcases List.mem_append.mp hs with q | q
    ·exact W.ok s q
    ·have:s=s':=by simpa using q
     rw [this]
     exact z2
   rw [List.map_append] at b3 W3
   exact k s' z3 t' _ (fun b o e n=>b3 b o (s2 _ _ e) n) W3
  have hsl:∀ {H2:Hp},Same H H2->H2 ls=some (.lst (ts.map V.ref)):=fun s=>s _ _ W.sl
  have hsz:(ts.map V.ref).length<sizeLine:=szlt (by rw [List.length_map]; lia)
  walk_at"s"
  refine i_eqS hA.ok (by decide+kernel) ?_;walk_at"s"
  by_cases hpl:word = "plays"
  ·subst hpl
   refine ifT (by decide+kernel) ?_
   obtain⟨a,d1,d2⟩:=dg "new_train" (by decide+kernel)
   walk_at"s"
   refine⟨_,_,rfl,d1,?_⟩;walk_at"s"
   walk_at"z8"
   refine⟨.inl ⟨rfl,_,SqL.of W.sl⟩,?_⟩;walk_at"s"
   refine⟨a,_,rfl,CalleeE.at Cq38 (by decide) d2,?_⟩;walk_at"s"
   refine⟨.non,l,ns,rfl,hL,fun ht t2 H2 s2 z2=>?_,fun hn=>kx _ (.inl ⟨rfl,hn,rfl⟩) _ (Same.refl _)⟩
   refine i_app (hsl s2) hsz ?_;walk_at"s"
   exact fin t2 H2 (ns,0,zeros ns.length,zeros ns.length) s2 z2 ⟨ht,stand_zeros ht,by simp⟩ (.inl ⟨rfl,ht,rfl⟩)
  refine ifF (by simpa using hpl) ?_;walk_at"s"
  refine⟨p,dx,_,rfl,ep,sfl_no _ (by decide+kernel),p,ls,ts,ss,rfl,W,fun ts' t0 ss' s0 hts hss hsa hok=>?_,fun hn=>kx _ (.inr (.inl ⟨hpl,hn,rfl⟩)) _ (Same.refl _)⟩
  obtain⟨ps,hd,ws,gs⟩:=s0
  have hok1:isTr ps:=hok.1
  have hok2:stand ps hd ws:=hok.2.1
  have hok3:gs.length=ps.length:=hok.2.2
  have h12:=hok1.2.1
  have hsa':SAt H t0 ps hd ws gs:=hsa
  rcases hw with hw | ⟨rfl,hn⟩ | ⟨rfl,hn⟩
  ·exact absurd hw hpl
  ·obtain⟨a,d1,d2⟩:=dg "set_down" (by decide+kernel)
   obtain⟨e,goal,rfl⟩:∃ e goal,ns=e :: goal:=by
    cases ns with
    | nil=>exact absurd rfl hn
    | cons e goal=>exact⟨e,goal,rfl⟩
   walk_at"s"
   refine⟨_,_,rfl,d1,?_⟩;walk_at"s"
   walk_at"z8"
   refine⟨.inl ⟨rfl,_,SqL.of W.sl⟩,?_⟩;walk_at"s"
   refine⟨a,_,rfl,CalleeE.at Cq39 (by decide) d2,?_⟩;walk_at"s"
   refine⟨t0,l,ps,ws,gs,goal,hd,e,rfl,hsa',hL,hok1,fun hs t2 H2 s2 z2=>?_,fun hs H2 s2=>kx _ (.inr (.inr ⟨ss',ps,hd,ws,gs,hss,rfl,e,goal,rfl,hs,rfl⟩)) _ s2⟩
   refine i_app (hsl s2) hsz ?_;walk_at"s"
   exact fin t2 H2 (ps,e,goal,zeros ps.length) s2 z2 ⟨hok1,hs,by simp⟩ (.inr ⟨ss',ps,hd,ws,gs,hss,.inl ⟨rfl,e,goal,rfl,hs,rfl⟩⟩)
  ·obtain⟨a,d1,d2⟩:=dg "turned_by" (by decide+kernel)
   walk_at"s"
   refine⟨_,_,rfl,d1,?_⟩;walk_at"s"
   walk_at"z8"
   refine⟨.inl ⟨rfl,_,SqL.of W.sl⟩,?_⟩;walk_at"s"
   refine⟨a,_,rfl,CalleeE.at Cq42.toE (by decide) d2,?_⟩;walk_at"s"
   refine⟨t0,l,ps,ws,gs,ns,hd,rfl,hsa',hL,hok1,hok2,hok3,hn,hnl,fun t2 H2 s2 z2=>?_⟩
   refine i_app (hsl s2) hsz ?_;walk_at"s"
   have hlen:(farL gs (ws :: runs ps ws ns)).length=ps.length:=by
    rw [<- farT_all gs (ws :: runs ps ws ns) (Nat.le_refl _)]
    refine farT_len hok3 (fun x hx=>?_) _
    rcases List.mem_cons.mp hx with rfl | hx
    ·exact hok2.1
    ·exact runs_len ns ws hok2.1 x hx
   exact fin t2 H2 (ps,lastOf hd ns,endW ps ws ns,farL gs (ws :: runs ps ws ns)) s2 z2 ⟨hok1,endW_stand hok1 hok2,hlen⟩ (.inr ⟨ss',ps,hd,ws,gs,hss,.inr ⟨rfl,hn,rfl⟩⟩)
def spShown (CT CS:Addr):Sp:=fun vs H Q E=>∃ (a b:Addr) (ps ws:List Int) (hd:Int),vs=[.ref a,.int hd,.ref b]/\H a=some (.lst (iL ps))/\H b=some (.lst (iL ws))/\Small hd/\(∀ n∈ps,Small n)/\(∀ n∈ws,Small n) /\
 (isTr ps->stand ps hd ws->∀ H',Same H H'->Q (.str (Str.join ⟨#[10]⟩ [("plays " : Str)++Str.join ⟨#[32]⟩ (ps.map tx),("at " : Str)++Str.join ⟨#[32]⟩ ((hd :: ws).map tx)])) H')/\Exs E H CT CS (isTr ps) (stand ps hd ws)
theorem Oq43 (T:Txt mg) (Z:Cls K mg) (D:Def K mg "shown" Gq43) (Cq35:CalleeE P w K mg base "refuse_no_stand" 4 (spRefStandE K Z.jAb Z.jAc)) (Cq28:Callee P w K mg base "written" 1 (spWritten K)):CalleeE P w K mg base "shown" 5 (spShown Z.jAb Z.jAc):=by
 refine Def.okE D Uq43 Jq43 (fun vs H Q E h=>?len) (fun f cdv A outer s H vs Q E hr h=>?body)
 case len=>obtain⟨a,b,ps,ws,hd,rfl,_⟩:=h; rfl
 case body =>
  obtain⟨a,b,ps,ws,hd,rfl,hA,hB,z1,z2,z3,k,x⟩:=h
  walk_at"z4"
  refine⟨_,(pss_cons (ps_expr (pe_callE Cq35 (hr.mono (by decide)) (by rfl) (pa_cons (pv 0) (pa_cons (pv 1) (pa_cons (pv 2) pa_nil)))))
 (pss_one (ps_ret (pe_bmK K PySem.F.plainAttrs_str PySem.F.slot_str_join PySem.F.type_str_join (mt_joinK K) pe_str (pa_cons (pe_lst (pa_cons (pe_op op_addQ pe_str (pe_callN Cq28 (hr.mono (by decide)) (by rfl) (pa_cons (pv 0) pa_nil))) (pa_cons (pe_op op_addQ pe_str (pe_callN Cq28 (hr.mono (by decide)) (by rfl) (pa_cons (pe_op op_addQ (pe_lst (pa_cons (pv 1) pa_nil)) (pv 2)) pa_nil))) pa_nil))) pa_nil))))),?_⟩
  walk_at"un"
  try clear hu
  walk_at"s"
  refine⟨a,b,ps,ws,hd,rfl,SqL.of hA,SqL.of hB,fun ht hs H1 s1=>?_,x⟩
  have h12:=ht.2.1
  have hwl:=hs.1
  have hwp:=words_len z2
  have hz4:∀ n∈hd :: ws,Small n:=fun n hn=>by
   rcases List.mem_cons.mp hn with rfl | hn
   ·exact z1
   ·exact z3 n hn
  have hww:=words_len hz4
  have jl:∀ ns:List Int,((ns.map tx).map (·.length)).sum<=ns.length*61->ns.length<=13->(Str.join ⟨#[32]⟩ (ns.map tx)).length<=1000:=fun ns h1 h2=>by
   cases ns with
   | nil=>simp [Str.join]; decide
   | cons a r =>
     have:=join_len ⟨#[32]⟩ (ss:=(a :: r).map tx) (by simp)
     rw [show (⟨#[32]⟩:Str).length=1 from rfl,Nat.mul_one,List.length_map] at this
     lia
  have j1:=jl ps hwp (by lia)
  have j2:=jl (hd :: ws) hww (by simp; lia)
  walk_at"s"
  refine⟨rfl,?_⟩;walk_at"s"
  refine⟨a,ps,rfl,SqL.of (s1 _ _ hA),z2,by lia,fun H2 s2=>?_⟩
  have S2:=s1.trans s2
  walk_at"s"
  refine i_addQS (by rw [show (Str.ofString "plays ").length=6 from rfl]; lia) ?_;walk_at"s"
  intro q3 h3;walk_at"s"
  have s3:Same H2 _:=same_upd (o:=.lst [.int hd]) h3
  refine .inl (i_addL (xs:=[.int hd]) (ys:=iL ws) upd_same (s3 _ _ (S2 _ _ hB)) (szl (by simp [iL]; lia)) (fun q4 h4=>?_))
  have s4:Same H2 _:=s3.trans (same_upd (o:=.lst ([.int hd]++iL ws)) h4)
  have e4:upd (upd H2 q3 (.lst [.int hd])) q4 (.lst ([.int hd]++iL ws)) q4=some (.lst (iL (hd :: ws))):=by rw [upd_same]; rfl
  generalize upd (upd H2 q3 (.lst [.int hd])) q4 (.lst ([.int hd]++iL ws))=H4 at *
  walk_at"s"
  refine⟨q4,hd :: ws,rfl,SqL.of e4,hz4,by simp; lia,fun H5 s5=>?_⟩;walk_at"s"
  refine i_addQS (by rw [show (Str.ofString "at ").length=3 from rfl]; lia) ?_;walk_at"s"
  intro q6 h6
  have l1:=app_len (Str.ofString "plays ") (Str.join ⟨#[32]⟩ (ps.map tx))
  have l2:=app_len (Str.ofString "at ") (Str.join ⟨#[32]⟩ ((hd :: ws).map tx))
  rw [show (Str.ofString "plays ").length=6 from rfl] at l1
  rw [show (Str.ofString "at ").length=3 from rfl] at l2
  refine⟨⟨#[10]⟩,q6,[Str.ofString "plays " ++ Str.join ⟨#[32]⟩ (ps.map tx),Str.ofString "at " ++ Str.join ⟨#[32]⟩ ((hd :: ws).map tx)],rfl,rfl,SqL.of upd_same,?_,?_⟩
  ·show (Str.ofString "plays " ++ Str.join ⟨#[32]⟩ (ps.map tx)).length+((Str.ofString "at " ++ Str.join ⟨#[32]⟩ ((hd :: ws).map tx)).length+0)+2*1<=_
   lia
  exact k ht hs _ (S2.trans (s4.trans (s5.trans (same_upd h6))))
def spDepthsE (K:PySem.W.Frag) (C:Addr):Sp:=fun vs H Q E=>∃ (a:Addr) (ps:List Int),vs=[.ref a]/\SqL K H a (iL ps)/\(isTr ps->∀ l H',NewI H H' l (depths 0 ps)->Q (.ref l) H')/\(¬ isTr ps->E (.ref C) none H)
theorem Oq44 (T:Txt mg) (Z:Cls K mg) (D:Def K mg "depths_of" Gq44) (Cq33:CalleeE P w K mg base "refuse_no_train" 2 (spRefTrainE K Z.jAb)):CalleeE P w K mg base "depths_of" 3 (spDepthsE K Z.jAb):=by
 refine Def.okE D Uq44 Jq44 (fun vs H Q E h=>?len) (fun f cdv A outer s H vs Q E hr h=>?body)
 case len=>obtain⟨a,ps,rfl,_⟩:=h; rfl
 case body =>
  obtain⟨a,ps,rfl,hA,k,k2⟩:=h
  refine⟨_,(pss_cons (ps_expr (pe_callE Cq33 (hr.mono (by decide)) (by rfl) (pa_cons (pv 0) pa_nil)))
 (pss_cons (psS 1 Uq44.nd (pe_lst pa_nil))
 (pss_cons (psS 2 Uq44.nd pe_int)
 (pss_cons (ps_for PassesOwn.leaving rfl (pi_listK K (pv 0)) (pg_name (i:=3) Uq44.nd rfl (Or.inl rfl))
 (pss_cons (ps_aug (i:=2) Uq44.nd rfl (Or.inl rfl) (pv 3) ip_add)
 (pss_one (ps_expr (pe_bmK K PySem.F.plainAttrs_list PySem.F.slot_list_append PySem.F.type_list_append mt_append (pv 1) (pa_cons (pv 2) pa_nil))))))
 (pss_one (ps_ret (pv 1))))))),?_⟩
  walk_at"un"
  try clear hu
  walk_at"s"
  refine⟨a,ps,rfl,hA,fun ht=>?_,k2⟩
  have k:=k ht
  walk_at"s"
  intro l hl;walk_at"s"
  have s2:Same H (upd H l (.lst [])):=same_upd hl
  have h12:=ht.2.1
  refine⟨⟨_,s2.seq hA⟩,lp_ints (ns:=ps) (fun i σ H2=>∃ (u:Option V) (dn:List Int) (dd:Int),σ = [some (.ref a),some (.ref l),some (.int dd),u]/\NewI H H2 l dn/\dn.length=i/\depths 0 ps=dn++depths dd (ps.drop i)) ?_ ?_ ?_ ?_⟩
  ·exact⟨_,[],0,rfl,⟨hl,s2,upd_same⟩,rfl,rfl⟩
  ·rintro i σ H2 _ ⟨u,dn,dd,rfl,N,hi,hd⟩
   exact N.sm.seq hA
  ·rintro i x σ H2 hxi ⟨u,dn,dd,rfl,N,hi,hd⟩
   have hil:i<ps.length:=(List.getElem?_eq_some_iff.mp hxi).1
   walk_at"s"
   refine⟨_,_,rfl,rfl,?_⟩;walk_at"s"
   refine⟨.inl ⟨rfl,_,SqL.of N.at_⟩,?_⟩;walk_at"s"
   refine i_app N.at_ (szlt (by simp [iL]; lia)) ?_
   refine⟨_,dn++[dd+x],dd+x,rfl,N.app,by simp; lia,?_⟩
   rw [hd,dropc hxi,depths]; simp
  ·rintro σ H2 ⟨u,dn,dd,rfl,N,hi,hd⟩
   walk_at"s"
   rw [List.drop_of_length_le (Nat.le_refl _),depths,List.append_nil] at hd
   rw [hd] at k
   exact k l H2 N
def spDepths (K:PySem.W.Frag):Sp:=fun vs H Q _=>∃ (a:Addr) (ps:List Int),vs=[.ref a]/\SqL K H a (iL ps)/\isTr ps/\∀ l H',NewI H H' l (depths 0 ps)->Q (.ref l) H'
theorem calm_depths_of {CT:Addr} (C:CalleeE P w K mg base "depths_of" 3 (spDepthsE K CT)):Callee P w K mg base "depths_of" 3 (spDepths K) :=
 calm_of C fun vs H Q E ⟨a,ps,h1,h2,h3,h4⟩=>⟨a,ps,h1,h2,fun _=>h4,fun z=>absurd h3 z⟩
def spPieces:Sp:=fun vs H Q _=>∃ (hd:Int) (a:Addr) (xs:List Int),vs=[.int hd,.ref a]/\H a=some (.lst (iL xs))/\xs.length<=1000/\∀ l H',NewI H H' l (xs++[hd])->Q (.ref l) H'
theorem Oq45 (T:Txt mg) (D:Def K mg "pieces_of" Gq45):Callee P w K mg base "pieces_of" 1 spPieces:=by
 refine D.ok Uq45 Jq45 (fun vs H Q E h=>?len) (fun f cdv A outer s H vs Q E hr h=>?body)
 case len=>obtain⟨hd,a,xs,rfl,_⟩:=h; rfl
 case body =>
  obtain⟨hd,a,xs,rfl,hA,hl,k⟩:=h
  refine⟨_,(pss_one (ps_ret (pe_op op_addP (pv 1) (pe_lst (pa_cons (pv 0) pa_nil))))),?_⟩
  walk_at"un"
  try clear hu
  walk_at"s"
  intro g hg
  refine i_addL (a:=a) (b:=g) (same_upd hg _ _ hA) upd_same (by simp [iL]; exact szl (by lia)) (fun l hl2=>?_)
  exact k l _ ⟨(same_upd hg).free hl2,(same_upd hg).trans (same_upd hl2),by rw [upd_same]; simp [iL]⟩
def spMustPlace:Sp:=fun vs H Q _=>∃ (a c t:Addr) (ps gs:List Int) (e:Int) (m:Must),vs=[.ref a,.int e,.ref c,.ref t]/\H a=some (.lst (iL ps))/\H c=some (.lst (iL gs))/\H t=some (.tup [.int m.1,.int m.2])/\isTr ps/\stand ps e gs/\okMust ps.length m /\
 ∀ H',Same H H'->Q (.int (mp (pc (depths 0 ps) 0) (pc gs e) m)) H'
theorem Oq46 (T:Txt mg) (D:Def K mg "must_place" Gq46) (Cq35:Callee P w K mg base "refuse_no_stand" 4 (spRefStand K)) (Cq45:Callee P w K mg base "pieces_of" 1 spPieces) (Cq44:Callee P w K mg base "depths_of" 3 (spDepths K)):Callee P w K mg base "must_place" 5 spMustPlace:=by
 refine D.ok Uq46 Jq46 (fun vs H Q E h=>?len) (fun f cdv A outer s H vs Q E hr h=>?body)
 case len=>obtain⟨a,c,t,ps,gs,e,m,rfl,_⟩:=h; rfl
 case body =>
  obtain⟨a,c,t,ps,gs,e,m,rfl,hA,hC,hT,ht,hg,⟨o1,o2,o3⟩,k⟩:=h
  have h12:=ht.2.1
  have hgl:=hg.1
  refine⟨_,(pss_cons (ps_expr (pe_callN Cq35 (hr.mono (by decide)) (by rfl) (pa_cons (pv 0) (pa_cons (pv 1) (pa_cons (pv 2) pa_nil)))))
 (pss_cons (ps_asg (pv 3) (pg_tupK K 2 (pgs_cons (pg_name (i:=4) Uq46.nd rfl (Or.inl rfl)) (pgs_cons (pg_name (i:=5) Uq46.nd rfl (Or.inl rfl)) pgs_nil))))
 (pss_one (ps_ret (pe_op op_addP (pe_ix (ix_K K) (pe_callN Cq45 (hr.mono (by decide)) (by rfl) (pa_cons (pv 1) (pa_cons (pv 2) pa_nil))) (pv 4) (by exact fun _ _=>rfl)) (pe_op op_mulP (pv 5) (pe_ix (ix_K K) (pe_callN Cq45 (hr.mono (by decide)) (by rfl) (pa_cons pe_int (pa_cons (pe_callN Cq44 (hr.mono (by decide)) (by rfl) (pa_cons (pv 0) pa_nil)) pa_nil))) (pv 4) (by exact fun _ _=>rfl)))))))),?_⟩
  walk_at"un"
  try clear hu
  walk_at"s"
  refine⟨a,c,ps,gs,e,rfl,SqL.of hA,SqL.of hC,ht,hg,fun H1 s1=>?_⟩;walk_at"s"
  refine⟨_,_,rfl,SqT.of (s1 _ _ hT),rfl,_,_,rfl,_,_,rfl,rfl,?_⟩;walk_at"s"
  refine⟨e,c,gs,rfl,s1 _ _ hC,by lia,fun l1 H2 N2=>?_⟩;walk_at"s"
  refine i_pc N2.at_ o1 (by lia) ?_;walk_at"s"
  refine⟨a,ps,rfl,SqL.of (N2.sm _ _ (s1 _ _ hA)),ht,fun l2 H3 N3=>?_⟩;walk_at"s"
  refine⟨0,l2,depths 0 ps,rfl,N3.at_,by rw [depths_length]; lia,fun l3 H4 N4=>?_⟩;walk_at"s"
  refine i_pc N4.at_ o1 (by rw [depths_length]; lia) ?_;walk_at"s"
  refine i_mulI (cmul_l (by lia) (by lia)) ?_;walk_at"s"
  exact k H4 (((s1.trans N2.sm).trans N3.sm).trans N4.sm)
def spSide:Sp:=fun vs H Q _=>∃ (b c:Addr) (ws gs:List Int) (hd e wh:Int),vs=[.int hd,.ref b,.int e,.ref c,.int wh]/\H b=some (.lst (iL ws))/\H c=some (.lst (iL gs))/\ws.length<=12/\gs.length=ws.length/\-1<=wh/\wh<ws.length /\
 ∀ H',Same H H'->Q (.int (if pc ws hd wh=pc gs e wh then 0 else sgn (pc ws hd) (pc gs e) wh)) H'
theorem Oq47 (T:Txt mg) (D:Def K mg "side_to_go" Gq47) (Cq45:Callee P w K mg base "pieces_of" 1 spPieces):Callee P w K mg base "side_to_go" 2 spSide:=by
 refine D.ok Uq47 Jq47 (fun vs H Q E h=>?len) (fun f cdv A outer s H vs Q E hr h=>?body)
 case len=>obtain⟨b,c,ws,gs,hd,e,wh,rfl,_⟩:=h; rfl
 case body =>
  obtain⟨b,c,ws,gs,hd,e,wh,rfl,hB,hC,hl,hgl,o1,o2,k⟩:=h
  walk_at"z4"
  refine⟨_,(pss_cons (psS 5 Uq47.nd (pe_ix (ix_K K) (pe_callN Cq45 (hr.mono (by decide)) (by rfl) (pa_cons (pv 0) (pa_cons (pv 1) pa_nil))) (pv 4) (by exact fun _ _=>rfl)))
 (pss_cons (psS 6 Uq47.nd (pe_ix (ix_K K) (pe_callN Cq45 (hr.mono (by decide)) (by rfl) (pa_cons (pv 2) (pa_cons (pv 3) pa_nil))) (pv 4) (by exact fun _ _=>rfl)))
 (pss_cons (ps_if (pt_cmpR (op_eqK K hu) (pv 5) (pv 6) (nomark _))
 (pss_one (ps_ret pe_int))
 pss_nil)
 (pss_one (ps_ret (pe_ifExp (pt_cmpR op_lt (pv 5) (pv 6) (nomark _)) pe_int (pe_negK (r:=-1) (by decide)))))))),?_⟩
  walk_at"un"
  try clear hu
  walk_at"s"
  refine⟨hd,b,ws,rfl,hB,by lia,fun l1 H1 N1=>?_⟩;walk_at"s"
  refine i_pc N1.at_ o1 (by lia) ?_;walk_at"s"
  refine⟨e,c,gs,rfl,N1.sm _ _ hC,by lia,fun l2 H2 N2=>?_⟩;walk_at"s"
  refine i_pc N2.at_ o1 (by lia) ?_;walk_at"s"
  have sm:=N1.sm.trans N2.sm
  walk_at"z2"
  ·walk_at"s"
   rw [if_pos g] at k
   exact k H2 sm
  ·walk_at"s"
   rw [if_neg g] at k
   unfold sgn at k
   refine i_if (fun g2=>?_) (fun g2=>?_)
   ·rw [if_pos g2] at k
    exact k H2 sm
   ·rw [if_neg g2] at k
    exact k H2 sm
def spBeyond:Sp:=fun vs H Q _=>∃ (a c t:Addr) (ps gs:List Int) (e wh:Int) (m:Must),vs=[.ref a,.int e,.ref c,.ref t,.int wh]/\H a=some (.lst (iL ps))/\H c=some (.lst (iL gs))/\H t=some (.tup [.int m.1,.int m.2])/\isTr ps/\stand ps e gs/\okMust ps.length m/\-1<=wh/\wh<ps.length /\
 ∀ H',Same H H'->Q (.bl (decide (bey (pc (depths 0 ps) 0) (pc gs e) m wh))) H'
theorem Oq48 (T:Txt mg) (D:Def K mg "is_beyond" Gq48) (Cq45:Callee P w K mg base "pieces_of" 1 spPieces) (Cq44:Callee P w K mg base "depths_of" 3 (spDepths K)) (Cq46:Callee P w K mg base "must_place" 5 spMustPlace):Callee P w K mg base "is_beyond" 6 spBeyond:=by
 refine D.ok Uq48 Jq48 (fun vs H Q E h=>?len) (fun f cdv A outer s H vs Q E hr h=>?body)
 case len=>obtain⟨a,c,t,ps,gs,e,wh,m,rfl,_⟩:=h; rfl
 case body =>
  obtain⟨a,c,t,ps,gs,e,wh,m,rfl,hA,hC,hT,ht,hg,hm,w1,w2,k⟩:=h
  have h12:=ht.2.1
  have hgl:=hg.1
  have o3:=hm.2.2
  refine⟨_,(pss_cons (psS 5 Uq48.nd (pe_ix (ix_K K) (pe_callN Cq45 (hr.mono (by decide)) (by rfl) (pa_cons pe_int (pa_cons (pe_callN Cq44 (hr.mono (by decide)) (by rfl) (pa_cons (pv 0) pa_nil)) pa_nil))) (pv 4) (by exact fun _ _=>rfl)))
 (pss_cons (psS 6 Uq48.nd (pe_ix (ix_K K) (pe_callN Cq45 (hr.mono (by decide)) (by rfl) (pa_cons (pv 1) (pa_cons (pv 2) pa_nil))) (pv 4) (by exact fun _ _=>rfl)))
 (pss_one (ps_ret (pe_cmpR op_gt (pe_op op_mulP (pe_op op_sub (pe_callN Cq46 (hr.mono (by decide)) (by rfl) (pa_cons (pv 0) (pa_cons (pv 1) (pa_cons (pv 2) (pa_cons (pv 3) pa_nil))))) (pv 6)) (pe_ix (ix_K K) (pv 3) pe_int (by exact fun _ _=>rfl))) (pv 5) (nomark _)))))),?_⟩
  walk_at"un"
  try clear hu
  walk_at"s"
  refine⟨a,ps,rfl,SqL.of hA,ht,fun l1 H1 N1=>?_⟩;walk_at"s"
  refine⟨0,l1,depths 0 ps,rfl,N1.at_,by rw [depths_length]; lia,fun l2 H2 N2=>?_⟩;walk_at"s"
  refine i_pc N2.at_ w1 (by rw [depths_length]; lia) ?_
  have s2:=N1.sm.trans N2.sm
  walk_at"s"
  refine⟨e,c,gs,rfl,s2 _ _ hC,by lia,fun l3 H3 N3=>?_⟩;walk_at"s"
  refine i_pc N3.at_ w1 (by lia) ?_
  have s3:=s2.trans N3.sm
  walk_at"s"
  refine⟨a,c,t,ps,gs,e,m,rfl,s3 _ _ hA,s3 _ _ hC,s3 _ _ hT,ht,hg,hm,fun H4 s4=>?_⟩
  have s5:=s3.trans s4
  walk_at"s"
  refine i_ixT (SqT.of (s5 _ _ hT)) (by decide) rfl ?_;walk_at"s"
  refine i_mulI (cmul_r (by lia) (by lia)) ?_;walk_at"s"
  exact k H4 s5
def spFirst:Sp:=fun vs H Q _=>∃ (b c:Addr) (ws gs:List Int) (hd e:Int),vs=[.int hd,.ref b,.int e,.ref c]/\H b=some (.lst (iL ws))/\H c=some (.lst (iL gs))/\ws.length<=12/\gs.length=ws.length /\
 ∀ l ts H',NewM H H' l (fm (pc ws hd) (pc gs e) ws.length) ts->Q (.ref l) H'
theorem Oq49 (T:Txt mg) (D:Def K mg "first_musts" Gq49) (Cq47:Callee P w K mg base "side_to_go" 2 spSide):Callee P w K mg base "first_musts" 3 spFirst:=by
 refine D.ok Uq49 Jq49 (fun vs H Q E h=>?len) (fun f cdv A outer s H vs Q E hr h=>?body)
 case len=>obtain⟨b,c,ws,gs,hd,e,rfl,_⟩:=h; rfl
 case body =>
  obtain⟨b,c,ws,gs,hd,e,rfl,hB,hC,hl,hgl,k⟩:=h
  walk_at"z4"
  have kk:∀ l ts H',NewM H H' l (ff (pc ws hd) (pc gs e) (ws.length+1)) ts->Q (.ref l) H':=k
  clear k
  refine⟨_,(pss_cons (ps_for PassesOwn.never rfl (pi_range3 (by rfl) T.z_range (pa_cons (pe_op op_sub (pe_callB (call_lenK K) (by rfl) T.z_len bt_len (pa_cons (pv 1) pa_nil)) pe_int) (pa_cons (pe_negK (r:=-2) (by decide)) (pa_cons (pe_negK (r:=-1) (by decide)) pa_nil)))) (pg_name (i:=4) Uq49.nd rfl (Or.inl rfl))
 (pss_cons (psS 5 Uq49.nd (pe_callN Cq47 (hr.mono (by decide)) (by rfl) (pa_cons (pv 0) (pa_cons (pv 1) (pa_cons (pv 2) (pa_cons (pv 3) (pa_cons (pv 4) pa_nil)))))))
 (pss_one (ps_if (pt_cmpR (op_neK K hu) (pv 5) pe_int (nomark _))
 (pss_one (ps_ret (pe_lst (pa_cons (pe_tup (pa_cons (pv 4) (pa_cons (pv 5) pa_nil))) pa_nil))))
 pss_nil))))
 (pss_one (ps_ret (pe_lst pa_nil)))),?_⟩
  walk_at"un"
  try clear hu
  walk_at"s"
  refine i_lenI (SqL.of hB) ?_;walk_at"s"
  refine⟨_,_,rfl,⟨by lia,by lia,by lia,by lia⟩,lp_down (fun i σ H2=>∃ (u v:Option V),σ = [some (.int hd),some (.ref b),some (.int e),some (.ref c),u,v]/\Same H H2/\i<=ws.length+1/\ff (pc ws hd) (pc gs e) (ws.length+1)=ff (pc ws hd) (pc gs e) (ws.length+1 - i)) ?_ ?_ ?_⟩
  ·exact⟨_,_,rfl,Same.refl _,Nat.zero_le _,rfl⟩
  ·rintro i σ H2 hi ⟨u,v,rfl,sm,hin,hf⟩
   have hi':i<ws.length+1:=by lia
   walk_at"s"
   refine⟨b,c,ws,gs,hd,e,_,rfl,sm _ _ hB,sm _ _ hC,hl,hgl,by lia,by lia,fun H3 s3=>?_⟩
   have st:=ff_step (pc ws hd) (pc gs e) (ws.length - i)
   rw [show ws.length - i+1=ws.length+1 - i by lia,show ((ws.length - i:Nat):Int) - 1=(ws.length:Int) - 1 - i by lia] at st
   generalize hwh:(ws.length:Int) - 1 - (i:Int)=wh at *
   walk_at"s"
   by_cases q:pc ws hd wh=pc gs e wh
   ·rw [if_pos q] at st ⊢
    refine i_ifn (fun g=>absurd rfl g) (fun _=>?_)
    refine⟨_,_,rfl,sm.trans s3,by lia,?_⟩
    rw [hf,st,show ws.length - i=ws.length+1 - (i+1) by lia]
   ·rw [if_neg q] at st ⊢
    refine i_ifn (fun _=>?_) (fun g=>absurd g (by unfold sgn; split <;> decide));walk_at"s"
    intro t ht;walk_at"s"
    intro l hl2
    rw [hf,st] at kk
    refine kk l [t] _ ⟨((sm.trans s3).trans (same_upd ht)).free hl2,((sm.trans s3).trans (same_upd ht)).trans (same_upd hl2),upd_same,.cons (same_upd hl2 _ _ upd_same) .nil⟩
  ·rintro σ H2 ⟨u,v,rfl,sm,hin,hf⟩
   walk_at"s"
   intro l hl2
   rw [hf,show ws.length+1 - ((ws.length:Int) - 1 - -2).toNat=0 by lia] at kk
   exact kk l [] _ ⟨sm.free hl2,sm.trans (same_upd hl2),upd_same,.nil⟩
theorem chain_ok {n:Nat} {D G:Fn}:∀ {ms:List Must} {a:Must},chain n D G a ms->∀ m∈ms,okMust n m
 | m :: ms,a,h,x,hx=>by
   rcases List.mem_cons.mp hx with e | e
   ·subst e; exact h.1
   ·exact chain_ok h.2.2 x e
theorem isPap_ok {n:Nat} {D F G:Fn}:∀ {ms:List Must},isPap n D F G ms->∀ m∈ms,okMust n m
 | m :: ms,h,x,hx=>by
   rcases List.mem_cons.mp hx with e | e
   ·subst e; exact h.1
   ·exact chain_ok h.2.2 x e
def spWay:Sp:=fun vs H Q _=>∃ (a:Addr) (xs:List Int),vs=[.ref a]/\H a=some (.lst (iL xs))/\xs.length<=50000/\∀ H',Same H H'->Q (.int (wayL xs)) H'
theorem way_step {xs:List Int} {i:Nat} {x y:Int} (hx:xs[i]? = some x) (hy:xs[i+1]? = some y):wayL (xs.drop i)=ab (y - x)+wayL (xs.drop (i+1)):=by
 rw [dropc hx,dropc hy,wayL_two]
theorem Oq50 (T:Txt mg) (D:Def K mg "way_of" Gq50):Callee P w K mg base "way_of" 1 spWay:=by
 refine D.ok Uq50 Jq50 (fun vs H Q E h=>?len) (fun f cdv A outer s H vs Q E hr h=>?body)
 case len=>obtain⟨a,xs,rfl,_⟩:=h; rfl
 case body =>
  obtain⟨a,xs,rfl,hA,hl,k⟩:=h
  refine⟨_,(pss_one (ps_ret (pe_callB (call_sumK K) (by rfl) T.z_sum bt_sum (pa_cons (by exact pe_comp (N:=["ahead", "here"]) (fr:=[none,none]) ⟨by rfl,by decide+kernel,by decide+kernel,(show ∀ y∈(_:List (Str×NameKind)),y.2=NameKind.free->(defScope Gq50).names.lookup y.1=some .cell\/(defScope Gq50).names.lookup y.1=some .free by decide+kernel),(fr_none (fr_none fr_nil))⟩ (by rfl) (pi_zip2K K (by rfl) T.z_zip (pa_cons (pv 0) (pa_cons (pe_slice (sl_listK K) (pv 0) (po_some pe_int) po_none) pa_nil))) (fun _ _ _ _=>(pg_tupK K 2 (pgs_cons (pg_name (i:=0) (show List.Nodup (["ahead", "here"]:List Str) by decide) (by rfl) (by first | exact Or.inl rfl | exact Or.inr rfl)) (pgs_cons (pg_name (i:=1) (show List.Nodup (["ahead", "here"]:List Str) by decide) (by rfl) (by first | exact Or.inl rfl | exact Or.inr rfl)) pgs_nil)))) (fun _ _ _ _=>pifs_nil) (fun _ _ _ _=>(pe_callB call_absK (by rfl) T.z_abs bt_abs (pa_cons (pe_op op_sub (pv 1) (pv 0)) pa_nil))) (gw_tup (gws_cons (gw_name (by rfl)) (gws_cons (gw_name (by rfl)) gws_nil)))) pa_nil)))),?_⟩
  walk_at"un"
  try clear hu
  walk_at"s"
  refine i_slFrom (SqL.of hA) (by decide) (fun p hp=>?_)
  have s1:Same H _:=same_upd (o:=.lst (iL (xs.drop (1:Int).toNat))) hp
  have e1:upd H p (.lst (iL (xs.drop (1:Int).toNat))) p=some (.lst (iL (xs.drop 1))):=upd_same
  generalize upd H p (.lst (iL (xs.drop (1:Int).toNat)))=H1 at *
  walk_at"s"
  refine⟨_,_,rfl,⟨_,SqL.of (s1 _ _ hA)⟩,⟨_,SqL.of e1⟩,cp_zip (xs:=iL xs) (ys:=iL (xs.drop 1)) (fun i zs H2=>∃ ds:List Int,zs=iL ds/\ds.length=i/\Same H1 H2/\ds.sum+wayL (xs.drop i)=wayL xs) ⟨[],rfl,rfl,Same.refl _,by simp⟩ ?_ (szlt (by simp [iL]; lia)) ?_ ?_⟩
  ·rintro i zs H2 ⟨ds,rfl,hd,sm,_⟩
   exact⟨SqL.of (sm _ _ (s1 _ _ hA)),SqL.of (sm _ _ e1),by simp [iL]; lia⟩
  ·rintro i x y t zs H2 hx hy ⟨ds,rfl,hd,sm,hw⟩ ht
   rw [List.getElem?_map] at hx hy
   obtain⟨x1,hx1,rfl⟩:=Option.map_eq_some_iff.mp hx
   obtain⟨y1,hy1,rfl⟩:=Option.map_eq_some_iff.mp hy
   rw [List.getElem?_drop,Nat.add_comm] at hy1
   walk_at"s"
   walk_at"z9"
   walk_at"s"
   refine⟨ds++[ab (y1 - x1)],by simp [iL,ab],by simp; lia,sm.trans (same_upd ht),?_⟩
   rw [way_step hx1 hy1] at hw
   simp; lia
  ·rintro l zs H2 ⟨ds,rfl,hd,sm,hw⟩ hl2
   refine i_sum (SqL.of upd_same) ?_
   rw [wayL_short (by simp [iL]; lia)] at hw
   rw [show ds.sum=wayL xs by lia]
   exact k _ ((s1.trans sm).trans (same_upd hl2))
def spRefErrE (CT CS:Addr):Sp:=fun vs H Q E=>∃ (a b c:Addr) (ps ws gs:List Int) (hd e:Int),vs=[.ref a,.int hd,.ref b,.int e,.ref c]/\H a=some (.lst (iL ps))/\H b=some (.lst (iL ws))/\H c=some (.lst (iL gs))/\(isTr ps->stand ps hd ws->stand ps e gs->∀ H',Same H H'->Q .non H')/\Exs E H CT CS (isTr ps) (stand ps hd ws/\stand ps e gs)
theorem Oq51 (T:Txt mg) (Z:Cls K mg) (D:Def K mg "refuse_no_errand" Gq51) (Cq35:CalleeE P w K mg base "refuse_no_stand" 4 (spRefStandE K Z.jAb Z.jAc)):CalleeE P w K mg base "refuse_no_errand" 5 (spRefErrE Z.jAb Z.jAc):=by
 refine Def.okE D Uq51 Jq51 (fun vs H Q E h=>?len) (fun f cdv A outer s H vs Q E hr h=>?body)
 case len=>obtain⟨a,b,c,ps,ws,gs,hd,e,rfl,_⟩:=h; rfl
 case body =>
  obtain⟨a,b,c,ps,ws,gs,hd,e,rfl,hA,hB,hC,k,x⟩:=h
  refine⟨_,(pss_cons (ps_expr (pe_callE Cq35 (hr.mono (by decide)) (by rfl) (pa_cons (pv 0) (pa_cons (pv 1) (pa_cons (pv 2) pa_nil)))))
 (pss_one (ps_expr (pe_callE Cq35 (hr.mono (by decide)) (by rfl) (pa_cons (pv 0) (pa_cons (pv 3) (pa_cons (pv 4) pa_nil))))))),?_⟩
  walk_at"un"
  try clear hu
  walk_at"s"
  refine⟨a,b,ps,ws,hd,rfl,SqL.of hA,SqL.of hB,fun ht hs H1 s1=>?_,x.imp fun _ z=>z.1⟩;walk_at"s"
  refine⟨a,c,ps,gs,e,rfl,SqL.of (s1 _ _ hA),SqL.of (s1 _ _ hC),fun _ hg H2 s2=>?_,(x.on s1).imp fun _ z=>z.2⟩;walk_at"s"
  exact k ht hs hg H2 (s1.trans s2)
def ExE (E:XK) (H:Hp) (CT CS:Addr) (ps ws gs:List Int) (hd e:Int):Prop:=Exs E H CT CS (isTr ps) (stand ps hd ws/\stand ps e gs)
def spPaperE (CT CS:Addr):Sp:=fun vs H Q E=>∃ (a b c:Addr) (ps ws gs:List Int) (hd e:Int),vs=[.ref a,.int hd,.ref b,.int e,.ref c]/\H a=some (.lst (iL ps))/\H b=some (.lst (iL ws))/\H c=some (.lst (iL gs))/\(isTr ps->stand ps hd ws->stand ps e gs ->
 ∀ l ts H',NewM H H' l (told ps hd ws e gs) ts->Q (.ref l) H')/\ExE E H CT CS ps ws gs hd e
theorem Oq52 (T:Txt mg) (Z:Cls K mg) (D:Def K mg "paper_of" Gq52) (Cq51:CalleeE P w K mg base "refuse_no_errand" 5 (spRefErrE Z.jAb Z.jAc)) (Cq49:Callee P w K mg base "first_musts" 3 spFirst) (Cq48:Callee P w K mg base "is_beyond" 6 spBeyond):CalleeE P w K mg base "paper_of" 7 (spPaperE Z.jAb Z.jAc):=by
 refine Def.okE D Uq52 Jq52 (fun vs H Q E h=>?len) (fun f cdv A outer s H vs Q E hr h=>?body)
 case len=>obtain⟨a,b,c,ps,ws,gs,hd,e,rfl,_⟩:=h; rfl
 case body =>
  obtain⟨a,b,c,ps,ws,gs,hd,e,rfl,hA,hB,hC,k,x⟩:=h
  refine⟨_,(pss_cons (ps_expr (pe_callE Cq51 (hr.mono (by decide)) (by rfl) (pa_cons (pv 0) (pa_cons (pv 1) (pa_cons (pv 2) (pa_cons (pv 3) (pa_cons (pv 4) pa_nil)))))))
 (pss_cons (psS 5 Uq52.nd (pe_callN Cq49 (hr.mono (by decide)) (by rfl) (pa_cons (pv 1) (pa_cons (pv 2) (pa_cons (pv 3) (pa_cons (pv 4) pa_nil))))))
 (pss_cons (ps_if (pt_not (pt_truthK K (pv 5)))
 (pss_one (ps_ret (pv 5)))
 pss_nil)
 (pss_cons (psS 6 Uq52.nd (pe_ix (ix_K K) (pv 5) pe_int (by exact fun _ _=>rfl)))
 (pss_cons (ps_for PassesOwn.leaving rfl (pi_range3 (by rfl) T.z_range (pa_cons (pe_op op_sub (pe_ix (ix_K K) (pv 6) pe_int (by exact fun _ _=>rfl)) pe_int) (pa_cons (pe_negK (r:=-2) (by decide)) (pa_cons (pe_negK (r:=-1) (by decide)) pa_nil)))) (pg_name (i:=7) Uq52.nd rfl (Or.inl rfl))
 (pss_one (ps_if (pt_truthK K (pe_callN Cq48 (hr.mono (by decide)) (by rfl) (pa_cons (pv 0) (pa_cons (pv 3) (pa_cons (pv 4) (pa_cons (pv 6) (pa_cons (pv 7) pa_nil)))))))
 (pss_cons (psS 6 Uq52.nd (pe_tup (pa_cons (pv 7) (pa_cons (pe_un un_neg (pe_ix (ix_K K) (pv 6) pe_int (by exact fun _ _=>rfl))) pa_nil))))
 (pss_one (ps_expr (pe_bmK K PySem.F.plainAttrs_list PySem.F.slot_list_append PySem.F.type_list_append mt_append (pv 5) (pa_cons (pv 6) pa_nil)))))
 pss_nil)))
 (pss_one (ps_ret (pv 5)))))))),?_⟩
  walk_at"un"
  try clear hu
  walk_at"s"
  refine⟨a,b,c,ps,ws,gs,hd,e,rfl,hA,hB,hC,fun ht hs hg H1 s1=>?_,x⟩
  have k:=k ht hs hg
  have h12:=ht.2.1
  have hwl:=hs.1
  have hgl:=hg.1
  walk_at"s"
  refine⟨b,c,ws,gs,hd,e,rfl,s1 _ _ hB,s1 _ _ hC,by lia,by lia,fun l ts H2 N=>?_⟩;walk_at"s"
  refine i_truL (SqL.of N.at_) ?_
  have N0:NewM H H2 l _ ts:=⟨s1.free N.fr,s1.trans N.sm,N.at_,N.it⟩
  clear N
  unfold told paper at k
  rw [<- hwl] at k
  rcases fm_spec (F:=pc ws hd) (G:=pc gs e) ws.length with ⟨e1,q⟩ | ⟨w0,e1,z1,z2,z3,z4⟩
  ·rw [e1] at k N0
   have hts:ts=[]:=by have:=N0.it; cases this; rfl
   subst hts
   refine ifT (by rfl) ?_;walk_at"s"
   exact k l [] H2 N0
  ·rw [e1] at k N0
   simp only [] at k
   obtain⟨t0,rfl,ht0⟩:∃ t0,ts=[t0]/\H2 t0=some (.tup [.int w0,.int (sgn (pc ws hd) (pc gs e) w0)]):=by
    have:=N0.it
    cases this with
    | cons h1 h2=>cases h2; exact⟨_,rfl,h1⟩
   have hs0:sgn (pc ws hd) (pc gs e) w0=1\/sgn (pc ws hd) (pc gs e) w0 = -1:=by unfold sgn; split <;> simp
   rw [rr_of _ _ _ z1] at k
   generalize sgn (pc ws hd) (pc gs e) w0=s0 at *
   refine ifF (by rfl) ?_;walk_at"s"
   refine i_ixN (SqL.of N0.at_) (by decide) (v:=.ref t0) rfl ?_;walk_at"s"
   refine i_ixT (SqT.of ht0) (by decide) rfl ?_;walk_at"s"
   refine⟨_,_,rfl,⟨by lia,by lia,by lia,by lia⟩,lp_down (fun i σ H3=>∃ (u:Option V) (t:Addr) (m:Must) (ms:List Must) (ts:List Addr),σ = [some (.ref a),some (.int hd),some (.ref b),some (.int e),some (.ref c),some (.ref l),some (.ref t),u]/\NewM H H3 l ms ts/\ms.length<=i+1/\H3 t=some (.tup [.int m.1,.int m.2])/\okMust ps.length m /\
    (w0,s0) :: rr (pc (depths 0 ps) 0) (pc gs e) (w0+1).toNat (w0,s0)=ms++rr (pc (depths 0 ps) 0) (pc gs e) ((w0+1).toNat - i) m) ?_ ?_ ?_⟩
   ·exact⟨_,t0,(w0,s0),[(w0,s0)],[t0],rfl,N0,by simp,ht0,⟨z1,by simp only; lia,hs0⟩,rfl⟩
   ·rintro i σ H3 hi ⟨u,t,m,ms,ts,rfl,N,hml,hT,hm,heq⟩
    have st:=rr_step (pc (depths 0 ps) 0) (pc gs e) ((w0+1).toNat - i - 1) m
    rw [show (w0+1).toNat - i - 1+1=(w0+1).toNat - i by lia,show (((w0+1).toNat - i - 1:Nat):Int) - 1=w0 - 1 - i by lia] at st
    walk_at"s"
    have hw1:-1<=w0 - 1 - (i:Int):=by lia
    have hw2:w0 - 1 - (i:Int)<ps.length:=by lia
    generalize w0 - 1 - (i:Int)=wh at *
    refine⟨a,c,t,ps,gs,e,wh,m,rfl,N.sm _ _ hA,N.sm _ _ hC,hT,ht,hg,hm,hw1,hw2,fun H4 s4=>?_⟩;walk_at"s"
    refine i_if (fun gq=>?_) (fun gq=>?_)
    ·rw [if_pos gq] at st
     walk_at"s"
     refine i_ixT (SqT.of (s4 _ _ hT)) (by decide) rfl ?_;walk_at"s"
     intro t2 ht2
     have N2:=(N.more s4).more (same_upd (o:=.tup [.int wh,.int (-m.2)]) ht2)
     have hlen:ts.length<=100:=by rw [N.it.length]; lia
     walk_at"s"
     refine⟨.inl ⟨rfl,_,SqL.of N2.at_⟩,?_⟩;walk_at"s"
     refine i_app N2.at_ (szlt (by simp; lia)) ?_
     have e2:upd H4 t2 (.tup [.int wh,.int (-m.2)]) t2=some (.tup [.int wh,.int (-m.2)]):=upd_same
     refine⟨_,t2,(wh,-m.2),ms++[(wh,-m.2)],ts++[t2],rfl,N2.app (m:=(wh,-m.2)) e2,by simp; lia,?_,⟨hw1,hw2,by have:=hm.2.2; simp only; lia⟩,?_⟩
     ·have:t2≠l:=fun z=>by
       have q:=N2.at_
       rw [<- z,e2] at q; cases q
      rw [upd_ne this]; exact e2
     ·rw [heq,st,show (w0+1).toNat - i - 1=(w0+1).toNat - (i+1) by lia]; simp
    ·rw [if_neg gq] at st
     refine⟨_,t,m,ms,ts,rfl,N.more s4,by lia,s4 _ _ hT,hm,?_⟩
     rw [heq,st,show (w0+1).toNat - i - 1=(w0+1).toNat - (i+1) by lia]
   ·rintro σ H3 ⟨u,t,m,ms,ts,rfl,N,hml,hT,hm,heq⟩
    walk_at"s"
    rw [show (w0+1).toNat - (w0 - 1 - -2).toNat=0 by lia] at heq
    rw [heq] at k
    simp only [rr,List.append_nil] at k
    exact k l ts H3 N
def spLeastRowE (CT CS:Addr):Sp:=fun vs H Q E=>∃ (a b c:Addr) (ps ws gs:List Int) (hd e:Int),vs=[.ref a,.int hd,.ref b,.int e,.ref c]/\H a=some (.lst (iL ps))/\H b=some (.lst (iL ws))/\H c=some (.lst (iL gs))/\(isTr ps->stand ps hd ws->stand ps e gs ->
 ∀ l H',NewI H H' l (toldRow ps hd ws e gs)->Q (.ref l) H')/\ExE E H CT CS ps ws gs hd e
theorem Oq53 (T:Txt mg) (Z:Cls K mg) (D:Def K mg "least_row" Gq53) (Cq52:CalleeE P w K mg base "paper_of" 7 (spPaperE Z.jAb Z.jAc)) (Cq46:Callee P w K mg base "must_place" 5 spMustPlace):CalleeE P w K mg base "least_row" 8 (spLeastRowE Z.jAb Z.jAc):=by
 refine Def.okE D Uq53 Jq53 (fun vs H Q E h=>?len) (fun f cdv A outer s H vs Q E hr h=>?body)
 case len=>obtain⟨a,b,c,ps,ws,gs,hd,e,rfl,_⟩:=h; rfl
 case body =>
  obtain⟨a,b,c,ps,ws,gs,hd,e,rfl,hA,hB,hC,k,x⟩:=h
  refine⟨_,(pss_cons (psS 5 Uq53.nd (pe_callE Cq52 (hr.mono (by decide)) (by rfl) (pa_cons (pv 0) (pa_cons (pv 1) (pa_cons (pv 2) (pa_cons (pv 3) (pa_cons (pv 4) pa_nil)))))))
 (pss_one (ps_ret (by exact pe_comp (N:=["must", "plays", "end", "goal"]) (fr:=[none,some 0,some 3,some 4]) ⟨by rfl,by decide+kernel,by decide+kernel,(show ∀ y∈(_:List (Str×NameKind)),y.2=NameKind.free->(defScope Gq53).names.lookup y.1=some .cell\/(defScope Gq53).names.lookup y.1=some .free by decide+kernel),(fr_none (fr_some (by rfl) (by first | exact Or.inl rfl | exact Or.inr rfl) (by rfl) (fr_some (by rfl) (by first | exact Or.inl rfl | exact Or.inr rfl) (by rfl) (fr_some (by rfl) (by first | exact Or.inl rfl | exact Or.inr rfl) (by rfl) fr_nil))))⟩ (by rfl) (pi_listK K (pv 5)) (fun _ _ _ _=>(pg_name (i:=0) (show List.Nodup (["must", "plays", "end", "goal"]:List Str) by decide) (by rfl) (by first | exact Or.inl rfl | exact Or.inr rfl))) (fun _ _ _ _=>pifs_nil) (fun _ _ _ _=>(pe_callN Cq46 (hr.mono (by decide)) (by rfl) (pa_cons (pv 1) (pa_cons (pv 2) (pa_cons (pv 3) (pa_cons (pv 0) pa_nil)))))) (gw_name (by rfl)))))),?_⟩
  walk_at"un"
  try clear hu
  walk_at"s"
  refine⟨a,b,c,ps,ws,gs,hd,e,rfl,hA,hB,hC,fun ht hs hg l ts H1 N=>?_,x⟩
  have k:=k ht hs hg
  have h12:=ht.2.1
  walk_at"s"
  have hpl:(told ps hd ws e gs).length<=ps.length+1:=paper_length
  have htl:ts.length<=13:=by rw [N.it.length]; lia
  have hok:=isPap_ok (paper_isPap (n:=ps.length) (D:=pc (depths 0 ps) 0) (F:=pc ws hd) (G:=pc gs e))
  refine⟨⟨_,SqL.of N.at_⟩,cp_list (xs:=ts.map V.ref) (fun i ys H2=>ys=iL ((toldRow ps hd ws e gs).take i)/\i<=ts.length/\Same H1 H2) ⟨by simp,Nat.zero_le _,Same.refl _⟩ ?_ (szlt (by simp; lia)) ?_ ?_⟩
  ·rintro i ys H2 ⟨rfl,hi,sm⟩
   exact⟨SqL.of (sm _ _ N.at_),by simp [iL]; lia⟩
  ·rintro i x ys H2 hx ⟨rfl,hi,sm⟩
   rw [List.getElem?_map] at hx
   obtain⟨t,hti,rfl⟩:=Option.map_eq_some_iff.mp hx
   obtain⟨m,hmi,hT⟩:=paired_getL N.it hti
   have hil:i<ts.length:=(List.getElem?_eq_some_iff.mp hti).1
   walk_at"s"
   refine⟨a,c,t,ps,gs,e,m,rfl,sm _ _ (N.sm _ _ hA),sm _ _ (N.sm _ _ hC),sm _ _ hT,ht,hg,hok m (List.mem_of_getElem? hmi),fun H3 s3=>?_⟩
   refine⟨?_,by lia,sm.trans s3⟩
   have:(toldRow ps hd ws e gs)[i]? = some (mp (pc (depths 0 ps) 0) (pc gs e) m):=by
    unfold toldRow; rw [List.getElem?_map,hmi]; rfl
   rw [List.take_add_one,this]
   simp [iL]
  ·rintro l2 ys H2 ⟨rfl,hi,sm⟩ hl2
   have e1:(ts.map V.ref).length=(toldRow ps hd ws e gs).length:=by unfold toldRow; rw [List.length_map,List.length_map,N.it.length]
   rw [e1,List.take_of_length_le (Nat.le_refl _)]
   have sA:=N.sm.trans sm
   exact k l2 _ ⟨sA.free hl2,sA.trans (same_upd hl2),upd_same⟩
def spLeastOfE (CT CS:Addr):Sp:=fun vs H Q E=>∃ (a b c:Addr) (ps ws gs:List Int) (hd e:Int),vs=[.ref a,.int hd,.ref b,.int e,.ref c]/\H a=some (.lst (iL ps))/\H b=some (.lst (iL ws))/\H c=some (.lst (iL gs))/\(isTr ps->stand ps hd ws->stand ps e gs ->
 ∀ H',Same H H'->Q (.int (way hd (toldRow ps hd ws e gs))) H')/\ExE E H CT CS ps ws gs hd e
theorem toldRow_length {ps ws gs:List Int} {hd e:Int}:(toldRow ps hd ws e gs).length<=ps.length+1:=by
 unfold toldRow; rw [List.length_map]; exact paper_length
theorem Oq54 (T:Txt mg) (Z:Cls K mg) (D:Def K mg "least_of" Gq54) (Cq50:Callee P w K mg base "way_of" 1 spWay) (Cq53:CalleeE P w K mg base "least_row" 8 (spLeastRowE Z.jAb Z.jAc)):CalleeE P w K mg base "least_of" 9 (spLeastOfE Z.jAb Z.jAc):=by
 refine Def.okE D Uq54 Jq54 (fun vs H Q E h=>?len) (fun f cdv A outer s H vs Q E hr h=>?body)
 case len=>obtain⟨a,b,c,ps,ws,gs,hd,e,rfl,_⟩:=h; rfl
 case body =>
  obtain⟨a,b,c,ps,ws,gs,hd,e,rfl,hA,hB,hC,k,x⟩:=h
  have hrl:(toldRow ps hd ws e gs).length<=ps.length+1:=toldRow_length
  refine⟨_,(pss_one (ps_ret (pe_callN Cq50 (hr.mono (by decide)) (by rfl) (pa_cons (pe_op op_addP (pe_lst (pa_cons (pv 1) pa_nil)) (pe_callE Cq53 (hr.mono (by decide)) (by rfl) (pa_cons (pv 0) (pa_cons (pv 1) (pa_cons (pv 2) (pa_cons (pv 3) (pa_cons (pv 4) pa_nil))))))) pa_nil)))),?_⟩
  walk_at"un"
  try clear hu
  walk_at"s"
  intro g hg1
  have s2:Same H _:=same_upd (o:=.lst [V.int hd]) hg1
  have e2:upd H g (.lst [V.int hd]) g=some (.lst [V.int hd]):=upd_same
  generalize upd H g (.lst [V.int hd])=H2 at *
  walk_at"s"
  refine⟨a,b,c,ps,ws,gs,hd,e,rfl,s2 _ _ hA,s2 _ _ hB,s2 _ _ hC,fun ht hs hg l H3 N3=>?_,x.on s2⟩
  have k:=k ht hs hg
  have h12:=ht.2.1
  refine i_addL (xs:=[V.int hd]) (ys:=iL (toldRow ps hd ws e gs)) (N3.sm _ _ e2) N3.at_ (by simp [iL]; exact szl (by lia)) (fun l5 hl5=>?_)
  refine⟨l5,hd :: toldRow ps hd ws e gs,rfl,by rw [upd_same]; rfl,by simp; lia,fun H6 s6=>?_⟩
  exact k _ (((s2.trans N3.sm).trans (same_upd hl5)).trans s6)
def trainX (ps:List Int) (hd:Int) (ws:List Int):Str:=Str.join ⟨#[10]⟩ [("plays " : Str)++Str.join ⟨#[32]⟩ (ps.map tx),("at " : Str)++Str.join ⟨#[32]⟩ ((hd :: ws).map tx)]
def spTrainX (K:PySem.W.Frag):Sp:=fun vs H Q _=>∃ (t:Addr) (v:V) (ps ws gs:List Int) (hd:Int),vs=[.ref t,v]/\SAt H t ps hd ws gs/\isTr ps/\stand ps hd ws/\Small hd/\(∀ n∈ps,Small n)/\(∀ n∈ws,Small n)/\∀ H',Same H H'->Q (.str (trainX ps hd ws)) H'
theorem Oq55 (T:Txt mg) (Z:Cls K mg) (D:Def K mg "train_text" Gq55) (Cq43:CalleeE P w K mg base "shown" 5 (spShown Z.jAb Z.jAc)):CalleeE P w K mg base "train_text" 6 (spTrainX K):=by
 refine Def.okE D Uq55 Jq55 (fun vs H Q E h=>?len) (fun f cdv A outer s H vs Q E hr h=>?body)
 case len=>obtain⟨t,v,ps,ws,gs,hd,rfl,_⟩:=h; rfl
 case body =>
  obtain⟨t,v,ps,ws,gs,hd,rfl,⟨lp,lw,lg,hT,hP,hW,hG⟩,ht,hs,z1,z2,z3,k⟩:=h
  walk_at"z4"
  refine⟨_,(pss_cons (ps_asg (pv 0) (pg_tupK K 4 (pgs_cons (pg_name (i:=2) Uq55.nd rfl (Or.inl rfl)) (pgs_cons (pg_name (i:=3) Uq55.nd rfl (Or.inl rfl)) (pgs_cons (pg_name (i:=4) Uq55.nd rfl (Or.inl rfl)) (pgs_cons (pg_name (i:=5) Uq55.nd rfl (Or.inl rfl)) pgs_nil))))))
 (pss_one (ps_ret (pe_callE Cq43 (hr.mono (by decide)) (by rfl) (pa_cons (pv 2) (pa_cons (pv 3) (pa_cons (pv 4) pa_nil))))))),?_⟩
  walk_at"un"
  try clear hu
  walk_at"s"
  walk_at"z1"
  walk_at"s"
  exact⟨lp,lw,ps,ws,hd,rfl,hP,hW,z1,z2,z3,fun _ _ H3 s3=>k _ s3,Exs.no' ht hs⟩
def leastX (ps:List Int) (hd:Int) (ws:List Int) (e:Int) (goal:List Int):Str:=Str.join ⟨#[32]⟩ ((way hd (toldRow ps hd ws e goal) :: toldRow ps hd ws e goal).map tx)
theorem exE_of {E:XK} {H:Hp} {CT CS:Addr} {ps ws goal:List Int} {hd e:Int} (ht:isTr ps) (hs:stand ps hd ws) (h:¬ stand ps e goal->∀ H',Same H H'->E (.ref CS) none H'):ExE E H CT CS ps ws goal hd e:=⟨fun z=>absurd ht z,fun _ z H' s'=>h (fun y=>z ⟨hs,y⟩) _ s'⟩
def spLeastX (K:PySem.W.Frag) (CS:Addr):Sp:=fun vs H Q E=>∃ (t l:Addr) (ps ws gs goal:List Int) (hd e:Int),vs=[.ref t,.ref l]/\SAt H t ps hd ws gs/\H l=some (.lst (iL (e :: goal)))/\isTr ps/\stand ps hd ws/\(stand ps e goal->∀ n∈way hd (toldRow ps hd ws e goal) :: toldRow ps hd ws e goal,Small n)/\(stand ps e goal->∀ H',Same H H'->Q (.str (leastX ps hd ws e goal)) H')/\(¬ stand ps e goal->∀ H',Same H H'->E (.ref CS) none H')
theorem Oq56 (T:Txt mg) (Z:Cls K mg) (D:Def K mg "least_text" Gq56) (Cq53:CalleeE P w K mg base "least_row" 8 (spLeastRowE Z.jAb Z.jAc)) (Cq54:CalleeE P w K mg base "least_of" 9 (spLeastOfE Z.jAb Z.jAc)) (Cq28:Callee P w K mg base "written" 1 (spWritten K)):CalleeE P w K mg base "least_text" 10 (spLeastX K Z.jAc):=by
 refine Def.okE D Uq56 Jq56 (fun vs H Q E h=>?len) (fun f cdv A outer s H vs Q E hr h=>?body)
 case len=>obtain⟨t,l,ps,ws,gs,goal,hd,e,rfl,_⟩:=h; rfl
 case body =>
  obtain⟨t,l,ps,ws,gs,goal,hd,e,rfl,⟨lp,lw,lg,hT,hP,hW,hG⟩,hL,ht,hs,hz,k,kx⟩:=h
  walk_at"z4"
  have h12:=ht.2.1
  refine⟨_,(pss_cons (ps_asg (pv 0) (pg_tupK K 4 (pgs_cons (pg_name (i:=2) Uq56.nd rfl (Or.inl rfl)) (pgs_cons (pg_name (i:=3) Uq56.nd rfl (Or.inl rfl)) (pgs_cons (pg_name (i:=4) Uq56.nd rfl (Or.inl rfl)) (pgs_cons (pg_name (i:=5) Uq56.nd rfl (Or.inl rfl)) pgs_nil))))))
 (pss_cons (ps_asg (pv 1) (pg_starK K 1 (pgs_cons (pg_name (i:=6) Uq56.nd rfl (Or.inl rfl)) (pgs_star (pg_name (i:=7) Uq56.nd rfl (Or.inl rfl)) pgs_nil))))
 (pss_cons (psS 8 Uq56.nd (pe_callE Cq53 (hr.mono (by decide)) (by rfl) (pa_cons (pv 2) (pa_cons (pv 3) (pa_cons (pv 4) (pa_cons (pv 6) (pa_cons (pv 7) pa_nil)))))))
 (pss_one (ps_ret (pe_callN Cq28 (hr.mono (by decide)) (by rfl) (pa_cons (pe_op op_addP (pe_lst (pa_cons (pe_callE Cq54 (hr.mono (by decide)) (by rfl) (pa_cons (pv 2) (pa_cons (pv 3) (pa_cons (pv 4) (pa_cons (pv 6) (pa_cons (pv 7) pa_nil)))))) pa_nil)) (pv 8)) pa_nil))))))),?_⟩
  walk_at"un"
  try clear hu
  walk_at"s"
  walk_at"z1"
  walk_at"s"
  refine⟨l,_,rfl,SqL.of hL,by simp [iL],fun l4 h4=>⟨_,_,rfl,_,_,rfl,rfl,?_⟩⟩
  have e4:upd H l4 (.lst ((iL (e :: goal)).drop 1)) l4=some (.lst (iL goal)):=by rw [upd_same]; rfl
  have s4:Same H _:=same_upd (o:=.lst ((iL (e :: goal)).drop 1)) h4
  generalize upd H l4 (.lst ((iL (e :: goal)).drop 1))=H4 at *
  have exx:∀ {H'},Same H H'->ExE E H' Z.jAb Z.jAc ps ws goal hd e:=fun s'=>exE_of ht hs fun hn H5 s5=>kx hn _ (s'.trans s5)
  walk_at"s"
  refine⟨lp,lw,l4,ps,ws,goal,hd,e,rfl,s4 _ _ hP,s4 _ _ hW,e4,fun _ _ hg l5 H5 N5=>?_,exx s4⟩
  have S5:=s4.trans N5.sm
  have hrl:(toldRow ps hd ws e goal).length<=ps.length+1:=toldRow_length
  walk_at"s"
  refine⟨lp,lw,l4,ps,ws,goal,hd,e,rfl,S5 _ _ hP,S5 _ _ hW,N5.sm _ _ e4,fun _ _ _ H6 s6=>?_,exx S5⟩;walk_at"s"
  intro q7 h7
  have s7:Same H6 _:=same_upd (o:=.lst [.int (way hd (toldRow ps hd ws e goal))]) h7
  have e7:upd H6 q7 (.lst [.int (way hd (toldRow ps hd ws e goal))]) q7=some (.lst [.int (way hd (toldRow ps hd ws e goal))]):=upd_same
  generalize upd H6 q7 (.lst [.int (way hd (toldRow ps hd ws e goal))])=H7 at *
  walk_at"s"
  refine i_addL e7 (s7 _ _ (s6 _ _ N5.at_)) (szl (by simp [iL]; lia)) (fun q8 h8=>?_)
  have s8:Same H7 _:=same_upd (o:=.lst ([.int (way hd (toldRow ps hd ws e goal))]++iL (toldRow ps hd ws e goal))) h8
  have e8:upd H7 q8 (.lst ([.int (way hd (toldRow ps hd ws e goal))]++iL (toldRow ps hd ws e goal))) q8=some (.lst (iL (way hd (toldRow ps hd ws e goal) :: toldRow ps hd ws e goal))):=by rw [upd_same]; rfl
  generalize upd H7 q8 (.lst ([.int (way hd (toldRow ps hd ws e goal))]++iL (toldRow ps hd ws e goal)))=H8 at *
  walk_at"s"
  exact⟨q8,_,rfl,SqL.of e8,hz hg,by simp; lia,fun H9 s9=>k hg _ (S5.trans (s6.trans (s7.trans (s8.trans s9))))⟩
abbrev wordsX (ns:List Int):Str:=Str.join ⟨#[32]⟩ (ns.map tx)
inductive Oc where
 | bad (n:Str)
 | told (x:Str)
 | done (ss:List DS)
open Classical in
noncomputable def actO (ss:List DS) (word:Str) (ns:List Int):Oc :=
 if word = "plays" then (if isTr ns then .done (ss++[(ns,0,zeros ns.length,zeros ns.length)]) else .bad "NoTrain")
 else match ss.getLast? with
  | none=>.bad "NoRow"
  | some (ps,hd,ws,gs) =>
    if word = "at" then (if stand ps (ns.headD 0) ns.tail then .done (ss++[(ps,ns.headD 0,ns.tail,zeros ps.length)]) else .bad "NoStand")
    else if word = "turn" then .done (ss++[(ps,lastOf hd ns,endW ps ws ns,farL gs (ws :: runs ps ws ns))])
    else if word = "least" then (if stand ps (ns.headD 0) ns.tail then .told (leastX ps hd ws (ns.headD 0) ns.tail) else .bad "NoStand")
    else if word = "where" then .told (wordsX (hd :: ws))
    else if word = "ways" then .told (wordsX gs)
    else if word = "text" then .told (trainX ps hd ws)
    else .bad "NoRow"
theorem row_uni {row w1 w2:Str} {n1 n2:List Int} (h1:RowOk row w1 n1) (h2:RowOk row w2 n2):w1=w2/\n1=n2:=by
 obtain⟨r1,z1,_,z2⟩:=h1
 obtain⟨r2,z3,_,z4⟩:=h2
 rw [z1] at z3
 cases z3
 exact⟨rfl,by rw [z2,z4]⟩
open Classical in
noncomputable def sayO (ss:List DS) (row:Str):Oc:=if h:∃ p:Str×List Int,RowOk row p.1 p.2 then actO ss h.choose.1 h.choose.2 else .bad "NoRow"
theorem sayO_ok {ss:List DS} {row word:Str} {ns:List Int} (h:RowOk row word ns):sayO ss row=actO ss word ns:=by
 have hx:∃ p:Str×List Int,RowOk row p.1 p.2:=⟨(word,ns),h⟩
 unfold sayO
 rw [dif_pos hx]
 obtain⟨e1,e2⟩:=row_uni hx.choose_spec h
 rw [e1,e2]
theorem sayO_no {ss:List DS} {row:Str} (h:∀ word ns,¬ RowOk row word ns):sayO ss row=.bad "NoRow" := by
 unfold sayO
 rw [dif_neg fun ⟨p,z⟩=>h _ _ z]
section
variable {ss:List DS} {ns ps ws gs:List Int} {hd:Int} {word:Str}
open Classical in
theorem act_plays:actO ss "plays" ns=if isTr ns then .done (ss++[(ns,0,zeros ns.length,zeros ns.length)]) else .bad "NoTrain" := by unfold actO; rw [if_pos rfl]
theorem act_nil (h2:word ≠ "plays"):actO [] word ns=.bad "NoRow" := by unfold actO; rw [if_neg h2]; rfl
open Classical in
theorem act_some (h2:word ≠ "plays"):actO (ss++[(ps,hd,ws,gs)]) word ns=if word = "at" then (if stand ps (ns.headD 0) ns.tail then .done (ss++[(ps,hd,ws,gs)]++[(ps,ns.headD 0,ns.tail,zeros ps.length)]) else .bad "NoStand")
 else if word = "turn" then .done (ss++[(ps,hd,ws,gs)]++[(ps,lastOf hd ns,endW ps ws ns,farL gs (ws :: runs ps ws ns))])
 else if word = "least" then (if stand ps (ns.headD 0) ns.tail then .told (leastX ps hd ws (ns.headD 0) ns.tail) else .bad "NoStand")
 else if word = "where" then .told (wordsX (hd :: ws))
 else if word = "ways" then .told (wordsX gs)
 else if word = "text" then .told (trainX ps hd ws)
 else .bad "NoRow" := by
 unfold actO
 rw [if_neg h2,List.getLast?_concat]
open Classical in
theorem act_at:actO (ss++[(ps,hd,ws,gs)]) "at" ns=if stand ps (ns.headD 0) ns.tail then .done (ss++[(ps,hd,ws,gs)]++[(ps,ns.headD 0,ns.tail,zeros ps.length)]) else .bad "NoStand" := by
 rw [act_some (by decide+kernel),if_pos rfl]
theorem act_turn:actO (ss++[(ps,hd,ws,gs)]) "turn" ns=.done (ss++[(ps,hd,ws,gs)]++[(ps,lastOf hd ns,endW ps ws ns,farL gs (ws :: runs ps ws ns))]):=by
 rw [act_some (by decide+kernel),if_neg (by decide+kernel),if_pos rfl]
open Classical in
theorem act_least:actO (ss++[(ps,hd,ws,gs)]) "least" ns=if stand ps (ns.headD 0) ns.tail then .told (leastX ps hd ws (ns.headD 0) ns.tail) else .bad "NoStand" := by
 rw [act_some (by decide+kernel),if_neg (by decide+kernel),if_neg (by decide+kernel),if_pos rfl]
theorem act_where:actO (ss++[(ps,hd,ws,gs)]) "where" ns=.told (wordsX (hd :: ws)):=by
 rw [act_some (by decide+kernel),if_neg (by decide+kernel),if_neg (by decide+kernel),if_neg (by decide+kernel),if_pos rfl]
theorem act_ways:actO (ss++[(ps,hd,ws,gs)]) "ways" ns=.told (wordsX gs):=by
 rw [act_some (by decide+kernel),if_neg (by decide+kernel),if_neg (by decide+kernel),if_neg (by decide+kernel),if_neg (by decide+kernel),if_pos rfl]
theorem act_text:actO (ss++[(ps,hd,ws,gs)]) "text" ns=.told (trainX ps hd ws):=by
 rw [act_some (by decide+kernel),if_neg (by decide+kernel),if_neg (by decide+kernel),if_neg (by decide+kernel),if_neg (by decide+kernel),if_neg (by decide+kernel),if_pos rfl]
theorem act_done {s':DS} (h:DoneR ss word ns s'):actO ss word ns=.done (ss++[s']):=by
 rcases h with ⟨rfl,h1,rfl⟩ | ⟨ss0,ps,hd,ws,gs,rfl,⟨rfl,e,goal,rfl,h1,rfl⟩ | ⟨rfl,h1,rfl⟩⟩
 ·rw [act_plays,if_pos h1]
 ·rw [act_at,if_pos (by exact h1)]
  rfl
 ·rw [act_turn]
end
theorem zip_snoc:∀ (L:List (List Int)) (y x:List Int),L.getLast? = some y->(L++[x]).zip (L++[x]).tail=L.zip L.tail++[(y,x)]
 | [],_,_,h=>by cases h
 | [a],y,x,h=>by
   simp at h
   subst h
   rfl
 | a :: b :: r,y,x,h=>by
   have ih:=zip_snoc (b :: r) y x (by rwa [List.getLast?_cons_cons] at h)
   show (a,b) :: ((b :: r++[x]).zip (b :: r++[x]).tail)=(a,b) :: ((b :: r).zip (b :: r).tail++[(y,x)])
   rw [ih]
theorem farL_snoc {gs:List Int} {L:List (List Int)} {y x:List Int} (h:L.getLast? = some y):farL gs (L++[x])=fart (farL gs L) y x:=by
 unfold farL
 rw [zip_snoc L y x h,List.foldl_append]
 rfl
theorem runs_lastA {ps:List Int} (row ws:List Int):(ws :: runs ps ws row).getLast? = some (endW ps ws row):=by
 cases row with
 | nil=>rfl
 | cons c r=>exact runs_lastE (c :: r) ws (by simp)
theorem far_snoc {ps ws gs row:List Int} {c:Int}:farL gs (ws :: runs ps ws (row++[c]))=fart (farL gs (ws :: runs ps ws row)) (endW ps ws row) (dragAll ps (endW ps ws row) c):=by
 rw [runs_append,<- List.cons_append]
 show farL gs ((ws :: runs ps ws row)++[dragAll ps (endW ps ws row) c])=_
 exact farL_snoc (runs_lastA row ws)
theorem farL_len {gs:List Int} {L:List (List Int)} {n:Nat} (hg:gs.length=n) (hL:∀ x∈L,x.length=n):(farL gs L).length=n:=by
 rw [<- farT_all gs L (n:=L.length) (by lia)]
 exact farT_len hg hL _
theorem far_len {ps ws gs row:List Int} (hw:ws.length=ps.length) (hg:gs.length=ps.length):(farL gs (ws :: runs ps ws row)).length=ps.length :=
 farL_len hg fun x hx=>by
  rcases List.mem_cons.mp hx with rfl | hx
  ·exact hw
  ·exact runs_len row ws hw x hx
theorem act_ok {ss:List DS} {word:Str} {ns:List Int} {s':DS} (ho:∀ s∈ss,SOkS s) (h:actO ss word ns=.done (ss++[s'])):SOkS s':=by
 by_cases hp:word = "plays"
 ·subst hp
  rw [act_plays] at h
  split at h
  ·rename_i ht
   rw [<- (List.cons.inj (List.append_cancel_left (Oc.done.inj h))).1]
   exact⟨ht,stand_zeros ht,by simp⟩
  ·cases h
 rcases List.eq_nil_or_concat ss with rfl | ⟨ss0,⟨ps,hd,ws,gs⟩,rfl⟩
 ·rw [act_nil hp] at h
  cases h
 rw [List.concat_eq_append] at h ho
 have ok:=ho (ps,hd,ws,gs) (by simp)
 have hgl:gs.length=ps.length:=ok.2.2
 have hwl:ws.length=ps.length:=ok.2.1.1
 rw [act_some hp] at h
 split at h
 ·split at h
  ·rename_i _ hst
   rw [<- (List.cons.inj (List.append_cancel_left (Oc.done.inj h))).1]
   exact⟨ok.1,hst,by simp⟩
  ·cases h
 split at h
 ·rw [<- (List.cons.inj (List.append_cancel_left (Oc.done.inj h))).1]
  exact⟨ok.1,endW_stand ok.1 ok.2.1,by show (farL gs (ws :: runs ps ws ns)).length=ps.length; exact far_len hwl hgl⟩
 split at h
 ·split at h <;> cases h
 split at h
 ·cases h
 split at h
 ·cases h
 split at h <;> cases h
def xNames:List Str:=["NoTrain", "NoStand", "NoRow"]
def clsN (Z:Cls K mg) (n:Str):Addr:=if n = "NoTrain" then Z.jAb else if n = "NoStand" then Z.jAc else Z.jAj
theorem cls_T (Z:Cls K mg):clsN Z "NoTrain" = Z.jAb:=if_pos rfl
theorem cls_S (Z:Cls K mg):clsN Z "NoStand" = Z.jAc:=by unfold clsN; rw [if_neg (by decide+kernel),if_pos rfl]
theorem cls_R (Z:Cls K mg):clsN Z "NoRow" = Z.jAj:=by unfold clsN; rw [if_neg (by decide+kernel),if_neg (by decide+kernel)]
theorem act_bad {Z:Cls K mg} {ss:List DS} {word:Str} {ns:List Int} {X:Addr} (h:DeedX Z ss word ns X):∃ n,actO ss word ns=.bad n/\X=clsN Z n:=by
 rcases h with ⟨rfl,h1,rfl⟩ | ⟨h1,rfl,rfl⟩ | ⟨ss0,ps,hd,ws,gs,rfl,rfl,e,goal,rfl,h1,rfl⟩
 ·exact⟨"NoTrain", by rw [act_plays,if_neg h1],(cls_T Z).symm⟩
 ·exact⟨"NoRow", act_nil h1,(cls_R Z).symm⟩
 ·exact⟨"NoStand", by rw [act_at,if_neg (by exact h1)],(cls_S Z).symm⟩
theorem act_name {ss:List DS} {word:Str} {ns:List Int} {n:Str} (h:actO ss word ns=.bad n):n∈xNames:=by
 unfold actO at h
 unfold xNames
 split at h
 ·split at h
  ·cases h
  ·cases h; decide+kernel
 split at h
 ·cases h; decide+kernel
 ·repeat' split at h
  all_goals first | (cases h; done) | (cases h; decide+kernel)
theorem say_name {ss:List DS} {row n:Str} (h:sayO ss row=.bad n):n∈xNames:=by
 unfold sayO at h
 split at h
 ·exact act_name h
 ·cases h; decide+kernel
def SmallG (ss:List DS) (word:Str) (ns:List Int):Prop:=∀ ss0 ps hd ws gs,ss=ss0++[(ps,hd,ws,gs)]->Small hd/\(∀ n∈ps,Small n)/\(∀ n∈ws,Small n)/\(∀ n∈gs,Small n)/\(word = "least" -> stand ps (ns.headD 0) ns.tail->∀ n∈way hd (toldRow ps hd ws (ns.headD 0) ns.tail) :: toldRow ps hd ws (ns.headD 0) ns.tail,Small n)
def spTellG (C:Addr) (Z:Cls K mg):Sp:=fun vs H Q E=>∃ (p ls l:Addr) (ts:List Addr) (ss:List DS) (word:Str) (ns:List Int),vs=[.ref p,.str word,.ref l]/\DkAt C H p ls ts ss/\H l=some (.lst (iL ns))/\(word = "where" \/ word = "ways" \/ word = "text" \/ (word = "least" /\ ns≠[]))/\SmallG ss word ns/\(∀ x,actO ss word ns=.told x->∀ H',Same H H'->Q (.str x) H')/\(∀ n,actO ss word ns=.bad n->∀ H',Same H H'->E (.ref (clsN Z n)) none H')
theorem Oq9 (T:Txt mg) (Z:Cls K mg) (Y:Own K mg) (M:Tabs w K mg) (D:DefM K Y.jDe "tell" "Desk.tell" Gq9) (Cq40:Callee P w K mg base "where_text" 2 (spWhere K)) (Cq41:Callee P w K mg base "ways_text" 2 (spWays K)) (Cq55:CalleeE P w K mg base "train_text" 6 (spTrainX K)) (Cq56:CalleeE P w K mg base "least_text" 10 (spLeastX K Z.jAc)) (Cq10:CalleeM (CXE P w) P w K mg base Y.jDe "state" 1 (spStateE Y.jDe Z.jAj)):CalleeM (CXE P w) P w K mg base Y.jDe "tell" 11 (spTellG Y.jDe Z):=by
 refine DefM.okE D Uq9 Jq9 (fun vs H Q E h=>?len) (fun f cdv A outer s H vs Q E hr h=>?body)
 case len=>obtain⟨p,ls,l,ts,ss,word,ns,rfl,_⟩:=h; rfl
 case body =>
  obtain⟨p,ls,l,ts,ss,word,ns,rfl,W,hL,hw,hsm,k,kx⟩:=h
  obtain⟨dx,ep⟩:=W.ob
  walk_at"z4"
  refine⟨_,(pss_cons (psS 3 Uq9.nd (pe_mget (by rfl) M.m_ANSWERS M.d_ANSWERS (pv 1) (by exact fun _ _=>rfl)))
 (pss_one (ps_ret (pe_callV (k:=10) (pv 3) (hr.mono (by decide)) (pass_exc fun _ _ _ z=>z) (pa_cons (pe_meth0E Cq10 Y.cl_Desk (pv 0) (hr.mono (by decide))) (pa_cons (pv 2) pa_nil)))))),?_⟩
  walk_at"un"
  try clear hu
  have dg:∀ fn,answersT.lookup word=some fn->∃ a,M.v_ANSWERS.lookup word=some (.ref a)/\mg fn=some (.ref a):=fun fn hf=>by
   rcases row_get (R:=fun (r:Str) v=>∃ a,v=.ref a/\mg r=some (.ref a)) word M.p_ANSWERS with ⟨z,_⟩ | ⟨r,v,z1,z2,a,rfl,z3⟩
   ·rw [hf] at z
    cases z
   ·rw [hf] at z1
    cases z1
    exact⟨a,z2,z3⟩
  walk_at"s"
  rcases hw with rfl | rfl | rfl | ⟨rfl,hn⟩
  ·obtain⟨a,d1,d2⟩:=dg "where_text" (by decide+kernel)
   refine⟨_,_,rfl,d1,?_⟩;walk_at"s"
   refine⟨a,_,rfl,CalleeE.at Cq40.toE (by decide) d2,?_⟩;walk_at"s"
   walk_at"z0"
   obtain⟨ps,hd,ws,gs⟩:=s0
   obtain⟨m1,m2,m3,m4,_⟩:=hsm ss' ps hd ws gs hss
   have h12:ps.length<=12:=hok.1.2.1
   have hwl:ws.length=ps.length:=hok.2.1.1
   walk_at"s"
   refine⟨t0,_,ps,ws,gs,hd,rfl,hsa,fun n hn=>?_,by lia,fun H2 s2=>k _ (by rw [hss,act_where]) _ s2⟩
   rcases List.mem_cons.mp hn with rfl | hn
   ·exact m1
   ·exact m3 n hn
  ·obtain⟨a,d1,d2⟩:=dg "ways_text" (by decide+kernel)
   refine⟨_,_,rfl,d1,?_⟩;walk_at"s"
   refine⟨a,_,rfl,CalleeE.at Cq41.toE (by decide) d2,?_⟩;walk_at"s"
   walk_at"z0"
   obtain⟨ps,hd,ws,gs⟩:=s0
   obtain⟨m1,m2,m3,m4,_⟩:=hsm ss' ps hd ws gs hss
   have h12:ps.length<=12:=hok.1.2.1
   have hgl:gs.length=ps.length:=hok.2.2
   walk_at"s"
   exact⟨t0,_,ps,ws,gs,hd,rfl,hsa,m4,by lia,fun H2 s2=>k _ (by rw [hss,act_ways]) _ s2⟩
  ·obtain⟨a,d1,d2⟩:=dg "train_text" (by decide+kernel)
   refine⟨_,_,rfl,d1,?_⟩;walk_at"s"
   refine⟨a,_,rfl,CalleeE.at Cq55 (by decide) d2,?_⟩;walk_at"s"
   walk_at"z0"
   obtain⟨ps,hd,ws,gs⟩:=s0
   obtain⟨m1,m2,m3,m4,_⟩:=hsm ss' ps hd ws gs hss
   walk_at"s"
   exact⟨t0,_,ps,ws,gs,hd,rfl,hsa,hok.1,hok.2.1,m1,m2,m3,fun H2 s2=>k _ (by rw [hss,act_text]) _ s2⟩
  ·obtain⟨a,d1,d2⟩:=dg "least_text" (by decide+kernel)
   refine⟨_,_,rfl,d1,?_⟩;walk_at"s"
   refine⟨a,_,rfl,CalleeE.at Cq56 (by decide) d2,?_⟩;walk_at"s"
   walk_at"z0"
   obtain⟨ps,hd,ws,gs⟩:=s0
   obtain⟨m1,m2,m3,m4,m5⟩:=hsm ss' ps hd ws gs hss
   obtain⟨e,goal,rfl⟩:∃ e goal,ns=e :: goal:=by
    cases ns with
    | nil=>exact absurd rfl hn
    | cons a b=>exact⟨a,b,rfl⟩
   walk_at"s"
   refine⟨t0,l,ps,ws,gs,goal,hd,e,rfl,hsa,hL,hok.1,hok.2.1,m5 rfl,fun g H2 s2=>k _ (by rw [hss,act_least]; exact if_pos g) _ s2,fun g H2 s2=>?_⟩
   have:=kx _ (by rw [hss,act_least]; exact if_neg g) H2 s2
   rwa [cls_S] at this
theorem But.of {q:Addr} {H H1 H2:Hp} (s:Same H H1) (b:But q H1 H2):But q H H2:=fun c o e n=>b c o (s _ _ e) n
theorem lookup_mem {α:Type}:∀ {ts:List (Str×α)} {x:Str} {v:α},ts.lookup x=some v->(x,v)∈ts
 | [],_,_,h=>by cases h
 | (k,r) :: ts,x,v,h=>by
   rw [List.lookup_cons] at h
   by_cases e:(x == k)=true
   ·rw [e] at h
    obtain rfl:r=v:=Option.some.inj h
    rw [eq_of_beq e]
    simp
   ·rw [Bool.not_eq_true] at e
    rw [e] at h
    exact List.mem_cons_of_mem _ (lookup_mem h)
theorem forms_get {word:Str} {l:Nat} {m:Option Nat} (h:formsT.lookup word=some (l,m)):(word = "plays" /\ l=1/\m=none)\/(word = "at" /\ l=2/\m=none)\/(word = "turn" /\ l=1/\m=none)\/(word = "where" /\ l=0/\m=some 0)\/(word = "ways" /\ l=0/\m=some 0)\/(word = "least" /\ l=2/\m=none)\/(word = "text" /\ l=0/\m=some 0)\/(word = "grab" /\ l=2/\m=some 2)\/(word = "range" /\ l=2/\m=some 2)\/(word = "back" /\ l=0/\m=some 0):=by
 have:=lookup_mem h
 unfold formsT at this
 simpa only [List.mem_cons,Prod.mk.injEq,List.not_mem_nil,or_false] using this
theorem deeds_get {word fn:Str} (h:deedsT.lookup word=some fn):word = "plays" \/ word = "at" \/ word = "turn" \/ word = "grab" := by
 have:=lookup_mem h
 unfold deedsT at this
 simp only [List.mem_cons,Prod.mk.injEq,List.not_mem_nil,or_false] at this
 rcases this with z | z | z | z
 ·exact .inl z.1
 ·exact .inr (.inl z.1)
 ·exact .inr (.inr (.inl z.1))
 ·exact .inr (.inr (.inr z.1))
def spSayG (C:Addr) (Z:Cls K mg):Sp:=fun vs H Q E=>∃ (p ls:Addr) (ts:List Addr) (ss:List DS) (row:Str),vs=[.ref p,.str row]/\DkAt C H p ls ts ss/\Asc row/\row.length<=20000/\ts.length<=50000/\(∀ word ns,RowOk row word ns->(word ≠ "range" /\ word ≠ "grab" /\ word ≠ "back")/\SmallG ss word ns) /\
 (∀ n,sayO ss row=.bad n->∀ H',Same H H'->E (.ref (clsN Z n)) none H')/\(∀ x,sayO ss row=.told x->∀ H',Same H H'->Q (.str x) H')/\(∀ ss',sayO ss row=.done ss'->∀ ts' H',But ls H H'->DkAt C H' p ls ts' ss'->Q (.str "ok") H')
theorem Oq6 (T:Txt mg) (Z:Cls K mg) (Y:Own K mg) (M:Tabs w K mg) (D:DefM K Y.jDe "say" "Desk.say" Gq6) (Cq4:CalleeE P w K mg base "parted" 4 (spParted Z.jAj)) (Cq7:CalleeM (CXE P w) P w K mg base Y.jDe "take_back" 1 (spTakeE Y.jDe Z.jAl)) (Cq8:CalleeM (CXE P w) P w K mg base Y.jDe "do" 9 (spDoE Y.jDe Z)) (Cq9:CalleeM (CXE P w) P w K mg base Y.jDe "tell" 11 (spTellG Y.jDe Z)):CalleeM (CXE P w) P w K mg base Y.jDe "say" 12 (spSayG Y.jDe Z):=by
 refine DefM.okE D Uq6 Jq6 (fun vs H Q E h=>?len) (fun f cdv A outer s H vs Q E hr h=>?body)
 case len=>obtain⟨p,ls,ts,ss,row,rfl,_⟩:=h; rfl
 case body =>
  obtain⟨p,ls,ts,ss,row,rfl,W,hA,hl,htl,hrow,kx,kT,kD⟩:=h
  walk_at"z4"
  refine⟨_,(pss_cons (ps_asg (pe_callE Cq4 (hr.mono (by decide)) (by rfl) (pa_cons (pv 1) pa_nil)) (pg_tupK K 2 (pgs_cons (pg_name (i:=2) Uq6.nd rfl (Or.inl rfl)) (pgs_cons (pg_name (i:=3) Uq6.nd rfl (Or.inl rfl)) pgs_nil))))
 (pss_cons (ps_if (pt_cmpR (op_eqK K hu) (pv 2) pe_str (nomark _))
 (pss_one (ps_ret (pe_meth0E Cq7 Y.cl_Desk (pv 0) (hr.mono (by decide)))))
 pss_nil)
 (pss_cons (ps_if (pt_cmp (pc_min (by rfl) M.m_DEEDS M.d_DEEDS (pv 2)))
 (pss_one (ps_ret (pe_methE Cq8 Y.cl_Desk (pv 0) (hr.mono (by decide)) (pa_cons (pv 2) (pa_cons (pv 3) pa_nil)))))
 pss_nil)
 (pss_one (ps_ret (pe_methE Cq9 Y.cl_Desk (pv 0) (hr.mono (by decide)) (pa_cons (pv 2) (pa_cons (pv 3) pa_nil)))))))),?_⟩
  walk_at"un"
  try clear hu
  walk_at"s"
  refine⟨row,rfl,hA,hl,fun word2 ns2 hrow2 t1 l1 H1 hl1 s1 e1 f1=>?_,fun hn H1 s1=>by have:=kx _ (sayO_no hn) H1 s1; rwa [cls_R] at this⟩
  obtain⟨hnL,hsm⟩:=hrow word2 ns2 hrow2
  have hO:=sayO_ok (ss:=ss) hrow2
  rw [hO] at kx kT kD
  obtain⟨rest,hsp,⟨hnum,lo,mo,hf,hlo,hmo⟩,hns⟩:=hrow2
  have hlen:ns2.length=rest.length:=by rw [hns,List.length_map]
  have hsum:=(split_ok row 32).sum
  rw [hsp] at hsum
  simp only [List.map_cons,List.sum_cons,List.length_cons] at hsum
  have hnl:ns2.length<=20000:=by lia
  have hwA:Asc word2:=(split_ok row 32).asc hA word2 (by rw [hsp]; simp)
  have W1:=W.more s1
  obtain⟨dx,ep⟩:=W1.ob
  have nl:l1≠ls:=fun z=>by rw [z,W.sl] at hl1; cases hl1
  have hfg:=forms_get hf
  walk_at"s"
  refine⟨_,_,rfl,SqT.of e1,rfl,_,_,rfl,_,_,rfl,rfl,?_⟩;walk_at"s"
  refine i_eqS hwA.ok (by decide+kernel) ?_;walk_at"s"
  by_cases hb:word2 = "back"
  ·exact absurd hb hnL.2.2
  refine ifF (by simpa using hb) ?_;walk_at"s"
  rcases row_get (R:=fun (r:Str) v=>∃ a,v=.ref a/\mg r=some (.ref a)) word2 M.p_DEEDS with ⟨h1,h2⟩ | ⟨fn,v,h1,h2,_⟩
  ·refine ifF (by rw [h2]; rfl) ?_
   have hw2:word2 = "where" \/ word2 = "ways" \/ word2 = "text" \/ (word2 = "least" /\ ns2≠[]):=by
    rcases hfg with ⟨rfl,_,_⟩ | ⟨rfl,_,_⟩ | ⟨rfl,_,_⟩ | ⟨z,_,_⟩ | ⟨z,_,_⟩ | ⟨z,z1,_⟩ | ⟨z,_,_⟩ | ⟨rfl,_,_⟩ | ⟨z,_,_⟩ | ⟨z,_,_⟩
    ·exact absurd h1 (by decide+kernel)
    ·exact absurd h1 (by decide+kernel)
    ·exact absurd h1 (by decide+kernel)
    ·exact .inl z
    ·exact .inr (.inl z)
    ·exact .inr (.inr (.inr ⟨z,fun y=>by rw [y] at hlen; simp at hlen; lia⟩))
    ·exact .inr (.inr (.inl z))
    ·exact absurd h1 (by decide+kernel)
    ·exact absurd z hnL.1
    ·exact absurd z hb
   walk_at"s"
   refine⟨p,dx,_,rfl,ep,sfl_no _ (by decide+kernel),?_⟩;walk_at"s"
   exact⟨p,ls,l1,ts,ss,word2,ns2,rfl,W1,f1,hw2,hsm,fun x hx H2 s2=>kT x hx _ (s1.trans s2),fun n hn H2 s2=>kx n hn _ (s1.trans s2)⟩
  ·refine ifT (by rw [h2]; rfl) ?_
   have hw2:=deeds_get h1
   have shape:(word2 = "plays")\/(word2 = "at" /\ ns2≠[])\/(word2 = "turn" /\ ns2≠[]):=by
    have ne:1<=ns2.length->ns2≠[]:=fun z y=>by rw [y] at z; simp at z
    rcases hw2 with rfl | rfl | rfl | rfl
    ·exact .inl rfl
    ·have e:formsT.lookup ("at" : Str)=some (2,none):=by decide+kernel
     rw [e] at hf
     cases hf
     exact .inr (.inl ⟨rfl,ne (by lia)⟩)
    ·have e:formsT.lookup ("turn" : Str)=some (1,none):=by decide+kernel
     rw [e] at hf
     cases hf
     exact .inr (.inr ⟨rfl,ne (by lia)⟩)
    ·exact absurd rfl hnL.2.1
   walk_at"s"
   refine⟨p,dx,_,rfl,ep,sfl_no _ (by decide+kernel),?_⟩;walk_at"s"
   refine⟨p,ls,l1,ts,ss,word2,ns2,rfl,W1,nl,f1,hwA,hnl,shape,htl,fun s' hd t2 H2 b2 W2=>kD _ (act_done hd) _ _ (But.of s1 b2) W2,fun X hX H2 s2=>?_⟩
   obtain⟨n,hn,rfl⟩:=act_bad hX
   exact kx n hn _ (s1.trans s2)
def spDInit (C:Addr):Sp:=fun vs H Q _=>∃ (p dx:Addr),vs=[.ref p]/\H p=some (.ins C dx [])/\∀ ls H',But p H H'->H ls=none->DkAt C H' p ls [] []->Q .non H'
theorem Oq5 (T:Txt mg) (Y:Own K mg) (D:DefM K Y.jDe "__init__" "Desk.__init__" Gq5):CalleeM CX0 P w K mg base Y.jDe "__init__" 1 (spDInit Y.jDe):=by
 refine DefM.ok D Uq5 Jq5 (fun vs H Q E h=>?len) (fun f cdv A outer s H vs Q E hr h=>?body)
 case len=>obtain⟨p,dx,rfl,_⟩:=h; rfl
 case body =>
  obtain⟨p,dx,rfl,hp,k⟩:=h
  walk_at"z4"
  refine⟨_,(pss_one (ps_fldK K (pv 0) (pe_lst pa_nil) rfl)),?_⟩
  walk_at"un"
  try clear hu
  walk_at"s"
  intro ls hls
  have s1:Same H _:=same_upd (o:=.lst []) hls
  have e1:upd H ls (.lst []) ls=some (.lst []):=upd_same
  generalize upd H ls (.lst [])=H1 at *
  walk_at"s"
  refine⟨p,_,dx,_,rfl,s1 _ _ hp,Y.cl_Desk,Y.jDg,by simp,?_⟩
  have np:ls≠p:=fun z=>by rw [z,hp] at hls; cases hls
  exact k ls _ (fun b o e n=>by rw [upd_ne n]; exact s1 b o e) hls ⟨⟨dx,upd_same⟩,by rw [upd_ne np]; exact e1,.nil,fun s hs=>by cases hs⟩
theorem due_T:dueX "NoTrain" = [true,false,false,false,false,false,false,false,false,false,false,false,true]:=by decide+kernel
theorem due_S:dueX "NoStand" = [false,true,false,false,false,false,false,false,false,false,false,false,true]:=by decide+kernel
theorem due_R:dueX "NoRow" = [false,false,false,false,false,false,false,false,true,false,false,false,true]:=by decide+kernel
theorem kin_T (Z:Cls K mg):KinF Z Z.jAb true false false false false false false false false false false false:=⟨Z.isi_NoTrain,Z.jBb,Z.jBc,Z.jBd,Z.jBe,Z.jBf,Z.jBg,Z.jBh,Z.jBi,Z.jBj,Z.jBk,Z.jBl,Z.jBm,Z.jBn⟩
theorem kin_S (Z:Cls K mg):KinF Z Z.jAc false true false false false false false false false false false false:=⟨Z.isi_NoStand,Z.jBp,Z.jBq,Z.jBr,Z.jBs,Z.jBt,Z.jBu,Z.jBv,Z.jBw,Z.jBx,Z.jBy,Z.jBz,Z.jCa,Z.jCb⟩
theorem kin_R (Z:Cls K mg):KinF Z Z.jAj false false false false false false false false true false false false:=⟨Z.isi_NoRow,Z.jCd,Z.jCe,Z.jCf,Z.jCg,Z.jCh,Z.jCi,Z.jCj,Z.jCk,Z.jCl,Z.jCm,Z.jCn,Z.jCo,Z.jCp⟩
def Ans (H:Hp) (t:Addr) (v:V) (bs:List Bool):Prop:=∃ lk,H t=some (.tup [v,.ref lk])/\H lk=some (.lst (bL bs))
def spSaidG (C:Addr) (Z:Cls K mg):Sp:=fun vs H Q _=>∃ (p ls:Addr) (ts:List Addr) (ss:List DS) (row:Str),vs=[.ref p,.str row]/\DkAt C H p ls ts ss/\Asc row/\row.length<=20000/\ts.length<=50000/\(∀ word ns,RowOk row word ns->(word ≠ "range" /\ word ≠ "grab" /\ word ≠ "back")/\SmallG ss word ns) /\
 (∀ n,sayO ss row=.bad n->∀ q H',Same H H'->Ans H' q .non (dueX n)->Q (.ref q) H')/\(∀ x,sayO ss row=.told x->∀ q H',Same H H'->Ans H' q (.str x) []->Q (.ref q) H')/\(∀ ss',sayO ss row=.done ss'->∀ ts' q H',But ls H H'->DkAt C H' p ls ts' ss'->Ans H' q (.str "ok") []->Q (.ref q) H')
theorem Oq25 (T:Txt mg) (Z:Cls K mg) (Y:Own K mg) (D:Def K mg "_law_said" Gq25) (Cq6:CalleeM (CXE P w) P w K mg base Y.jDe "say" 12 (spSayG Y.jDe Z)) (Cq18:CalleeN P w K mg base "_law_a_kin" 1 (spKinG Z)):Callee P w K mg base "_law_said" 13 (spSaidG Y.jDe Z):=by
 refine D.ok Uq25 Jq25 (fun vs H Q E h=>?len) (fun f cdv A outer s H vs Q E hr h=>?body)
 case len=>obtain⟨p,ls,ts,ss,row,rfl,_⟩:=h; rfl
 case body =>
  obtain⟨p,ls,ts,ss,row,rfl,W,hA,hl,htl,hrow,kx,kT,kD⟩:=h
  walk_at"z4"
  refine⟨_,(pss_cons (psS 2 Uq25.nd pe_non)
 (pss_cons (psS 3 Uq25.nd (pe_lst pa_nil))
 (pss_join (ps_try (TC:=Z.jAa) (j:=4) rfl rfl rfl Z.jAn (by rfl) Uq25.nd rfl rfl rfl (fun pins ξ Ex hp=>(pss_one (psS 2 Uq25.nd (pe_methS Cq6 Y.cl_Desk (pv 0) (hr.mono (by decide)) hp (pa_cons (pv 1) pa_nil))))) (fun pins e=>(pss_one (psS 3 Uq25.nd (pe_callC Cq18 ((hr.mono (by decide)).noted _) (by rfl) (pa_cons (pv 4) pa_nil))))))
 (pss_one (ps_ret (pe_tup (pa_cons (pv 2) (pa_cons (pv 3) pa_nil)))))))),?_⟩
  walk_at"un"
  try clear hu
  walk_at"s"
  intro l1 h1
  have s1:Same H _:=same_upd (o:=.lst []) h1
  have e1:upd H l1 (.lst []) l1=some (.lst []):=upd_same
  have n1:l1≠ls:=fun z=>by rw [z,W.sl] at h1; cases h1
  generalize upd H l1 (.lst [])=H1 at *
  have W1:=W.more s1
  obtain⟨dx,ep⟩:=W1.ob
  walk_at"s"
  refine⟨fun σ H8=>∃ (v:V) (lk:Addr) (u:Option V),σ = [some (.ref p),some (.str row),some v,some (.ref lk),u]/\∀ t,H8 t=none->Q (.ref t) (upd H8 t (.tup [v,.ref lk])),?_,?_⟩
  ·walk_at"s"
   refine⟨p,dx,_,rfl,ep,sfl_no _ (by decide+kernel),?_⟩;walk_at"s"
   refine⟨p,ls,ts,ss,row,rfl,W1,hA,hl,htl,hrow,fun n hn H2 s2=>?_,fun x hx H2 s2=>?_,fun ss' hs ts' H2 b2 W2=>?_⟩
   ·have hm:=say_name hn
    unfold xNames at hm
    simp only [List.mem_cons,List.not_mem_nil,or_false] at hm
    rcases hm with rfl | rfl | rfl
    ·rw [cls_T]
     refine⟨Z.jBa,fun e he2=>?_⟩;walk_at"s"
     refine⟨e,_,_,_,_,_,_,_,_,_,_,_,_,_,rfl,upd_same,kin_T Z,fun lk H9 s9 hk=>?_⟩
     exact⟨_,lk,_,rfl,fun t ht=>kx _ hn t _ (s1.trans (s2.trans ((same_upd he2).trans (s9.trans (same_upd ht))))) ⟨lk,upd_same,same_upd ht _ _ (by rw [hk,due_T])⟩⟩
    ·rw [cls_S]
     refine⟨Z.jBo,fun e he2=>?_⟩;walk_at"s"
     refine⟨e,_,_,_,_,_,_,_,_,_,_,_,_,_,rfl,upd_same,kin_S Z,fun lk H9 s9 hk=>?_⟩
     exact⟨_,lk,_,rfl,fun t ht=>kx _ hn t _ (s1.trans (s2.trans ((same_upd he2).trans (s9.trans (same_upd ht))))) ⟨lk,upd_same,same_upd ht _ _ (by rw [hk,due_S])⟩⟩
    ·rw [cls_R]
     refine⟨Z.jCc,fun e he2=>?_⟩;walk_at"s"
     refine⟨e,_,_,_,_,_,_,_,_,_,_,_,_,_,rfl,upd_same,kin_R Z,fun lk H9 s9 hk=>?_⟩
     exact⟨_,lk,_,rfl,fun t ht=>kx _ hn t _ (s1.trans (s2.trans ((same_upd he2).trans (s9.trans (same_upd ht))))) ⟨lk,upd_same,same_upd ht _ _ (by rw [hk,due_R])⟩⟩
   ·walk_at"s"
    exact⟨_,l1,_,rfl,fun t ht=>kT x hx t _ ((s1.trans s2).trans (same_upd ht)) ⟨l1,upd_same,same_upd ht _ _ (s2 _ _ e1)⟩⟩
   ·walk_at"s"
    exact⟨_,l1,_,rfl,fun t ht=>kD ss' hs ts' t _ (fun b o e n=>same_upd ht _ _ (b2 b o (s1 b o e) n)) (W2.more (same_upd ht)) ⟨l1,upd_same,same_upd ht _ _ (b2 _ _ e1 n1)⟩⟩
  rintro σ H8 ⟨v,lk,u,rfl,q⟩
  walk_at"s"
  exact q
def numV (x:Str):V:=if numW (sg x) then .int (valOf x) else .non
theorem inV_non:∀ ss:List Str,inV .non (ss.map numV)=decide (¬ ∀ s∈ss,numW (sg s))
 | []=>by simp [inV]
 | a :: r=>by
   have ih:=inV_non r
   unfold inV at ih ⊢
   rw [List.map_cons,List.any_cons,ih]
   by_cases h:numW (sg a)
   ·have:numV a=.int (valOf a):=if_pos h
    rw [this]
    simp [h,eqV]
   ·have:numV a=.non:=if_neg h
    rw [this]
    simp [h,eqV]
def spLawNum:Sp:=fun vs H Q _=>∃ x,vs=[.str x]/\Asc x/\x.length<=20000/\Q (numV x) H
theorem Oq13 (T:Txt mg) (D:Def K mg "_law_a_number" Gq13):Callee P w K mg base "_law_a_number" 1 spLawNum:=by
 refine D.ok Uq13 Jq13 (fun vs H Q E h=>?len) (fun f cdv A outer s H vs Q E hr h=>?body)
 case len=>obtain⟨x,rfl,_⟩:=h; rfl
 case body =>
  obtain⟨x,rfl,hA,hl,k⟩:=h
  walk_at"z4"
  refine⟨_,(pss_cons (psS 1 Uq13.nd (pv 0))
 (pss_join (ps_if (pt_cmpR (op_eqK K hu) (pe_slice (sl_Q (K:=K)) (pv 0) po_none (po_some pe_int)) pe_str (nomark _))
 (pss_one (psS 1 Uq13.nd (pe_slice (sl_Q (K:=K)) (pv 0) (po_some pe_int) po_none)))
 pss_nil)
 (pss_cons (ps_if (PW.pt (pw_or (pt_cmpR (op_eqK K hu) (pv 1) pe_str (nomark _)) (pw_or (pt_cmpR op_gt (pe_callB (call_lenK K) (by rfl) T.z_len bt_len (pa_cons (pv 1) pa_nil)) pe_int (nomark _)) (pw_or1 (pt_cmpR (op_eqK K hu) (pv 0) pe_str (nomark _))))))
 (pss_one (ps_ret pe_non))
 pss_nil)
 (pss_join (ps_if (PW.pt (pw_and (pt_cmpR (op_eqK K hu) (pe_ix (ix_Q (K:=K)) (pv 1) pe_int (by exact fun _ _=>rfl)) pe_str (nomark _)) (pw_and1 (pt_cmpR op_gt (pe_callB (call_lenK K) (by rfl) T.z_len bt_len (pa_cons (pv 1) pa_nil)) pe_int (nomark _)))))
 (pss_one (ps_ret pe_non))
 pss_nil)
 (pss_cons (ps_for PassesOwn.never rfl (pi_str (pv 1)) (pg_name (i:=2) Uq13.nd rfl (Or.inl rfl))
 (pss_one (ps_if (pt_cmpR (op_notInQ (K:=K)) (pv 2) pe_str (by rfl))
 (pss_one (ps_ret pe_non))
 pss_nil)))
 (pss_one (ps_ret (pe_callTy call_intQ (by rfl) T.z_int bt_int (pa_cons (pv 0) pa_nil))))))))),?_⟩
  walk_at"un"
  try clear hu
  have no:¬ numW (sg x)->Q .non H:=fun z=>by unfold numV at k; rwa [if_neg z] at k
  walk_at"s"
  refine⟨fun σ H1=>∃ f,σ = [some (.str x),some (.str f),none]/\sg f=figs (sg x)/\H=H1,?_,?_⟩
  ·walk_at"s"
   refine i_slS (by lia) ?_
   have hsl:sg (Txt.slice x none (some 1))=(sg x).take 1:=txt_to x (by decide)
   have hA1:Asc (Txt.slice x none (some 1)):=fun c hc=>by
    rw [hsl] at hc
    exact hA c (List.mem_of_mem_take hc)
   walk_at"s"
   refine i_eqS hA1.ok (by decide+kernel) ?_
   have hb:(Txt.slice x none (some 1) == Str.ofString "-")=decide ((sg x).head? = some 45):=by
    rw [Bool.eq_iff_iff,beq_iff_eq,decide_eq_true_iff]
    constructor
    ·intro z
     rw [z] at hsl
     cases e:sg x with
     | nil=>rw [e] at hsl; cases hsl
     | cons c r =>
       rw [e] at hsl
       have:[45]=[c]:=hsl
       simp at this
       simp [this]
    ·intro z
     refine sg_ext ?_
     rw [hsl]
     cases e:sg x with
     | nil=>rw [e] at z; cases z
     | cons c r =>
       rw [e] at z
       simp at z
       rw [z]
       rfl
   rw [hb]
   walk_at"s"
   by_cases hm:(sg x).head? = some 45
   ·refine ifT (decide_eq_true hm) ?_
    walk_at"s"
    refine i_slS (by lia) ?_
    refine⟨_,rfl,?_,rfl⟩
    rw [txt_from x (by decide)]
    unfold figs
    rw [if_pos hm]
    simp
   ·refine ifF (decide_eq_false hm) ?_
    walk_at"s"
    refine⟨?_,rfl⟩
    unfold figs
    rw [if_neg hm]
  rintro σ H1 ⟨f,rfl,hf,rfl⟩
  have hfl:f.length=(figs (sg x)).length:=by rw [<- hf,sg_len]
  have hfx:=figs_len (sg x)
  rw [sg_len] at hfx
  have hfA:Asc f:=fun c hc=>hA c (by
   rw [hf] at hc
   unfold figs at hc
   split at hc
   ·exact List.mem_of_mem_tail hc
   ·exact hc)
  walk_at"s"
  refine i_eqS hfA.ok (by decide+kernel) ?_;walk_at"s"
  by_cases h0:f=Str.ofString ""
  ·refine ifT (by simp [h0]) ?_
   walk_at"s"
   refine no fun z=>?_
   have:=z.1
   rw [<- hf,h0] at this
   simp at this
   exact absurd this (by decide)
  refine ifF (by simpa using h0) ?_
  obtain⟨c0,r,hc0⟩:∃ c r,sg f=c :: r:=by
   cases e:sg f with
   | nil=>exact absurd (sg_ext e) h0
   | cons c r=>exact⟨c,r,rfl⟩
  walk_at"s"
  refine i_lenS (by lia) ?_;walk_at"s"
  walk_at"z2"
  ·walk_at"s"
   exact no fun z=>by have:=z.2.1; lia
  walk_at"s"
  refine i_eqS hA.ok (by decide+kernel) ?_;walk_at"s"
  by_cases hm0:x=Str.ofString "-0"
  ·refine ifT (by simp [hm0]) ?_
   walk_at"s"
   exact no fun z=>by rw [hm0] at z; exact absurd z (by decide+kernel)
  refine ifF (by simpa using hm0) ?_;walk_at"s"
  refine⟨fun σ H1=>σ = [some (.str x),some (.str f),none]/\H=H1/\(c0≠48\/f.length=1),?_,?_⟩
  ·walk_at"s"
   refine i_ixS (by lia) (by decide) (c:=c0) (by show (sg f)[0]? = _; rw [hc0]; rfl) ?_
   have hc1:Asc ⟨#[c0]⟩:=fun c hc=>hfA c (by rw [hc0]; simp at hc ⊢; exact .inl hc)
   walk_at"s"
   refine i_eqS hc1.ok (by decide+kernel) ?_
   have hz:((⟨#[c0]⟩:Str) == Str.ofString "0")=decide (c0=48):=by
    rw [Bool.eq_iff_iff,beq_iff_eq,decide_eq_true_iff]
    constructor
    ·intro z
     have:[c0]=[48]:=congrArg sg z
     simpa using this
    ·rintro rfl
     rfl
   rw [hz]
   walk_at"s"
   refine i_if (fun g8=>?_) (fun g8=>?_)
   ·walk_at"s"
    refine i_lenS (by lia) ?_;walk_at"s"
    refine i_if (fun g9=>?_) (fun g9=>?_)
    ·refine no fun z=>?_
     obtain⟨_,_,_,z | z⟩:=z
     ·rw [<- hf,hc0,g8] at z
      exact z rfl
     ·rw [z] at hf
      have:f.length=1:=by rw [<- sg_len,hf]; rfl
      lia
    ·have hl1:1<=f.length:=by
      rw [<- sg_len,hc0]
      simp
     exact⟨rfl,rfl,.inr (by lia)⟩
   ·walk_at"s"
    exact⟨rfl,rfl,.inl g8⟩
  rintro σ H1 ⟨rfl,rfl,hlead⟩
  have hdig:∀ c,c∈sg (Str.ofString "0123456789")↔48<=c/\c<=57:=fun c=>by
   show c∈[48,49,50,51,52,53,54,55,56,57]↔_
   simp
   omega
  walk_at"s"
  refine⟨hfA.all,lp_str (fun i σ H1=>∃ u,σ = [some (.str x),some (.str f),u]/\H=H1/\∀ c∈(sg f).take i,48<=c/\c<=57) ?_ ?_ ?_⟩
  ·exact⟨_,rfl,rfl,fun c hc=>by simp at hc⟩
  ·rintro i c σ H1 hc ⟨u,rfl,rfl,hin⟩
   walk_at"s"
   refine i_notInC ?_;walk_at"s"
   refine i_ifn (fun g9=>?_) (fun g9=>?_)
   ·walk_at"s"
    refine no fun z=>g9 ((hdig c).mpr (z.2.2.1 c ?_))
    rw [<- hf]
    exact List.mem_of_getElem? hc
   ·walk_at"s"
    refine⟨rfl,fun d hd=>?_⟩
    rw [take_snoc_get hc] at hd
    rcases List.mem_append.mp hd with z | z
    ·exact hin d z
    ·have:d=c:=by simpa using z
     rw [this]
     exact (hdig c).mp g9
  ·rintro σ H1 ⟨u,rfl,rfl,hin⟩
   rw [<- sg_len,List.take_of_length_le (Nat.le_refl _),hf] at hin
   have hnum:numW (sg x):=by
    refine⟨by rw [<- hf,hc0]; simp,by lia,hin,?_⟩
    by_cases h48:c0=48
    ·right
     have hl1:f.length=1:=by
      rcases hlead with z | z
      ·exact absurd h48 z
      ·exact z
     have hf0:sg f=[48]:=by
      rw [<- sg_len,hc0] at hl1
      simp at hl1
      rw [hc0,hl1,h48]
     rw [hf0] at hf
     unfold figs at hf
     split at hf
     ·rename_i hm
      exfalso
      cases e:sg x with
      | nil=>rw [e] at hm; cases hm
      | cons c1 r1 =>
        rw [e] at hm hf
        simp at hm hf
        exact hm0 (sg_ext (by rw [e,hm,<- hf]; rfl))
     ·exact hf.symm
    ·left
     rw [<- hf,hc0]
     simpa using h48
   obtain⟨n,hn,_⟩:=num_word hnum
   walk_at"s"
   refine .inr ⟨x,n,rfl,hn,?_,?_⟩
   ·have:=hnum.2.1
    unfold figs at this
    rw [<- sg_len]
    split at this
    ·rw [List.length_tail] at this
     lia
    ·lia
   ·unfold numV valOf at k
    rwa [if_pos hnum,hn] at k
theorem Oq14 (T:Txt mg) (D:Def K mg "_law_a_words" Gq14):Callee P w K mg base "_law_a_words" 1 (spWritten K):=by
 refine D.ok Uq14 Jq14 (fun vs H Q E h=>?len) (fun f cdv A outer s H vs Q E hr h=>?body)
 case len=>obtain⟨p,ns,rfl,_⟩:=h; rfl
 case body =>
  obtain⟨p,ns,rfl,hp,hA,hl,k⟩:=h
  walk_at"z4"
  refine⟨_,(pss_one (ps_ret (pe_bmK K PySem.F.plainAttrs_str PySem.F.slot_str_join PySem.F.type_str_join (mt_joinK K) pe_str (pa_cons (by exact pe_comp (N:=["number"]) (fr:=[none]) ⟨by rfl,by decide+kernel,by decide+kernel,(show ∀ y∈(_:List (Str×NameKind)),y.2=NameKind.free->(defScope Gq14).names.lookup y.1=some .cell\/(defScope Gq14).names.lookup y.1=some .free by decide+kernel),(fr_none fr_nil)⟩ (by rfl) (pi_listK K (pv 0)) (fun _ _ _ _=>(pg_name (i:=0) (show List.Nodup (["number"]:List Str) by decide) (by rfl) (by first | exact Or.inl rfl | exact Or.inr rfl))) (fun _ _ _ _=>pifs_nil) (fun _ _ _ _=>(pe_callTy call_str_int (by rfl) T.z_str bt_str (pa_cons (pv 0) pa_nil))) (gw_name (by rfl))) pa_nil)))),?_⟩
  walk_at"un"
  try clear hu
  walk_at"s"
  refine⟨rfl,?_⟩;walk_at"s"
  refine⟨⟨_,hp⟩,cp_list (xs:=iL ns) (fun i ys H2=>ys=((ns.take i).map tx).map V.str/\H=H2) ⟨rfl,rfl⟩ ?_ (szlt (by simp [iL]; lia)) ?_ ?_⟩
  ·rintro i ys H2 ⟨rfl,rfl⟩
   exact⟨hp,by simp; lia⟩
  ·rintro i x ys H2 hx ⟨rfl,rfl⟩
   unfold iL at hx
   rw [List.getElem?_map] at hx
   walk_at"z16"
   walk_at"s"
   refine⟨small_log (hA z (List.mem_of_getElem? hz)),?_⟩
   refine⟨?_,rfl⟩
   rw [take_snoc_get hz,List.map_append,List.map_append]
   rfl
  rintro l ys H2 ⟨rfl,rfl⟩ hl2
  rw [show (iL ns).length=ns.length by simp [iL],List.take_of_length_le (Nat.le_refl _)]
  have hw:=words_len hA
  refine⟨_,l,ns.map tx,rfl,rfl,SqL.of upd_same,?_,?_⟩
  ·show _+_*1<=_
   rw [List.length_map]
   lia
  exact k _ (same_upd hl2)
def spLawNums:Sp:=fun vs H Q _=>∃ (name row:Str) (least:Nat),vs=[.str row,.str name,.int least]/\Asc name/\Asc row/\row.length<=20000/\1<=least/\(∀ ns,nums? name least row=some ns->∀ l H',NewI H H' l ns->Q (.ref l) H')/\(nums? name least row=none->∀ H',Same H H'->Q .non H')
theorem Oq15 (T:Txt mg) (D:Def K mg "_law_a_numbers" Gq15) (Cq13:Callee P w K mg base "_law_a_number" 1 spLawNum):Callee P w K mg base "_law_a_numbers" 2 spLawNums:=by
 refine D.ok Uq15 Jq15 (fun vs H Q E h=>?len) (fun f cdv A outer s H vs Q E hr h=>?body)
 case len=>obtain⟨name,row,least,rfl,_⟩:=h; rfl
 case body =>
  obtain⟨name,row,least,rfl,hN,hA,hl,hle,k,kx⟩:=h
  walk_at"z4"
  refine⟨_,(pss_cons (psS 3 Uq15.nd (pe_bmK K PySem.F.plainAttrs_str PySem.F.slot_str_split PySem.F.type_str_split mt_split (pv 0) (pa_cons pe_str pa_nil)))
 (pss_cons (ps_if (PW.pt (pw_or (pt_cmpR (op_neK K hu) (pe_ix (ix_K K) (pv 3) pe_int (by exact fun _ _=>rfl)) (pv 1) (nomark _)) (pw_or1 (pt_cmpR op_le (pe_callB (call_lenK K) (by rfl) T.z_len bt_len (pa_cons (pv 3) pa_nil)) (pv 2) (nomark _)))))
 (pss_one (ps_ret pe_non))
 pss_nil)
 (pss_cons (by exact ps_setC (i:=4) Uq15.nd rfl (Or.inl rfl) (N:=["word"]) (fr:=[none]) ⟨by rfl,by decide+kernel,by decide+kernel,(show ∀ y∈(_:List (Str×NameKind)),y.2=NameKind.free->(defScope Gq15).names.lookup y.1=some .cell\/(defScope Gq15).names.lookup y.1=some .free by decide+kernel),(fr_none fr_nil)⟩ (by rfl) (pi_listK K (pe_slice (sl_listK K) (pv 3) (po_some pe_int) po_none)) (fun _ _ _ _=>(pg_name (i:=0) (show List.Nodup (["word"]:List Str) by decide) (by rfl) (by first | exact Or.inl rfl | exact Or.inr rfl))) (fun _ _ _ _=>pifs_nil) (fun _ _ _ _=>(pe_callN Cq13 (hr.mono (by decide)) (by rfl) (pa_cons (pv 0) pa_nil))) (gw_name (by rfl)))
 (pss_cons (ps_if (pt_cmpR (op_inK K) pe_non (pv 4) (by rfl))
 (pss_one (ps_ret pe_non))
 pss_nil)
 (pss_one (ps_ret (pv 4))))))),?_⟩
  walk_at"un"
  try clear hu
  walk_at"s"
  have hP:=split_ok row 32
  refine⟨rfl,row,⟨#[32]⟩,rfl,rfl,rfl,by lia,?_,fun l1 h1=>?_⟩
  ·have:=hP.sum
   lia
  have hnu:∀ a r,Txt.split row ⟨#[32]⟩=a :: r->nums? name least row=if a=name/\least<=r.length/\∀ p∈r,numW (sg p) then some (r.map valOf) else none:=fun a r e=>by
   unfold nums?
   rw [e]
  have hPs:=hP.sum
  have hPa:=hP.asc hA
  have hPl:=hP.len
  cases hsp:Txt.split row ⟨#[32]⟩ with
  | nil=>exact absurd hsp hP.ne
  | cons a r =>
  rw [hsp] at hPs hPa hPl
  replace hnu:=hnu a r hsp
  have e1:upd H l1 (.lst ((a :: r).map V.str)) l1=some (.lst ((a :: r).map V.str)):=upd_same
  have s1:Same H _:=same_upd (o:=.lst ((a :: r).map V.str)) h1
  generalize upd H l1 (.lst ((a :: r).map V.str))=H1 at *
  simp only [List.map_cons,List.sum_cons,List.length_cons] at hPs
  have hno:∀ H',Same H1 H'->¬ (a=name/\least<=r.length/\∀ p∈r,numW (sg p))->Q .non H':=fun H' s' hn=>kx (by rw [hnu,if_neg hn]) _ (s1.trans s')
  walk_at"s"
  refine i_ixN (SqL.of e1) (by decide) rfl ?_;walk_at"s"
  refine i_neS (hPa a (by simp)).ok hN.ok ?_;walk_at"s"
  by_cases hn:a=name
  rotate_left
  ·refine ifT (by simpa using hn) ?_
   walk_at"s"
   exact hno _ (Same.refl _) fun z=>hn z.1
  refine ifF (by simpa using hn) ?_;walk_at"s"
  refine i_len (SqL.of e1) ?_
  rw [List.length_map,List.length_cons]
  walk_at"s"
  walk_at"z2"
  ·walk_at"s"
   exact hno _ (Same.refl _) fun z=>by have:=z.2.1; lia
  walk_at"s"
  refine⟨l1,_,rfl,SqL.of e1,fun l2 h2=>?_⟩
  have hcut:cutV ((a :: r).map V.str) (some 1) none=r.map V.str:=by
   rw [cut_from (by decide)]
   rfl
  rw [hcut]
  have e2:upd H1 l2 (.lst (r.map V.str)) l2=some (.lst (r.map V.str)):=upd_same
  have s2:Same H1 _:=same_upd (o:=.lst (r.map V.str)) h2
  generalize upd H1 l2 (.lst (r.map V.str))=H2 at *
  refine⟨_,rfl,⟨_,SqL.of e2⟩,cp_list (xs:=r.map V.str) (fun i ys H3=>ys=(r.take i).map numV/\H2=H3) ⟨rfl,rfl⟩ ?_ (szlt (by simp; lia)) ?_ ?_⟩
  ·rintro i ys H3 ⟨rfl,rfl⟩
   exact⟨SqL.of e2,by simp; lia⟩
  ·rintro i x ys H3 hx ⟨rfl,rfl⟩
   rw [List.getElem?_map] at hx
   walk_at"z16"
   have hzm:=List.mem_of_getElem? hz
   walk_at"s"
   refine⟨z,rfl,hPa z (by simp [hzm]),Nat.le_trans (hPl z (by simp [hzm])) hl,?_⟩
   refine⟨?_,rfl⟩
   rw [take_snoc_get hz]
   simp
  rintro l4 ys H3 ⟨rfl,rfl⟩ h4
  rw [List.length_map,List.take_of_length_le (Nat.le_refl _)]
  have e4:upd H2 l4 (.lst (r.map numV)) l4=some (.lst (r.map numV)):=upd_same
  have s4:Same H2 _:=same_upd (o:=.lst (r.map numV)) h4
  generalize upd H2 l4 (.lst (r.map numV))=H4 at *
  walk_at"s"
  refine⟨l4,_,rfl,.inl (SqL.of e4),rfl,?_,?_⟩
  ·refine List.all_eq_true.mpr fun v hv=>?_
   obtain⟨z,_,rfl⟩:=List.mem_map.mp hv
   unfold numV
   split <;> rfl
  rw [inV_non]
  walk_at"s"
  refine i_if (fun g9=>?_) (fun g9=>?_)
  ·walk_at"s"
   exact hno _ (s2.trans s4) fun z=>g9 z.2.2
  ·walk_at"s"
   have hw:∀ p∈r,numW (sg p):=Classical.not_not.mp g9
   have S4:=s1.trans (s2.trans s4)
   refine k _ (by rw [hnu,if_pos ⟨hn,by lia,hw⟩]) l4 H4 ⟨(s1.trans s2).free h4,S4,?_⟩
   rw [e4]
   congr 2
   unfold iL
   rw [List.map_map]
   exact List.map_congr_left fun z hz=>if_pos (hw z hz)
def spLawKeeps:Sp:=fun vs H Q _=>∃ (a b:Addr) (ps xs:List Int) (hd:Int),vs=[.ref a,.int hd,.ref b]/\H a=some (.lst (iL ps))/\H b=some (.lst (iL xs))/\∀ (r:Bool) H',(r=true↔stand ps hd xs)->Same H H'->Q (.bl r) H'
theorem Oq16 (T:Txt mg) (D:Def K mg "_law_keeps" Gq16):Callee P w K mg base "_law_keeps" 1 spLawKeeps:=by
 refine D.ok Uq16 Jq16 (fun vs H Q E h=>?len) (fun f cdv A outer s H vs Q E hr h=>?body)
 case len=>obtain⟨a,b,ps,xs,hd,rfl,_⟩:=h; rfl
 case body =>
  obtain⟨a,b,ps,xs,hd,rfl,hA,hB,k⟩:=h
  walk_at"z4"
  refine⟨_,(pss_cons (ps_if (pt_cmpR (op_neK K hu) (pe_callB (call_lenK K) (by rfl) T.z_len bt_len (pa_cons (pv 0) pa_nil)) (pe_callB (call_lenK K) (by rfl) T.z_len bt_len (pa_cons (pv 2) pa_nil)) (nomark _))
 (pss_one (ps_ret pe_bl))
 pss_nil)
 (pss_cons (psS 3 Uq16.nd (pv 1))
 (pss_cons (ps_for PassesOwn.never rfl (pi_zip2K K (by rfl) T.z_zip (pa_cons (pv 0) (pa_cons (pv 2) pa_nil))) (pg_tupK K 2 (pgs_cons (pg_name (i:=4) Uq16.nd rfl (Or.inl rfl)) (pgs_cons (pg_name (i:=5) Uq16.nd rfl (Or.inl rfl)) pgs_nil)))
 (pss_cons (ps_if (PW.pt (pw_or (pt_cmpR op_gt (pe_op op_sub (pv 5) (pv 3)) (pv 4) (nomark _)) (pw_or1 (pt_cmpR op_gt (pe_op op_sub (pv 3) (pv 5)) (pv 4) (nomark _)))))
 (pss_one (ps_ret pe_bl))
 pss_nil)
 (pss_one (psS 3 Uq16.nd (pv 5)))))
 (pss_one (ps_ret pe_bl))))),?_⟩
  walk_at"un"
  try clear hu
  walk_at"s"
  refine i_lenI (SqL.of hA) ?_;walk_at"s"
  refine i_lenI (SqL.of hB) ?_;walk_at"s"
  refine i_ifn (fun g=>?_) (fun g=>?_)
  ·walk_at"s"
   exact k _ _ ⟨fun z=>(Bool.noConfusion z),fun z=>absurd z.1 (by lia)⟩ (Same.refl _)
  have hst:stand ps hd xs↔keeps ps hd xs:=⟨fun z=>z.2,fun z=>⟨by lia,z⟩⟩
  walk_at"s"
  refine⟨_,_,rfl,⟨_,SqL.of hA⟩,⟨_,SqL.of hB⟩,lp_zip (xs:=iL ps) (ys:=iL xs) (fun i σ H2=>∃ (ah:Int) (u v:Option V),σ = [some (.ref a),some (.int hd),some (.ref b),some (.int ah),u,v]/\Same H H2/\(keeps ps hd xs↔keeps (ps.drop i) ah (xs.drop i))) ?_ ?_ ?_ ?_⟩
  ·exact⟨hd,_,_,rfl,Same.refl _,Iff.rfl⟩
  ·rintro i σ H2 ⟨ah,u,v,rfl,sm,hk⟩
   exact⟨SqL.of (sm _ _ hA),SqL.of (sm _ _ hB)⟩
  ·rintro i x y t σ H2 hx hy ⟨ah,u,v,rfl,sm,hk⟩ ht
   unfold iL at hx hy
   rw [List.getElem?_map] at hx hy
   obtain⟨p,hp,rfl⟩:=Option.map_eq_some_iff.mp hx
   obtain⟨q,hq,rfl⟩:=Option.map_eq_some_iff.mp hy
   walk_at"s"
   walk_at"z9"
   walk_at"s"
   rw [dropc hp,dropc hq] at hk
   have hk':keeps ps hd xs↔(q - ah<=p/\ah - q<=p)/\keeps (ps.drop (i+1)) q (xs.drop (i+1)):=hk
   walk_at"z2"
   ·walk_at"s"
    refine k _ _ ⟨fun z=>(Bool.noConfusion z),fun z=>?_⟩ (sm.trans (same_upd ht))
    have:=(hk'.mp (hst.mp z)).1
    lia
   ·walk_at"s"
    refine i_if (fun g2=>?_) (fun g2=>?_)
    ·walk_at"s"
     refine k _ _ ⟨fun z=>(Bool.noConfusion z),fun z=>?_⟩ (sm.trans (same_upd ht))
     have:=(hk'.mp (hst.mp z)).1
     lia
    ·walk_at"s"
     exact⟨q,_,_,rfl,sm.trans (same_upd ht),hk'.trans ⟨fun z=>z.2,fun z=>⟨by lia,z⟩⟩⟩
  ·rintro σ H2 ⟨ah,u,v,rfl,sm,hk⟩
   walk_at"s"
   refine k _ _ ⟨fun _=>hst.mpr (hk.mpr ?_),fun _=>rfl⟩ sm
   simp only [iL,List.length_map]
   exact keeps_end
theorem Oq12 (T:Txt mg) (D:Def K mg "_law_all" Gq12):Callee P w K mg base "_law_all" 1 (spAllDr K):=by
 refine D.ok Uq12 Jq12 (fun vs H Q E h=>?len) (fun f cdv A outer s H vs Q E hr h=>?body)
 case len=>obtain⟨a,b,ps,xs,c,rfl,_⟩:=h; rfl
 case body =>
  obtain⟨a,b,ps,xs,c,rfl,hA,hB,h12,hp0,k⟩:=h
  refine⟨_,(pss_cons (psS 3 Uq12.nd (pe_lst pa_nil))
 (pss_cons (psS 4 Uq12.nd (pv 2))
 (pss_cons (ps_for PassesOwn.never rfl (pi_zip2K K (by rfl) T.z_zip (pa_cons (pv 0) (pa_cons (pv 1) pa_nil))) (pg_tupK K 2 (pgs_cons (pg_name (i:=5) Uq12.nd rfl (Or.inl rfl)) (pgs_cons (pg_name (i:=6) Uq12.nd rfl (Or.inl rfl)) pgs_nil)))
 (pss_join (ps_if (pt_cmpR op_lt (pv 6) (pe_op op_sub (pv 4) (pv 5)) (nomark _))
 (pss_one (psS 6 Uq12.nd (pe_op op_sub (pv 4) (pv 5))))
 pss_nil)
 (pss_join (ps_if (pt_cmpR op_gt (pv 6) (pe_op op_addP (pv 4) (pv 5)) (nomark _))
 (pss_one (psS 6 Uq12.nd (pe_op op_addP (pv 4) (pv 5))))
 pss_nil)
 (pss_cons (ps_expr (pe_bmK K PySem.F.plainAttrs_list PySem.F.slot_list_append PySem.F.type_list_append mt_append (pv 3) (pa_cons (pv 6) pa_nil)))
 (pss_one (psS 4 Uq12.nd (pv 6)))))))
 (pss_one (ps_ret (pv 3)))))),?_⟩
  walk_at"un"
  try clear hu
  walk_at"s"
  intro l hl;walk_at"s"
  have s1:Same H (upd H l (.lst [])):=same_upd hl
  walk_at"z5"
  ·exact⟨c,_,_,[],rfl,⟨hl,s1,upd_same⟩,by simp,rfl,rfl⟩
  ·rintro i σ H2 ⟨ah,u,v,dn,rfl,N,hl12,hi,hk⟩
   exact⟨N.sm.seq hA,N.sm.seq hB⟩
  ·rintro i x y t σ H2 hx hy ⟨ah,u,v,dn,rfl,N,hl12,hi,hk⟩ ht
   rw [List.getElem?_map] at hx hy
   obtain⟨p,hp,rfl⟩:=Option.map_eq_some_iff.mp hx
   obtain⟨q,hq,rfl⟩:=Option.map_eq_some_iff.mp hy
   have hpl:i<ps.length:=(List.getElem?_eq_some_iff.mp hp).1
   have p0:=hp0 p (List.mem_of_getElem? hp)
   walk_at"s"
   walk_at"z9"
   rw [dropc hp,dropc hq] at hk
   have N2:=N.more (same_upd (o:=.tup [.int p,.int q]) ht)
   generalize upd H2 t (.tup [.int p,.int q])=H3 at *
   refine⟨fun σ H4=>∃ y1:Int,σ = [some (.ref a),some (.ref b),some (.int c),some (.ref l),some (.int ah),some (.int p),some (.int y1)]/\y1=(if q<ah - p then ah - p else q)/\H4=H3,?_,?_⟩
   ·walk_at"s"
    walk_at"z2"
    ·walk_at"s"
     exact⟨(if_pos g).symm,rfl⟩
    ·exact⟨q,rfl,(if_neg g).symm,rfl⟩
   ·rintro σ H4 ⟨y1,rfl,hy1,rfl⟩
    walk_at"s"
    refine⟨fun σ H5=>σ = [some (.ref a),some (.ref b),some (.int c),some (.ref l),some (.int ah),some (.int p),some (.int (drag p ah q))]/\H5=H4,?_,?_⟩
    ·walk_at"s"
     walk_at"z2"
     ·walk_at"s"
      refine⟨?_,rfl⟩
      have e:drag p ah q=ah+p:=by unfold drag; split at hy1 <;> (repeat' split) <;> lia
      rw [e]; rfl
     ·refine⟨?_,rfl⟩
      have e:drag p ah q=y1:=by unfold drag; split at hy1 <;> (repeat' split) <;> lia
      rw [e]
    ·rintro σ H5 ⟨rfl,rfl⟩
     walk_at"s"
     refine⟨.inl ⟨rfl,_,SqL.of N2.at_⟩,?_⟩;walk_at"s"
     refine i_app N2.at_ (szlt (by simp [iL]; lia)) ?_;walk_at"s"
     refine⟨_,_,_,dn++[drag p ah q],rfl,N2.app,by simp; lia,by simp; lia,?_⟩
     rw [hk,dragAll]; simp
  ·rintro σ H2 ⟨ah,u,v,dn,rfl,N,hl12,hi,hk⟩
   walk_at"s"
   have e:dragAll ps xs c=dn:=by
    rw [hk]
    simp only [iL,List.length_map]
    by_cases h:ps.length<=xs.length
    ·rw [Nat.min_eq_left h,List.drop_of_length_le (Nat.le_refl _),dragAll_nil,List.append_nil]
    ·rw [Nat.min_eq_right (by lia),List.drop_of_length_le (l:=xs) (Nat.le_refl _),dragAll_nil2,List.append_nil]
   rw [e] at k
   exact k l H2 N
def spBeh32:Sp:=fun vs H Q _=>∃ (t l:Addr) (ss:List DS) (ps ws gs ns:List Int) (hd:Int) (word:Str),vs=[.ref t,.str word,.ref l]/\SAt H t ps hd ws gs/\H l=some (.lst (iL ns))/\ns.length<=20000/\((word = "plays" /\ isTr ns)\/(∃ ss0,ss=ss0++[(ps,hd,ws,gs)]/\SOkS (ps,hd,ws,gs)/\((word = "at" /\ ns≠[]/\stand ps (ns.headD 0) ns.tail)\/(word = "turn" /\ ns≠[])\/word = "least" \/ word = "where" \/ word = "ways" \/ word = "text"))) /\
 (∀ s',actO ss word ns=.done (ss++[s'])->∀ t' H',Same H H'->SA H' t' s'->Q (.ref t') H')/\((word = "least" \/ word = "where" \/ word = "ways" \/ word = "text")->∀ H',Same H H'->Q (.ref t) H')
theorem Oq22 (T:Txt mg) (D:Def K mg "_law_a_behind" Gq22) (Cq12:Callee P w K mg base "_law_all" 1 (spAllDr K)):Callee P w K mg base "_law_a_behind" 2 spBeh32:=by
 refine D.ok Uq22 Jq22 (fun vs H Q E h=>?len) (fun f cdv A outer s H vs Q E hr h=>?body)
 case len=>obtain⟨t,l,ss,ps,ws,gs,ns,hd,word,rfl,_⟩:=h; rfl
 case body =>
  obtain⟨t,l,ss,ps,ws,gs,ns,hd,word,rfl,⟨lp,lw,lg,hT,hP,hW,hG⟩,hL,hnl,hw,k,kx⟩:=h
  walk_at"z4"
  have hwA:PyData.strOk word=true:=by
   rcases hw with ⟨rfl,_⟩ | ⟨_,_,_,⟨rfl,_⟩ | ⟨rfl,_⟩ | rfl | rfl | rfl | rfl⟩ <;> decide+kernel
  refine⟨_,(pss_cons (ps_asg (pv 0) (pg_tupK K 4 (pgs_cons (pg_name (i:=3) Uq22.nd rfl (Or.inl rfl)) (pgs_cons (pg_name (i:=4) Uq22.nd rfl (Or.inl rfl)) (pgs_cons (pg_name (i:=5) Uq22.nd rfl (Or.inr rfl)) (pgs_cons (pg_name (i:=6) Uq22.nd rfl (Or.inr rfl)) pgs_nil))))))
 (pss_cons (ps_if (pt_cmpR (op_eqK K hu) (pv 1) pe_str (nomark _))
 (pss_one (ps_ret (pe_tup (pa_cons (pv 2) (pa_cons pe_int (pa_cons (pe_op op_mulP (pe_lst (pa_cons pe_int pa_nil)) (pe_callB (call_lenK K) (by rfl) T.z_len bt_len (pa_cons (pv 2) pa_nil))) (pa_cons (pe_op op_mulP (pe_lst (pa_cons pe_int pa_nil)) (pe_callB (call_lenK K) (by rfl) T.z_len bt_len (pa_cons (pv 2) pa_nil))) pa_nil)))))))
 pss_nil)
 (pss_cons (ps_if (pt_cmpR (op_eqK K hu) (pv 1) pe_str (nomark _))
 (pss_one (ps_ret (pe_tup (pa_cons (pv 3) (pa_cons (pe_ix (ix_K K) (pv 2) pe_int (by exact fun _ _=>rfl)) (pa_cons (pe_slice (sl_listK K) (pv 2) (po_some pe_int) po_none) (pa_cons (pe_op op_mulP (pe_lst (pa_cons pe_int pa_nil)) (pe_callB (call_lenK K) (by rfl) T.z_len bt_len (pa_cons (pv 3) pa_nil))) pa_nil)))))))
 pss_nil)
 (pss_cons (ps_if (pt_cmpR (op_neK K hu) (pv 1) pe_str (nomark _))
 (pss_one (ps_ret (pv 0)))
 pss_nil)
 (pss_cons (ps_for PassesOwn.never rfl (pi_listK K (pv 2)) (pg_name (i:=7) Uq22.nd rfl (Or.inl rfl))
 (pss_cons (ps_set (i:=8) Uq22.nd rfl (Or.inr rfl) (pe_callN Cq12 (hr.mono (by decide)) (by rfl) (pa_cons (pv 3) (pa_cons (pv 5) (pa_cons (pv 7) pa_nil)))))
 (pss_cons (ps_set (i:=6) Uq22.nd rfl (Or.inr rfl) (by exact pe_comp (N:=["k", "gone", "behind", "wheels"]) (fr:=[none,some 6,some 8,some 5]) ⟨by rfl,by decide+kernel,by decide+kernel,(show ∀ y∈(_:List (Str×NameKind)),y.2=NameKind.free->(defScope Gq22).names.lookup y.1=some .cell\/(defScope Gq22).names.lookup y.1=some .free by decide+kernel),(fr_none (fr_some (by rfl) (by first | exact Or.inl rfl | exact Or.inr rfl) (by rfl) (fr_some (by rfl) (by first | exact Or.inl rfl | exact Or.inr rfl) (by rfl) (fr_some (by rfl) (by first | exact Or.inl rfl | exact Or.inr rfl) (by rfl) fr_nil))))⟩ (by rfl) (pi_range1 (by rfl) T.z_range (pa_cons (pe_callB (call_lenK K) (by rfl) T.z_len bt_len (pa_cons (pv 3) pa_nil)) pa_nil)) (fun _ _ _ _=>(pg_name (i:=0) (show List.Nodup (["k", "gone", "behind", "wheels"]:List Str) by decide) (by rfl) (by first | exact Or.inl rfl | exact Or.inr rfl))) (fun _ _ _ _=>pifs_nil) (fun _ _ _ _=>(pe_op op_sub (pe_op op_addP (pe_ix (ix_K K) (pv 1) (pv 0) (by exact fun _ _=>rfl)) (pe_callB (call_maxK K) (by rfl) T.z_max bt_max (pa_cons (pe_ix (ix_K K) (pv 2) (pv 0) (by exact fun _ _=>rfl)) (pa_cons (pe_ix (ix_K K) (pv 3) (pv 0) (by exact fun _ _=>rfl)) pa_nil)))) (pe_callB (call_minK K) (by rfl) T.z_min bt_min (pa_cons (pe_ix (ix_K K) (pv 2) (pv 0) (by exact fun _ _=>rfl)) (pa_cons (pe_ix (ix_K K) (pv 3) (pv 0) (by exact fun _ _=>rfl)) pa_nil))))) (gw_name (by rfl))))
 (pss_cons (ps_set (i:=5) Uq22.nd rfl (Or.inr rfl) (pv 8))
 (pss_one (psS 4 Uq22.nd (pv 7)))))))
 (pss_one (ps_ret (pe_tup (pa_cons (pv 3) (pa_cons (pv 4) (pa_cons (pv 5) (pa_cons (pv 6) pa_nil)))))))))))),?_⟩
  walk_at"un"
  try clear hu
  walk_at"s"
  walk_at"z1"
  walk_at"s"
  refine i_eqS hwA (by decide+kernel) ?_;walk_at"s"
  by_cases hp:word = "plays"
  ·subst hp
   refine ifT (by decide+kernel) ?_
   have htr:isTr ns:=by
    rcases hw with ⟨_,z⟩ | ⟨_,_,_,⟨z,_⟩ | ⟨z,_⟩ | z | z | z | z⟩
    ·exact z
    all_goals exact absurd z (by decide+kernel)
   have h12:=htr.2.1
   rw [act_plays] at k
   walk_at"s"
   intro q1 h1
   have s1:Same H _:=same_upd (o:=.lst [.int 0]) h1
   have e1:upd H q1 (.lst [.int 0]) q1=some (.lst [.int 0]):=upd_same
   generalize upd H q1 (.lst [.int 0])=H1 at *
   walk_at"s"
   refine i_lenI (SqL.of (s1 _ _ hL)) ?_
   refine i_repZ e1 (by lia) (fun q2 h2=>?_)
   have s2:Same H1 _:=same_upd (o:=.lst (iL (zeros ns.length))) h2
   have e2:upd H1 q2 (.lst (iL (zeros ns.length))) q2=some (.lst (iL (zeros ns.length))):=upd_same
   generalize upd H1 q2 (.lst (iL (zeros ns.length)))=H2 at *
   walk_at"s"
   intro q3 h3
   have s3:Same H2 _:=same_upd (o:=.lst [.int 0]) h3
   have e3:upd H2 q3 (.lst [.int 0]) q3=some (.lst [.int 0]):=upd_same
   generalize upd H2 q3 (.lst [.int 0])=H3 at *
   walk_at"s"
   refine i_lenI (SqL.of (s3 _ _ (s2 _ _ (s1 _ _ hL)))) ?_
   refine i_repZ e3 (by lia) (fun q4 h4=>?_)
   have s4:Same H3 _:=same_upd (o:=.lst (iL (zeros ns.length))) h4
   have e4:upd H3 q4 (.lst (iL (zeros ns.length))) q4=some (.lst (iL (zeros ns.length))):=upd_same
   generalize upd H3 q4 (.lst (iL (zeros ns.length)))=H4 at *
   walk_at"s"
   intro t5 h5
   have S:=s1.trans (s2.trans (s3.trans (s4.trans (same_upd (o:=.tup [.ref l,.int 0,.ref q2,.ref q4]) h5))))
   exact k _ (if_pos htr) t5 _ S ⟨l,q2,q4,upd_same,S _ _ hL,same_upd h5 _ _ (s4 _ _ (s3 _ _ e2)),same_upd h5 _ _ e4⟩
  refine ifF (by simpa using hp) ?_
  rcases hw with ⟨z,_⟩ | ⟨ss0,rfl,ok,hw⟩
  ·exact absurd z hp
  have h12:ps.length<=12:=ok.1.2.1
  have hp0:∀ x∈ps,0<=x:=ok.1.2.2
  have hwl:ws.length=ps.length:=ok.2.1.1
  have hgl:gs.length=ps.length:=ok.2.2
  walk_at"s"
  refine i_eqS hwA (by decide+kernel) ?_;walk_at"s"
  by_cases ha:word = "at"
  ·subst ha
   refine ifT (by decide+kernel) ?_
   have hne:ns≠[]/\stand ps (ns.headD 0) ns.tail:=by
    rcases hw with ⟨_,z⟩ | ⟨z,_⟩ | z | z | z | z
    ·exact z
    all_goals exact absurd z (by decide+kernel)
   obtain⟨hne,hst⟩:=hne
   obtain⟨e,goal,rfl⟩:∃ e goal,ns=e :: goal:=by
    cases ns with
    | nil=>exact absurd rfl hne
    | cons a b=>exact⟨a,b,rfl⟩
   rw [act_at] at k
   walk_at"s"
   refine i_ixN (SqL.of hL) (i:=0) (by decide) (v:=.int e) rfl ?_;walk_at"s"
   refine i_slFrom (SqL.of hL) (by decide) (fun q3 h3=>?_)
   have s3:Same H _:=same_upd (o:=.lst (iL ((e :: goal).drop (1:Int).toNat))) h3
   have e3:upd H q3 (.lst (iL ((e :: goal).drop (1:Int).toNat))) q3=some (.lst (iL goal)):=by rw [upd_same]; rfl
   generalize upd H q3 (.lst (iL ((e :: goal).drop (1:Int).toNat)))=H3 at *
   walk_at"s"
   intro q4 h4
   have s4:Same H3 _:=same_upd (o:=.lst [.int 0]) h4
   have e4:upd H3 q4 (.lst [.int 0]) q4=some (.lst [.int 0]):=upd_same
   generalize upd H3 q4 (.lst [.int 0])=H4 at *
   walk_at"s"
   refine i_lenI (SqL.of (s4 _ _ (s3 _ _ hP))) ?_
   refine i_repZ e4 (by lia) (fun q5 h5=>?_)
   have s5:Same H4 _:=same_upd (o:=.lst (iL (zeros ps.length))) h5
   have e5:upd H4 q5 (.lst (iL (zeros ps.length))) q5=some (.lst (iL (zeros ps.length))):=upd_same
   generalize upd H4 q5 (.lst (iL (zeros ps.length)))=H5 at *
   walk_at"s"
   intro t6 h6
   have S6:=s4.trans (s5.trans (same_upd (o:=.tup [.ref lp,.int e,.ref q3,.ref q5]) h6))
   have S7:=s3.trans S6
   exact k _ (if_pos hst) t6 _ S7 ⟨lp,q3,q5,upd_same,S7 _ _ hP,S6 _ _ e3,same_upd h6 _ _ e5⟩
  refine ifF (by simpa using ha) ?_;walk_at"s"
  refine i_neS hwA (by decide+kernel) ?_;walk_at"s"
  by_cases hg:word = "turn"
  rotate_left
  ·refine ifT (by simpa using hg) ?_
   walk_at"s"
   refine kx ?_ _ (Same.refl _)
   rcases hw with ⟨z,_⟩ | ⟨z,_⟩ | z | z | z | z
   ·exact absurd z ha
   ·exact absurd z hg
   ·exact .inl z
   ·exact .inr (.inl z)
   ·exact .inr (.inr (.inl z))
   ·exact .inr (.inr (.inr z))
  subst hg
  refine ifF (by decide+kernel) ?_
  rw [act_turn] at k
  walk_at"s"
  refine⟨⟨_,SqL.of hL⟩,lp_ints (ns:=ns) (fun i σ H2=>∃ (lw2 lg2:Addr) (u7 u8:Option V),σ = [some (.ref t),some (.str "turn"),some (.ref l),some (.ref lp),some (.int (lastOf hd (ns.take i))),some (.ref lw2),some (.ref lg2),u7,u8]/\Same H H2/\H2 lw2=some (.lst (iL (endW ps ws (ns.take i))))/\H2 lg2=some (.lst (iL (farL gs (ws :: runs ps ws (ns.take i)))))) ?_ ?_ ?_ ?_⟩
  ·exact⟨lw,lg,_,_,rfl,Same.refl _,hW,hG⟩
  ·rintro i σ H2 _ ⟨lw2,lg2,u7,u8,rfl,s2,_⟩
   exact SqL.of (s2 _ _ hL)
  ·rintro i x σ H2 hx ⟨lw2,lg2,u7,u8,rfl,s2,e2,g2⟩
   have hel:(endW ps ws (ns.take i)).length=ps.length:=endW_length _ _ hwl
   have hfl:=far_len (row:=ns.take i) hwl hgl
   rw [take_snoc_get hx,lastOf_snoc,endW_append,far_snoc]
   show _
   generalize endW ps ws (ns.take i)=wx at *
   generalize farL gs (ws :: runs ps ws (ns.take i))=gx at *
   walk_at"s"
   refine⟨lp,lw2,ps,wx,x,rfl,SqL.of (s2 _ _ hP),SqL.of e2,h12,hp0,fun l3 H3 N3=>?_⟩
   have hdl:(dragAll ps wx x).length=ps.length:=by rw [dragAll_length]; lia
   have S3:=s2.trans N3.sm
   have fL:(fart gx wx (dragAll ps wx x)).length=ps.length:=by rw [fart_len]; lia
   walk_at"s"
   refine i_lenI (SqL.of (S3 _ _ hP)) ?_;walk_at"s"
   refine⟨by lia,by lia,cp_range (fun j ys H4=>ys=iL ((fart gx wx (dragAll ps wx x)).take j)/\H3=H4) ⟨rfl,rfl⟩ ?_ (szlt (by lia)) ?_ ?_⟩
   ·rintro j ys H4 ⟨rfl,rfl⟩
    simp [iL]
    lia
   ·rintro j ys H4 hj ⟨rfl,rfl⟩
    obtain⟨g,hg⟩:∃ g,gx[j]? = some g:=⟨_,List.getElem?_eq_getElem (by lia)⟩
    obtain⟨a,ha'⟩:∃ a,wx[j]? = some a:=⟨_,List.getElem?_eq_getElem (by lia)⟩
    obtain⟨b,hb⟩:∃ b,(dragAll ps wx x)[j]? = some b:=⟨_,List.getElem?_eq_getElem (by lia)⟩
    have eI:∀ {xs:List Int} {y:Int},xs[j]? = some y->(iL xs)[(0+(j:Int)).toNat]? = some (.int y):=fun e=>by unfold iL; rw [List.getElem?_map,show (0+(j:Int)).toNat=j by lia,e]; rfl
    walk_at"s"
    refine i_ixN (SqL.of (N3.sm _ _ g2)) (by lia) (eI hg) ?_;walk_at"s"
    refine i_ixN (SqL.of N3.at_) (by lia) (eI hb) ?_;walk_at"s"
    refine i_ixN (SqL.of (N3.sm _ _ e2)) (by lia) (eI ha') ?_;walk_at"s"
    refine i_max2 ?_
    rintro m1 rfl
    walk_at"s"
    refine i_ixN (SqL.of N3.at_) (by lia) (eI hb) ?_;walk_at"s"
    refine i_ixN (SqL.of (N3.sm _ _ e2)) (by lia) (eI ha') ?_;walk_at"s"
    refine i_min2 ?_
    rintro m2 rfl
    walk_at"s"
    refine⟨?_,rfl⟩
    rw [fart_take gx wx _ j hg ha' hb]
    have:g+max b a - min b a=g+ab (b - a):=by unfold ab; split <;> lia
    rw [this]
    simp [iL]
   rintro l5 ys H4 ⟨rfl,rfl⟩ h5
   rw [show ((ps.length:Nat):Int).toNat=ps.length by lia,List.take_of_length_le (l:=fart gx wx (dragAll ps wx x)) (by lia)]
   walk_at"s"
   have s5:Same H3 _:=same_upd (o:=.lst (iL (fart gx wx (dragAll ps wx x)))) h5
   exact⟨l3,l5,_,_,rfl,S3.trans s5,s5 _ _ N3.at_,upd_same⟩
  ·rintro σ H2 ⟨lw2,lg2,u7,u8,rfl,s2,e2,g2⟩
   rw [List.take_of_length_le (Nat.le_refl _)] at e2 g2
   rw [List.take_of_length_le (Nat.le_refl _)]
   walk_at"s"
   intro t9 h9
   have S9:=s2.trans (same_upd (o:=.tup [.ref lp,.int (lastOf hd ns),.ref lw2,.ref lg2]) h9)
   exact k _ rfl t9 _ S9 ⟨lp,lw2,lg2,upd_same,S9 _ _ hP,same_upd h9 _ _ e2,same_upd h9 _ _ g2⟩
theorem fm_at {F G:Fn}:∀ (n:Nat) {W:Int},-1<=W->W<n->(∀ j:Int,W<j->j<n->F j=G j)->fm F G n=fm F G (W+1).toNat
 | 0,W,h1,h2,_=>by
   have:W = -1:=by lia
   subst this
   rfl
 | n+1,W,h1,h2,h3=>by
   by_cases h:W=n
   ·subst h
    congr 1
   ·have e:F n=G n:=h3 n (by lia) (by lia)
    rw [fm,if_pos e]
    exact fm_at n h1 (by lia) fun j a b=>h3 j a (by lia)
theorem rst_step {D G:Fn} {a:Must} {w:Int} (hw:-1<=w):rst D G (w+1).toNat a=if bey D G a w then (w,-a.2) :: (if 0<=w then rst D G w.toNat (w,-a.2) else []) else (if 0<=w then rst D G w.toNat a else []):=by
 by_cases z:w = -1
 ·subst z
  rfl
 ·obtain⟨m,rfl⟩:∃ m:Nat,w=m:=⟨w.toNat,by lia⟩
  have h0:(0:Int)<=(m:Int):=by lia
  rw [show ((m:Int)+1).toNat=m+1 by lia,show ((m:Nat):Int).toNat=m by lia]
  simp only [h0,if_true]
  rfl
def spLLeast:Sp:=fun vs H Q _=>∃ (t lo:Addr) (ps ws gs goal:List Int) (hd e:Int),vs=[.ref t,.int e,.ref lo]/\SAt H t ps hd ws gs/\H lo=some (.lst (iL goal))/\isTr ps/\ws.length=ps.length/\goal.length=ps.length/\∀ l H',NewI H H' l (toldRow ps hd ws e goal)->Q (.ref l) H'
theorem Oq20 (T:Txt mg) (D:Def K mg "_law_a_least" Gq20):Callee P w K mg base "_law_a_least" 1 spLLeast:=by
 refine D.ok Uq20 Jq20 (fun vs H Q E h=>?len) (fun f cdv A outer s H vs Q E hr h=>?body)
 case len=>obtain⟨t,lo,ps,ws,gs,goal,hd,e,rfl,_⟩:=h; rfl
 case body =>
  obtain⟨t,lo,ps,ws,gs,goal,hd,e,rfl,⟨lp,lw,lg,hT,hP,hW,hG⟩,hO,ht,hwl,hol,k⟩:=h
  walk_at"z4"
  have h12:=ht.2.1
  refine⟨_,(pss_cons (ps_asg (pv 0) (pg_tupK K 4 (pgs_cons (pg_name (i:=3) Uq20.nd rfl (Or.inl rfl)) (pgs_cons (pg_name (i:=4) Uq20.nd rfl (Or.inl rfl)) (pgs_cons (pg_name (i:=5) Uq20.nd rfl (Or.inr rfl)) (pgs_cons (pg_name (i:=6) Uq20.nd rfl (Or.inl rfl)) pgs_nil))))))
 (pss_cons (by exact ps_setC (i:=7) Uq20.nd rfl (Or.inl rfl) (N:=["k", "wheels", "goal"]) (fr:=[none,some 5,some 2]) ⟨by rfl,by decide+kernel,by decide+kernel,(show ∀ y∈(_:List (Str×NameKind)),y.2=NameKind.free->(defScope Gq20).names.lookup y.1=some .cell\/(defScope Gq20).names.lookup y.1=some .free by decide+kernel),(fr_none (fr_some (by rfl) (by first | exact Or.inl rfl | exact Or.inr rfl) (by rfl) (fr_some (by rfl) (by first | exact Or.inl rfl | exact Or.inr rfl) (by rfl) fr_nil)))⟩ (by rfl) (pi_range1 (by rfl) T.z_range (pa_cons (pe_callB (call_lenK K) (by rfl) T.z_len bt_len (pa_cons (pv 3) pa_nil)) pa_nil)) (fun _ _ _ _=>(pg_name (i:=0) (show List.Nodup (["k", "wheels", "goal"]:List Str) by decide) (by rfl) (by first | exact Or.inl rfl | exact Or.inr rfl))) (fun _ _ _ _=>(pifs_one (pt_cmpR (op_neK K hu) (pe_ix (ix_K K) (pv 1) (pv 0) (by exact fun _ _=>rfl)) (pe_ix (ix_K K) (pv 2) (pv 0) (by exact fun _ _=>rfl)) (nomark _)))) (fun _ _ _ _=>(pv 0)) (gw_name (by rfl)))
 (pss_cons (psS 8 Uq20.nd (pe_lst pa_nil))
 (pss_cons (psS 9 Uq20.nd pe_int)
 (pss_cons (psS 10 Uq20.nd (pv 4))
 (pss_cons (ps_for PassesOwn.never rfl (pi_range3 (by rfl) T.z_range (pa_cons (pe_callB (call_maxK K) (by rfl) T.z_max bt_max (pa_cons (pe_op op_addP (pv 7) (pe_lst (pa_cons (pe_negK (r:=-1) (by decide)) pa_nil))) pa_nil)) (pa_cons (pe_negK (r:=-2) (by decide)) (pa_cons (pe_negK (r:=-1) (by decide)) pa_nil)))) (pg_name (i:=11) Uq20.nd rfl (Or.inl rfl))
 (pss_cons (psS 12 Uq20.nd (pe_callB (call_sumK K) (by rfl) T.z_sum bt_sum (pa_cons (pe_slice (sl_listK K) (pv 3) po_none (po_some (pe_op op_addP (pv 11) pe_int))) pa_nil)))
 (pss_cons (psS 13 Uq20.nd (pe_ix (ix_K K) (pe_op op_addP (pv 2) (pe_lst (pa_cons (pv 1) pa_nil))) (pv 11) (by exact fun _ _=>rfl)))
 (pss_join (ps_if (pt_cmpR (op_eqK K hu) (pv 9) pe_int (nomark _))
 (pss_cons (psS 14 Uq20.nd (pe_op op_sub (pv 13) (pe_ix (ix_K K) (pe_op op_addP (pv 5) (pe_lst (pa_cons (pv 4) pa_nil))) (pv 11) (by exact fun _ _=>rfl))))
 (pss_cons (ps_if (pt_cmpR (op_eqK K hu) (pv 14) pe_int (nomark _))
 (pss_one ps_continue)
 pss_nil)
 (pss_one (psS 9 Uq20.nd (pe_menu (pa_cons (pe_negK (r:=-1) (by decide)) (pa_cons pe_int pa_nil)) (pe_callTy call_intK (by rfl) T.z_int bt_int (pa_cons (pe_cmpR op_gt (pv 14) pe_int (nomark _)) pa_nil)) (by exact fun _ _=>rfl))))))
 (pss_one (ps_if (pt_cmpR op_gt (pe_op op_mulP (pe_op op_sub (pe_op op_sub (pv 10) (pe_op op_mulP (pv 9) (pv 12))) (pv 13)) (pv 9)) pe_int (nomark _))
 (pss_one (psS 9 Uq20.nd (pe_op op_sub pe_int (pv 9))))
 (pss_one ps_continue))))
 (pss_cons (psS 10 Uq20.nd (pe_op op_addP (pv 13) (pe_op op_mulP (pv 9) (pv 12))))
 (pss_one (ps_expr (pe_bmK K PySem.F.plainAttrs_list PySem.F.slot_list_append PySem.F.type_list_append mt_append (pv 8) (pa_cons (pv 10) pa_nil)))))))))
 (pss_one (ps_ret (pv 8))))))))),?_⟩
  walk_at"un"
  try clear hu
  have eI:∀ {xs:List Int} {j:Nat} {y:Int},xs[j]? = some y->(iL xs)[(0+(j:Int)).toNat]? = some (.int y):=fun {xs j y} e=>by unfold iL; rw [List.getElem?_map,show (0+(j:Int)).toNat=j by lia,e]; rfl
  have pcN:∀ {xs:List Int} {h:Int} {j:Nat} {y:Int},xs[j]? = some y->pc xs h j=y:=fun {xs h j y} e=>by
   unfold pc
   rw [if_neg (by lia),show ((j:Nat):Int).toNat=j by lia,List.getD_eq_getElem?_getD,e]
   rfl
  walk_at"s"
  walk_at"z1"
  walk_at"s"
  refine i_lenI (SqL.of hP) ?_;walk_at"s"
  refine⟨by lia,by lia,cp_range (fun i ys H2=>∃ mv:List Int,ys=iL mv/\H=H2/\mv.length<=i/\∀ m:Int,m∈mv↔0<=m/\m<i/\pc ws hd m≠pc goal e m) ⟨[],rfl,rfl,Nat.le_refl _,fun m=>⟨fun z=>(by cases z),fun z=>(by lia)⟩⟩ ?_ (szlt (by lia)) ?_ ?_⟩
  ·rintro i ys H2 ⟨mv,rfl,rfl,hm,_⟩
   simpa [iL] using hm
  ·rintro i ys H2 hi ⟨mv,rfl,rfl,hm,hin⟩
   obtain⟨a,ha⟩:∃ a,ws[i]? = some a:=⟨_,List.getElem?_eq_getElem (by lia)⟩
   obtain⟨b,hb⟩:∃ b,goal[i]? = some b:=⟨_,List.getElem?_eq_getElem (by lia)⟩
   walk_at"s"
   refine i_ixN (SqL.of hW) (by lia) (eI ha) ?_;walk_at"s"
   refine i_ixN (SqL.of hO) (by lia) (eI hb) ?_;walk_at"s"
   refine i_ifn (fun g=>?_) (fun g=>?_)
   ·walk_at"s"
    refine⟨mv++[0+(i:Int)],by simp [iL],rfl,by simp; lia,fun m=>?_⟩
    rw [List.mem_append,hin m]
    constructor
    ·rintro (⟨a1,a2,a3⟩ | z)
     ·exact⟨a1,by lia,a3⟩
     ·have hm0:m=0+(i:Int):=by simpa using z
      rw [show m=(i:Int) by lia]
      exact⟨by lia,by lia,by rw [pcN ha,pcN hb]; exact g⟩
    ·rintro⟨a1,a2,a3⟩
     by_cases z:m=i
     ·exact .inr (by rw [z]; simp)
     ·exact .inl ⟨a1,by lia,a3⟩
   ·refine⟨mv,rfl,rfl,by lia,fun m=>?_⟩
    rw [hin m]
    constructor
    ·rintro⟨a1,a2,a3⟩
     exact⟨a1,by lia,a3⟩
    ·rintro⟨a1,a2,a3⟩
     by_cases z:m=i
     ·rw [z,pcN ha,pcN hb] at a3
      exact absurd g a3
     ·exact⟨a1,by lia,a3⟩
  rintro lm ys H2 ⟨mv,rfl,rfl,hm,hin⟩ hlm
  have e1:upd H lm (.lst (iL mv)) lm=some (.lst (iL mv)):=upd_same
  have s1:Same H _:=same_upd (o:=.lst (iL mv)) hlm
  generalize upd H lm (.lst (iL mv))=H1 at *
  walk_at"s"
  intro lr hlr
  have er:upd H1 lr (.lst []) lr=some (.lst (iL [])):=upd_same
  have s2:Same H1 _:=same_upd (o:=.lst []) hlr
  have fr:H lr=none:=s1.free hlr
  generalize upd H1 lr (.lst [])=H2 at *
  walk_at"s"
  intro lq hlq
  have eq:upd H2 lq (.lst [.int (-1)]) lq=some (.lst (iL [-1])):=upd_same
  have s3:Same H2 _:=same_upd (o:=.lst [.int (-1)]) hlq
  generalize upd H2 lq (.lst [.int (-1)])=H3 at *
  walk_at"s"
  refine i_addL (s3 _ _ (s2 _ _ e1)) eq (szl (by simp [iL]; lia)) (fun la hla=>?_)
  have ea:upd H3 la (.lst (iL mv++iL [-1])) la=some (.lst (iL (mv++[-1]))):=by rw [upd_same]; simp [iL]
  have s4:Same H3 _:=same_upd (o:=.lst (iL mv++iL [-1])) hla
  generalize upd H3 la (.lst (iL mv++iL [-1]))=H4 at *
  walk_at"s"
  refine i_maxL (SqL.of ea) (by simp) (fun W hW1 hW2=>?_)
  have w1:-1<=W:=hW2 (-1) (by simp)
  have w2:W<ps.length/\(0<=W->pc ws hd W≠pc goal e W):=by
   rcases List.mem_append.mp hW1 with z | z
   ·obtain⟨a1,a2,a3⟩:=(hin W).mp z
    exact⟨by lia,fun _=>a3⟩
   ·have:W = -1:=by simpa using z
    exact⟨by lia,fun y=>by lia⟩
  have w3:∀ j:Int,W<j->j<ps.length->pc ws hd j=pc goal e j:=fun j a b=>by
   by_cases z:pc ws hd j=pc goal e j
   ·exact z
   ·have:=hW2 j (List.mem_append_left _ ((hin j).mpr ⟨by lia,by lia,z⟩))
    lia
  have hfm:=fm_at ps.length w1 w2.1 w3
  have hDs:∀ wh:Int,-1<=wh->wh<ps.length->(ps.take (wh+1).toNat).sum=pc (depths 0 ps) 0 wh:=fun wh a b=>by
   by_cases z:wh = -1
   ·subst z
    rfl
   ·obtain⟨m,rfl⟩:∃ m:Nat,wh=m:=⟨wh.toNat,by lia⟩
    obtain⟨pv,hp⟩:∃ pv,ps[m]? = some pv:=⟨_,List.getElem?_eq_getElem (by lia)⟩
    rw [pcN (depths_get ps 0 m pv hp),show ((m:Int)+1).toNat=m+1 by lia,take_snoc_get hp,List.sum_append]
    simp
  have S4:=s1.trans (s2.trans (s3.trans s4))
  have er4:=s4 _ _ (s3 _ _ er)
  clear hin hW1 hW2 hm ea eq e1 er s1 s2 s3 s4 w3
  have hT0:fm (pc ws hd) (pc goal e) (W+1).toNat=[]->toldRow ps hd ws e goal=[]:=fun z=>by
   unfold toldRow told paper
   rw [hfm,z]
   rfl
  have hT1:∀ a r,fm (pc ws hd) (pc goal e) (W+1).toNat=a :: r->toldRow ps hd ws e goal=(a :: rstOf (pc (depths 0 ps) 0) (pc goal e) a).map (mp (pc (depths 0 ps) 0) (pc goal e)):=fun a r z=>by
   unfold toldRow told paper
   rw [hfm,z]
  generalize hTT:toldRow ps hd ws e goal=TT at *
  walk_at"s"
  refine⟨_,_,rfl,⟨by lia,by lia,by lia,by lia⟩,lp_down (fun j σ H5=>∃ (u11 u12 u13 u14:Option V) (side here:Int) (row:List Int),σ = [some (.ref t),some (.int e),some (.ref lo),some (.ref lp),some (.int hd),some (.ref lw),some (.ref lg),some (.ref lm),some (.ref lr),some (.int side),some (.int here),u11,u12,u13,u14]/\NewI H H5 lr row/\row.length<=j/\((side=0/\row=[]/\here=hd/\(j=0\/(TT=[]/\W = -1)))\/∃ a:Must,(a.2=1\/a.2 = -1)/\side=a.2/\here=mp (pc (depths 0 ps) 0) (pc goal e) a/\1<=j/\TT=row++(if (j:Int)<=W+1 then (rst (pc (depths 0 ps) 0) (pc goal e) (W+1 - j).toNat a).map (mp (pc (depths 0 ps) 0) (pc goal e)) else []))) ?_ ?_ ?_⟩
  ·exact⟨_,_,_,_,0,hd,[],rfl,⟨fr,S4,er4⟩,Nat.le_refl _,.inl ⟨rfl,rfl,rfl,.inl rfl⟩⟩
  ·rintro j σ H5 hj ⟨u11,u12,u13,u14,side,here,row,rfl,N,hrl,hst⟩
   have hj2:(j:Int)<=W+1:=by lia
   walk_at"s"
   refine i_slTo (SqL.of (N.sm _ _ hP)) (by lia) (fun l6 h6=>?_)
   have s6:Same H5 _:=same_upd (o:=.lst (iL (ps.take (W - (j:Int)+1).toNat))) h6
   walk_at"s"
   refine i_sum (SqL.of upd_same) ?_
   rw [hDs (W - j) (by lia) (by lia)]
   generalize upd H5 l6 (.lst (iL (ps.take (W - (j:Int)+1).toNat)))=H6 at *
   have N6:=N.more s6
   walk_at"s"
   intro l7 h7
   have e7:upd H6 l7 (.lst [.int e]) l7=some (.lst [.int e]):=upd_same
   have s7:Same H6 _:=same_upd (o:=.lst [.int e]) h7
   generalize upd H6 l7 (.lst [.int e])=H7 at *
   have N7:=N6.more s7
   walk_at"s"
   refine i_addL (N7.sm _ _ hO) e7 (szl (by simp [iL]; lia)) (fun l8 h8=>?_)
   have e8:upd H7 l8 (.lst (iL goal++[.int e])) l8=some (.lst (iL (goal++[e]))):=by rw [upd_same]; simp [iL]
   have s8:Same H7 _:=same_upd (o:=.lst (iL goal++[.int e])) h8
   generalize upd H7 l8 (.lst (iL goal++[.int e]))=H8 at *
   have N8:=N7.more s8
   walk_at"s"
   refine i_pc e8 (by lia) (by lia) ?_;walk_at"s"
   generalize hDD:pc (depths 0 ps) 0=DD at *
   generalize hGG:pc goal e=GG at *
   refine⟨fun σ H9=>∃ (u14:Option V) (s2:Int),σ = [some (.ref t),some (.int e),some (.ref lo),some (.ref lp),some (.int hd),some (.ref lw),some (.ref lg),some (.ref lm),some (.ref lr),some (.int s2),some (.int here),some (.int (W - j)),some (.int (DD (W - j))),some (.int (GG (W - j))),u14]/\NewI H H9 lr row/\(s2=1\/s2 = -1)/\TT=row++mp DD GG (W - j,s2) :: (if ((j+1:Nat):Int)<=W+1 then (rst DD GG (W+1 - ((j+1:Nat):Int)).toNat (W - j,s2)).map (mp DD GG) else []),?_,?_⟩
   ·walk_at"s"
    rcases hst with ⟨rfl,rfl,rfl,hj0⟩ | ⟨a,ha2,rfl,rfl,hj1,hTe⟩
    ·have hj0:j=0:=by rcases hj0 with z | ⟨_,z⟩ <;> lia
     subst hj0
     refine ifT (by simp) ?_;walk_at"s"
     intro l9 h9
     have e9:upd H8 l9 (.lst [.int here]) l9=some (.lst [.int here]):=upd_same
     have s9:Same H8 _:=same_upd (o:=.lst [.int here]) h9
     generalize upd H8 l9 (.lst [.int here])=H9 at *
     have N9:=N8.more s9
     walk_at"s"
     refine i_addL (N9.sm _ _ hW) e9 (szl (by simp [iL]; lia)) (fun l10 h10=>?_)
     have e10:upd H9 l10 (.lst (iL ws++[.int here])) l10=some (.lst (iL (ws++[here]))):=by rw [upd_same]; simp [iL]
     have s10:Same H9 _:=same_upd (o:=.lst (iL ws++[.int here])) h10
     generalize upd H9 l10 (.lst (iL ws++[.int here]))=H10 at *
     have N10:=N9.more s10
     walk_at"s"
     refine i_pc e10 (by lia) (by lia) ?_
     have eW:W - ((0:Nat):Int)=W:=by lia
     rw [eW]
     have hfmW:fm (pc ws here) GG (W+1).toNat=if pc ws here W=GG W then [] else [(W,sgn (pc ws here) GG W)]:=by
      by_cases z:W = -1
      ·subst z
       rfl
      ·obtain⟨m,rfl⟩:∃ m:Nat,W=m:=⟨W.toNat,by lia⟩
       rw [show ((m:Int)+1).toNat=m+1 by lia,fm,if_neg (w2.2 (by lia)),if_neg (w2.2 (by lia))]
     walk_at"s"
     walk_at"z2"
     ·have hFG:pc ws here W=GG W:=by lia
      have hW1:W = -1:=by
       by_cases z:0<=W
       ·exact absurd hFG (w2.2 z)
       ·lia
      walk_at"s"
      exact⟨_,_,_,_,0,here,[],rfl,N10,by simp,.inl ⟨rfl,rfl,rfl,.inr ⟨hT0 (by rw [hfmW,if_pos hFG]),hW1⟩⟩⟩
     ·have hFG:pc ws here W≠GG W:=fun z=>g (by lia)
      walk_at"s"
      refine i_menu2 (by split <;> decide) (by split <;> decide) (fun zm hzm=>?_)
      have hzs:zm=sgn (pc ws here) GG W:=by
       unfold sgn
       rcases hzm with ⟨z,rfl⟩ | ⟨z,rfl⟩
       ·split at z
        ·lia
        ·rename_i hn
         rw [if_neg]
         intro y
         exact hn (by simpa using (by lia:0<GG W - pc ws here W))
       ·split at z
        ·rename_i hn
         rw [if_pos]
         have:0<GG W - pc ws here W:=by simpa using hn
         lia
        ·lia
      have hz2:zm=1\/zm = -1:=by rcases hzm with z | z; exact .inr z.2; exact .inl z.2
      try rw [eW]
      refine⟨_,zm,rfl,N10,hz2,?_⟩
      rw [hT1 _ [] (by rw [hfmW,if_neg hFG]),<- hzs]
      unfold rstOf
      by_cases z:W<0
      ·rw [if_pos z,if_neg (by lia)]
       rfl
      ·rw [if_neg z,if_pos (by lia),show (W+1 - ((0+1:Nat):Int)).toNat=W.toNat by lia]
       rfl
    ·have hsd:a.2≠0:=by lia
     refine ifF (by simpa using hsd) ?_;walk_at"s"
     refine i_mulI (cmul_l (by lia) (by lia)) ?_;walk_at"s"
     refine i_mulI (cmul_r (by lia) (by lia)) ?_
     have hbey:(0<(mp DD GG a - a.2*DD (W - j) - GG (W - j))*a.2)↔bey DD GG a (W - j):=by
      unfold bey
      rcases ha2 with z | z <;> rw [z] <;> constructor <;> intro y <;> lia
     have hstep:=rst_step (D:=DD) (G:=GG) (a:=a) (w:=W - j) (by lia)
     rw [if_pos hj2,show (W+1 - (j:Int)).toNat=(W - j+1).toNat by lia,hstep] at hTe
     walk_at"s"
     walk_at"z2"
     ·walk_at"s"
      rw [if_pos (hbey.mp g)] at hTe
      refine⟨_,0 - a.2,rfl,N8,by lia,?_⟩
      rw [hTe,show 0 - a.2 = -a.2 by lia]
      by_cases z:0<=W - (j:Int)
      ·rw [if_pos z,if_pos (by lia),show (W+1 - ((j+1:Nat):Int)).toNat=(W - j).toNat by lia]
       rfl
      ·rw [if_neg z,if_neg (by lia)]
       rfl
     ·walk_at"s"
      rw [if_neg (fun z=>g (hbey.mpr z))] at hTe
      refine⟨_,_,_,_,a.2,_,row,rfl,N8,by lia,.inr ⟨a,ha2,rfl,rfl,by lia,?_⟩⟩
      rw [hTe]
      by_cases z:0<=W - (j:Int)
      ·rw [if_pos z,if_pos (by lia),show (W+1 - ((j+1:Nat):Int)).toNat=(W - j).toNat by lia]
      ·rw [if_neg z,if_neg (by lia)]
       rfl
   ·rintro σ H9 ⟨u14',s2,rfl,N9,hs2,hTe⟩
    walk_at"s"
    refine i_mulI (cmul_l (by lia) (by lia)) ?_;walk_at"s"
    refine⟨.inl ⟨rfl,_,SqL.of N9.at_⟩,?_⟩;walk_at"s"
    refine i_app N9.at_ (szlt (by simp [iL]; lia)) ?_
    exact⟨_,_,_,_,s2,_,row++[mp DD GG (W - j,s2)],rfl,N9.app,by simp; lia,.inr ⟨(W - j,s2),hs2,rfl,rfl,by lia,by rw [hTe]; simp⟩⟩
  ·rintro σ H5 ⟨u11,u12,u13,u14,side,here,row,rfl,N,hrl,hst⟩
   walk_at"s"
   have:TT=row:=by
    rcases hst with ⟨_,z,_,y | y⟩ | ⟨a,_,_,_,_,z⟩
    ·lia
    ·rw [z,y.1]
    ·rw [z,if_neg (by lia)]
     simp
   rw [this] at k
   exact k lr H5 N
def w0s:List Str:=["plays", "at", "turn", "least", "where", "ways", "text"]
def okCh (w0:Str) (d c:Nat):Prop:=c∈sg w0\/c=32\/c=45\/(48<=c/\c<=57)\/c=d
structure RowCh (row:Str):Prop where
 len:row.length<=19900
 cnt:(sg row).count 32<=320
 ch:∃ w0∈w0s,∃ d,d<128/\∀ c∈sg row,okCh w0 d c
structure RowD (row:Str):Prop where
 len:row.length<=19000
 cnt:(sg row).count 32<=310
 wl:∀ p∈Txt.split row ⟨#[32]⟩,p.length<=100
 ch:∃ w0∈w0s,∀ c∈sg row,okCh w0 32 c
theorem RowD.row {row:Str} (h:RowD row):RowCh row:=by
 obtain⟨w0,hw,k⟩:=h.ch
 exact⟨by have:=h.len; lia,by have:=h.cnt; lia,w0,hw,32,by decide,k⟩
theorem w0_asc:∀ w0∈w0s,∀ c∈sg w0,c<128:=by decide+kernel
theorem RowCh.asc {row:Str} (h:RowCh row):Asc row:=fun c hc=>by
 obtain⟨w0,hw,d,hd,k⟩:=h.ch
 rcases k c hc with z | z | z | z | z
 ·exact w0_asc w0 hw c z
 all_goals lia
theorem join_count:∀ {ws:List Str},ws≠[]->(∀ p∈ws,32 ∉ sg p)->(sg (Str.join ⟨#[32]⟩ ws)).count 32+1=ws.length
 | [],h,_=>absurd rfl h
 | [a],_,h=>by
   have:(sg a).count 32=0:=List.count_eq_zero.mpr (h a (by simp))
   show (sg a).count 32+1=1
   lia
 | a :: b :: r,_,h=>by
   have ih:=join_count (ws:=b :: r) (by simp) fun p hp=>h p (by simp only [List.mem_cons] at hp ⊢; exact .inr hp)
   have:(sg a).count 32=0:=List.count_eq_zero.mpr (h a (by simp))
   rw [join_sg,List.count_append,List.count_cons_self,this]
   simp only [List.length_cons] at ih ⊢
   lia
theorem split_count (row:Str):(Txt.split row ⟨#[32]⟩).length=(sg row).count 32+1:=by
 have h:=join_count (split_ne row ⟨#[32]⟩) (StrLaws.split_free row 32)
 rw [StrLaws.join_split] at h
 exact h.symm
theorem split_mem {row p:Str} {c:Nat} (hp:p∈Txt.split row ⟨#[32]⟩) (hc:c∈sg p):c∈sg row:=by
 rw [<- StrLaws.join_split row ⟨#[32]⟩]
 exact join_mem _ hp hc
theorem w0_no:∀ w0∈w0s,98 ∉ sg w0/\99 ∉ sg w0/\103 ∉ sg w0/\(114 ∉ sg w0\/97 ∉ sg w0):=by decide+kernel
theorem RowCh.head {row word:Str} (h:RowCh row) (hw:word∈Txt.split row ⟨#[32]⟩):word ≠ "range" /\ word ≠ "grab" /\ word ≠ "back" := by
 obtain⟨w0,hw0,d,hd,k⟩:=h.ch
 obtain⟨n1,n2,n3,n4⟩:=w0_no w0 hw0
 have g:∀ c,c∈sg word->58<=c->c ∉ sg w0->c=d:=fun c hc h1 h2=>by
  rcases k c (split_mem hw hc) with z | z | z | z | z
  ·exact absurd z h2
  all_goals lia
 refine⟨fun e=>?_,fun e=>?_,fun e=>?_⟩
 ·have g1:=g 103 (by rw [e]; decide+kernel) (by decide) n3
  rcases n4 with z | z
  ·have:=g 114 (by rw [e]; decide+kernel) (by decide) z
   lia
  ·have:=g 97 (by rw [e]; decide+kernel) (by decide) z
   lia
 ·have g1:=g 103 (by rw [e]; decide+kernel) (by decide) n3
  have g2:=g 98 (by rw [e]; decide+kernel) (by decide) n1
  lia
 ·have g1:=g 99 (by rw [e]; decide+kernel) (by decide) n2
  have g2:=g 98 (by rw [e]; decide+kernel) (by decide) n1
  lia
theorem join_chars:∀ {ss:List Str} {c:Nat},c∈sg (Str.join ⟨#[32]⟩ ss)->c=32\/∃ p∈ss,c∈sg p
 | [],c,h=>by
   exfalso
   have:sg (Str.join ⟨#[32]⟩ [])=[]:=rfl
   rw [this] at h
   cases h
 | [a],c,h=>.inr ⟨a,by simp,h⟩
 | a :: b :: r,c,h=>by
   rw [join_sg] at h
   rcases List.mem_append.mp h with z | z
   ·exact .inr ⟨a,by simp,z⟩
   rcases List.mem_cons.mp z with z | z
   ·exact .inl z
   ·rcases join_chars z with y | ⟨p,hp,y⟩
    ·exact .inl y
    ·exact .inr ⟨p,List.mem_cons_of_mem _ hp,y⟩
theorem tx_chars {n:Int} {c:Nat} (h:c∈sg (tx n)):c=45\/(48<=c/\c<=57):=by
 cases n with
 | ofNat m =>
   have e:=tx_nat m
   have h2:c∈sg (tx (m:Int)):=h
   rw [e] at h2
   exact .inr (dig_all m c h2)
 | negSucc k =>
   have e:=tx_neg k
   rw [e] at h
   rcases List.mem_cons.mp h with z | z
   ·exact .inl z
   ·exact .inr (dig_all (k+1) c z)
theorem wordsX_chars {ns:List Int} {c:Nat} (h:c∈sg (wordsX ns)):c=32\/c=45\/(48<=c/\c<=57):=by
 rcases join_chars h with z | ⟨p,hp,z⟩
 ·exact .inl z
 ·obtain⟨n,_,rfl⟩:=List.mem_map.mp hp
  exact .inr (tx_chars z)
theorem RowCh.few {row word:Str} {ns:List Int} (h:RowCh row) (hr:RowOk row word ns):ns.length<=320:=by
 obtain⟨rest,hsp,_,rfl⟩:=hr
 have hc:=split_count row
 rw [hsp,List.length_cons] at hc
 have:=h.cnt
 rw [List.length_map]
 lia
def Bn:Int:=10000000000000000000000000000000000000000
def Cn:Int:=100000000000000000000000000000000000000000000000000
theorem Bn_eq:Bn=10000000000000000000000000000000000000000:=rfl
theorem Cn_eq:Cn=100000000000000000000000000000000000000000000000000:=rfl
abbrev Wi (b x:Int):Prop:=-b<=x/\x<=b
theorem word_abs {x:Str} (h:numW (sg x)):(valOf x).natAbs<10 ^ 40:=by
 obtain⟨h1,h2,h3,h4⟩:=h
 unfold figs at *
 have p40:∀ cs:List Nat,NumText.AllDigits cs->cs.length<=40->NumText.digitsVal cs<10 ^ 40:=fun cs hd hl=>by
  have:=foldl_lt cs 0 hd
  rw [Nat.zero_add,Nat.one_mul] at this
  exact Nat.lt_of_lt_of_le this (Nat.pow_le_pow_right (by decide) (by lia))
 unfold valOf
 split at h1
 ·rename_i hm
  rw [if_pos hm] at h2 h3 h4
  obtain⟨cs,hx⟩:∃ cs,sg x=45 :: cs:=by
   cases e:sg x with
   | nil=>rw [e] at hm; cases hm
   | cons a r=>rw [e] at hm; simp at hm; exact⟨r,by rw [hm]⟩
  rw [hx] at h1 h2 h3
  simp only [List.tail_cons] at h1 h2 h3
  rw [intText_neg hx h3 (fun z=>by rw [z] at h1; simp at h1) (by rw [<- sg_len,hx]; simp; lia)]
  have:=p40 cs h3 h2
  simpa using this
 ·rename_i hm
  rw [if_neg hm] at h2 h3 h4
  rw [intText_digits h3 (fun z=>by rw [show sg x=[] from z] at h1; simp at h1) (by rw [<- sg_len]; lia)]
  have:=p40 _ h3 h2
  simpa using this
theorem word_bn {x:Str} (h:numW (sg x)):Wi Bn (valOf x):=by
 have:=word_abs h
 rw [Bn_eq]
 constructor <;> lia
theorem keeps_far:∀ {ps xs:List Int} {a:Int},keeps ps a xs->xs.length=ps.length->(∀ p∈ps,p<=Bn)->∀ x∈xs,x - a<=Bn*ps.length/\a - x<=Bn*ps.length
 | [],[],_,_,_,_,x,hx=>by cases hx
 | [],_ :: _,_,_,h,_,_,_=>by simp at h
 | _ :: _,[],_,_,h,_,_,_=>by simp at h
 | p :: ps,y :: xs,a,h,hl,hp,x,hx=>by
   have h0:=hp p (by simp)
   have h1:=h.1
   have hb:(0:Int)<=Bn*ps.length:=Int.mul_nonneg (by rw [Bn_eq]; decide) (Int.natCast_nonneg _)
   have e:Bn*((p :: ps).length:Int)=Bn*ps.length+Bn:=by rw [List.length_cons]; push_cast; rw [Int.mul_add,Int.mul_one]
   rw [e]
   rcases List.mem_cons.mp hx with rfl | hx
   ·lia
   ·have:=keeps_far h.2 (by simpa using hl) (fun q hq=>hp q (by simp [hq])) x hx
    lia
theorem fart_mem:∀ {ys as ps:List Int} {g:Int},g∈fart ys as ps->∃ y∈ys,∃ a∈as,∃ p∈ps,g=y+ab (p - a)
 | y :: ys,a :: as,p :: ps,g,h=>by
   rw [fart] at h
   rcases List.mem_cons.mp h with rfl | h
   ·exact⟨y,by simp,a,by simp,p,by simp,rfl⟩
   ·obtain⟨y',h1,a',h2,p',h3,e⟩:=fart_mem h
    exact⟨y',by simp [h1],a',by simp [h2],p',by simp [h3],e⟩
 | [],_,_,_,h=>by rw [fart] at h; cases h; simp
 | _ :: _,[],_,_,h=>by rw [fart] at h; cases h; simp
 | _ :: _,_ :: _,[],_,h=>by rw [fart] at h; cases h; simp
theorem depths_bd:∀ {ps:List Int} {a d:Int},(∀ p∈ps,0<=p/\p<=Bn)->d∈depths a ps->a<=d/\d<=a+Bn*ps.length
 | [],_,_,_,h=>by cases h
 | p :: ps,a,d,hp,h=>by
   have h0:=hp p (by simp)
   have hb:(0:Int)<=Bn*ps.length:=Int.mul_nonneg (by rw [Bn_eq]; decide) (Int.natCast_nonneg _)
   have e:Bn*((p :: ps).length:Int)=Bn*ps.length+Bn:=by rw [List.length_cons]; push_cast; rw [Int.mul_add,Int.mul_one]
   rw [e]
   rw [depths] at h
   rcases List.mem_cons.mp h with rfl | h
   ·lia
   ·have:=depths_bd (fun q hq=>hp q (by simp [hq])) h
    lia
def BdG (i:Nat) (s:DS):Prop:=(∀ p∈s.1,p<=Bn)/\Wi (20*Bn) s.2.1/\∀ g∈s.2.2.2,Wi (Cn*i) g
theorem twelve {ps:List Int} (h:ps.length<=12):Bn*ps.length<=12*Bn:=by
 rw [Int.mul_comm]
 exact Int.mul_le_mul_of_nonneg_right (by lia) (by rw [Bn_eq]; decide)
theorem BdG.ws {i:Nat} {s:DS} (h:BdG i s) (ok:SOkS s):∀ x∈s.2.2.1,Wi (32*Bn) x:=fun x hx=>by
 have h1:=keeps_far ok.2.1.2 ok.2.1.1 h.1 x hx
 have h2:=twelve ok.1.2.1
 obtain⟨h4,h5⟩:=h.2.1
 constructor <;> lia
theorem small_wi {x:Int} (h:Wi (Cn*40) x):Small x:=by
 obtain⟨h1,h2⟩:=h
 rw [Cn_eq] at h1 h2
 unfold Small
 lia
theorem Cn_i {i:Nat} (h:i<=40):Cn*i<=Cn*40:=Int.mul_le_mul_of_nonneg_left (by lia) (by rw [Cn_eq]; decide)
theorem wi_up {a b x:Int} (h:Wi a x) (hab:a<=b):Wi b x:=⟨by have:=h.1; lia,by have:=h.2; lia⟩
theorem Bn_Cn:1000*Bn<=Cn:=by rw [Bn_eq,Cn_eq]; decide
theorem BdG.small {i:Nat} {s:DS} (h:BdG i s) (ok:SOkS s) (hi:i<=40):Small s.2.1/\(∀ n∈s.1,Small n)/\(∀ n∈s.2.2.1,Small n)/\∀ n∈s.2.2.2,Small n:=by
 have e:=Bn_Cn
 have c0:0<=Cn:=by rw [Cn_eq]; decide
 have b0:0<=Bn:=by rw [Bn_eq]; decide
 refine⟨small_wi (wi_up h.2.1 (by lia)),fun n hn=>?_,fun n hn=>small_wi (wi_up (h.ws ok n hn) (by lia)),fun n hn=>small_wi (wi_up (h.2.2 n hn) (Cn_i hi))⟩
 have h1:=h.1 n hn
 have h2:=ok.1.2.2 n hn
 exact small_wi ⟨by lia,by lia⟩
theorem BdG.up {i:Nat} {s:DS} (h:BdG i s):BdG (i+1) s:=by
 refine⟨h.1,h.2.1,fun g hg=>wi_up (h.2.2 g hg) ?_⟩
 have c0:0<=Cn:=by rw [Cn_eq]; decide
 push_cast
 rw [Int.mul_add]
 lia
theorem pc_wi {xs:List Int} {h w b:Int} (hb:0<=b) (h0:Wi b h) (hx:∀ x∈xs,Wi b x):Wi b (pc xs h w):=by
 unfold pc
 split
 ·exact h0
 ·rw [List.getD_eq_getElem?_getD]
  by_cases z:w.toNat<xs.length
  ·rw [List.getElem?_eq_getElem z]
   exact hx _ (List.getElem_mem z)
  ·rw [List.getElem?_eq_none (by lia)]
   constructor <;> show _ <;> simp <;> lia
theorem way_wi {b:Int} (hb:0<=b):∀ (row:List Int) (h:Int),Wi b h->(∀ x∈row,Wi b x)->Wi (2*b*row.length) (way h row)
 | [],h,_,_=>⟨by simp [way],by simp [way]⟩
 | x :: row,h,h0,hx=>by
   have ih:=way_wi hb row x (hx x (by simp)) fun y hy=>hx y (by simp [hy])
   obtain⟨a1,a2⟩:=h0
   obtain⟨a3,a4⟩:=hx x (by simp)
   obtain⟨a5,a6⟩:=ih
   have e:2*b*(((x :: row).length:Nat):Int)=2*b*row.length+2*b:=by rw [List.length_cons]; push_cast; rw [Int.mul_add,Int.mul_one]
   rw [e,way]
   constructor <;> (unfold ab; split <;> lia)
theorem told_wi {i:Nat} {ps ws gs goal:List Int} {hd e:Int} (h:BdG i (ps,hd,ws,gs)) (ok:SOkS (ps,hd,ws,gs)) (he:Wi Bn e) (hst:stand ps e goal):∀ n∈way hd (toldRow ps hd ws e goal) :: toldRow ps hd ws e goal,Small n:=by
 have b0:0<=Bn:=by rw [Bn_eq]; decide
 have h12:ps.length<=12:=ok.1.2.1
 have hp:∀ p∈ps,p<=Bn:=h.1
 have hp0:∀ p∈ps,0<=p:=ok.1.2.2
 have t12:=twelve h12
 have hhd:Wi (20*Bn) hd:=h.2.1
 obtain⟨e1,e2⟩:=he
 have hg:∀ x∈goal,Wi (20*Bn) x:=fun x hx=>by
  have:=keeps_far hst.2 hst.1 hp x hx
  constructor <;> lia
 have hD:∀ w,Wi (12*Bn) (pc (depths 0 ps) 0 w):=fun w=>pc_wi (by lia) ⟨by lia,by lia⟩ fun x hx=>by
  have:=depths_bd (fun q hq=>⟨hp0 q hq,hp q hq⟩) hx
  constructor <;> lia
 have hG:∀ w,Wi (20*Bn) (pc goal e w):=fun w=>pc_wi (by lia) ⟨by lia,by lia⟩ hg
 have hrow:∀ x∈toldRow ps hd ws e goal,Wi (32*Bn) x:=fun x hx=>by
  unfold toldRow told at hx
  obtain⟨m,hm,rfl⟩:=List.mem_map.mp hx
  have hok:=isPap_ok paper_isPap m hm
  obtain⟨a1,a2⟩:=hD m.1
  obtain⟨a3,a4⟩:=hG m.1
  unfold mp
  rcases hok.2.2 with z | z <;> rw [z] <;> constructor <;> lia
 have hl:(toldRow ps hd ws e goal).length<=13:=by
  unfold toldRow told
  rw [List.length_map]
  have:=paper_length (n:=ps.length) (D:=pc (depths 0 ps) 0) (F:=pc ws hd) (G:=pc goal e)
  lia
 have e3:=Bn_Cn
 have c0:0<=Cn:=by rw [Cn_eq]; decide
 intro n hn
 rcases List.mem_cons.mp hn with rfl | hn
 ·have:=way_wi (b:=32*Bn) (by lia) _ hd (wi_up hhd (by lia)) hrow
  have hm:2*(32*Bn)*((toldRow ps hd ws e goal).length:Int)<=2*(32*Bn)*13:=Int.mul_le_mul_of_nonneg_left (by lia) (by lia)
  exact small_wi (wi_up this (by lia))
 ·exact small_wi (wi_up (hrow n hn) (by lia))
theorem runs_far {ps:List Int} (ht:isTr ps):∀ (row ws:List Int) (a:Int),stand ps a ws->∀ r∈runs ps ws row,∃ c∈row,stand ps c r
 | [],_,_,_,r,hr=>by cases hr
 | c :: row,ws,a,hs,r,hr=>by
   rw [runs] at hr
   rcases List.mem_cons.mp hr with rfl | hr
   ·exact⟨c,by simp,dragAll_stand ht hs⟩
   ·obtain⟨c',h1,h2⟩:=runs_far ht row _ c (dragAll_stand ht hs) r hr
    exact⟨c',by simp [h1],h2⟩
theorem fold_bd {M:Int}:∀ (zs:List (List Int×List Int)) (gs:List Int) (b:Int),(∀ g∈gs,Wi b g)->(∀ z∈zs,(∀ x∈z.1,Wi M x)/\∀ x∈z.2,Wi M x)->∀ g∈zs.foldl (fun g p=>fart g p.1 p.2) gs,Wi (b+2*M*zs.length) g
 | [],gs,b,h,_,g,hg=>by
   have:=h g hg
   simp only [List.length_nil]
   exact⟨by have:=this.1; lia,by have:=this.2; lia⟩
 | z :: zs,gs,b,h,hz,g,hg=>by
   have h1:=hz z (by simp)
   have:=fold_bd zs (fart gs z.1 z.2) (b+2*M) (fun g' hg'=>by
    obtain⟨y,e1,a,e2,p,e3,rfl⟩:=fart_mem hg'
    have y1:=h y e1
    have a1:=h1.1 a e2
    have p1:=h1.2 p e3
    obtain⟨q1,q2⟩:=y1
    obtain⟨q3,q4⟩:=a1
    obtain⟨q5,q6⟩:=p1
    unfold ab
    constructor <;> (split <;> lia)) (fun q hq=>hz q (by simp [hq])) g hg
   have e:2*M*(((z :: zs).length:Nat):Int)=2*M*zs.length+2*M:=by rw [List.length_cons]; push_cast; rw [Int.mul_add,Int.mul_one]
   rw [e]
   exact⟨by have:=this.1; lia,by have:=this.2; lia⟩
theorem last_mem:∀ (row:List Int) (a:Int),row≠[]->lastOf a row∈row
 | [],_,h=>absurd rfl h
 | [c],_,_=>by simp [lastOf]
 | c :: d :: r,a,_=>List.mem_cons_of_mem _ (last_mem (d :: r) c (by simp))
theorem act_bd {i:Nat} {ss ss':List DS} {row word:Str} {ns:List Int} (ho:∀ s∈ss,SOkS s) (hb:∀ s∈ss,BdG i s) (hC:RowCh row) (hr:RowOk row word ns) (h:actO ss word ns=.done ss'):∃ s',ss'=ss++[s']/\BdG (i+1) s'/\SOkS s':=by
 have hB:∀ n∈ns,Wi Bn n:=fun n hn=>by
  obtain⟨rest,_,⟨hw,_⟩,rfl⟩:=hr
  obtain⟨x,hx,rfl⟩:=List.mem_map.mp hn
  exact word_bn (hw x hx)
 have b0:0<=Bn:=by rw [Bn_eq]; decide
 have c0:0<=Cn:=by rw [Cn_eq]; decide
 have hfew:=hC.few hr
 have addS:∀ s',ss'=ss++[s']->BdG (i+1) s'->∃ s',ss'=ss++[s']/\BdG (i+1) s'/\SOkS s':=fun s' e z=>⟨s',e,z,act_ok ho (e ▸ h)⟩
 have hzer:∀ n,∀ g∈zeros n,Wi (Cn*((i+1:Nat):Int)) g:=fun n g hg=>by
  have:g=0:=List.eq_of_mem_replicate hg
  have:=Int.mul_nonneg c0 (Int.natCast_nonneg (i+1))
  constructor <;> lia
 by_cases hp:word = "plays"
 ·subst hp
  have h':=h
  rw [act_plays] at h'
  split at h'
  ·refine addS _ (Oc.done.inj h').symm ⟨fun p hp=>(hB p hp).2,⟨?_,?_⟩,hzer _⟩
   ·show -(20*Bn)<=0
    lia
   ·show 0<=20*Bn
    lia
  ·cases h'
 rcases List.eq_nil_or_concat ss with rfl | ⟨ss0,⟨ps,hd,ws,gs⟩,rfl⟩
 ·rw [act_nil hp] at h
  cases h
 rw [List.concat_eq_append] at *
 have ok:=ho (ps,hd,ws,gs) (by simp)
 have bd:=hb (ps,hd,ws,gs) (by simp)
 have hpB:∀ p∈ps,p<=Bn:=bd.1
 have hn12:Bn*ps.length<=12*Bn:=twelve ok.1.2.1
 have hgs:∀ g∈gs,Wi (Cn*i) g:=bd.2.2
 have hws:∀ x∈ws,Wi (32*Bn) x:=bd.ws ok
 have e1:Cn*((i+1:Nat):Int)=Cn*i+Cn:=by push_cast; rw [Int.mul_add,Int.mul_one]
 have h':=h
 rw [act_some hp] at h'
 have hne:word = "at" \/ word = "turn" -> ns≠[]:=fun n1 e=>by
  obtain⟨rest,_,⟨_,l,m,hf,h1,_⟩,rfl⟩:=hr
  have:rest.length=0:=by have:=congrArg List.length e; simpa using this
  rcases forms_get hf with ⟨z,y,_⟩ | ⟨z,y,_⟩ | ⟨z,y,_⟩ | ⟨z,y,_⟩ | ⟨z,y,_⟩ | ⟨z,y,_⟩ | ⟨z,y,_⟩ | ⟨z,y,_⟩ | ⟨z,y,_⟩ | ⟨z,y,_⟩
  all_goals first | lia | (rw [z] at n1; exact absurd n1 (by decide+kernel))
 split at h'
 ·rename_i hw
  split at h'
  ·have hin:Wi Bn (ns.headD 0):=hB _ (by
    have:=hne (.inl hw)
    cases ns with
    | nil=>exact absurd rfl this
    | cons a b=>simp)
   exact addS _ (Oc.done.inj h').symm ⟨hpB,wi_up hin (by lia),hzer _⟩
  ·cases h'
 split at h'
 ·rename_i _ hw
  refine addS _ (Oc.done.inj h').symm ⟨hpB,wi_up (hB _ (last_mem ns hd (hne (.inr hw)))) (by lia),?_⟩
  show ∀ g∈farL gs (ws :: runs ps ws ns),Wi (Cn*((i+1:Nat):Int)) g
  intro g hg
  unfold farL at hg
  have hx:∀ r∈ws :: runs ps ws ns,∀ x∈r,Wi (32*Bn) x:=fun r hr2 x hx=>by
   rcases List.mem_cons.mp hr2 with rfl | hr2
   ·exact hws x hx
   ·obtain⟨c,hc,hst⟩:=runs_far (show isTr ps from ok.1) ns ws hd ok.2.1 r hr2
    have q1:=keeps_far hst.2 hst.1 hpB x hx
    obtain⟨q3,q4⟩:=hB c hc
    constructor <;> lia
  have hf:=fold_bd (M:=32*Bn) _ gs (Cn*i) hgs (fun z hz=>⟨hx _ (List.of_mem_zip hz).1,hx _ (List.mem_of_mem_tail (List.of_mem_zip hz).2)⟩) g hg
  have hll:(((ws :: runs ps ws ns).zip (ws :: runs ps ws ns).tail).length:Int)<=330:=by
   rw [List.length_zip,List.length_tail,List.length_cons,runs_length]
   lia
  have hmul:2*(32*Bn)*(((ws :: runs ps ws ns).zip (ws :: runs ps ws ns).tail).length:Int)<=2*(32*Bn)*330:=Int.mul_le_mul_of_nonneg_left hll (by lia)
  rw [e1]
  have bc2:100000*Bn<=Cn:=by rw [Bn_eq,Cn_eq]; decide
  exact wi_up hf (by lia)
 split at h'
 ·split at h' <;> cases h'
 split at h'
 ·cases h'
 split at h'
 ·cases h'
 split at h' <;> cases h'
theorem say_small {i:Nat} {ss:List DS} {row word:Str} {ns:List Int} (ho:∀ s∈ss,SOkS s) (hb:∀ s∈ss,BdG i s) (hi:i<=40) (hr:RowOk row word ns):SmallG ss word ns:=by
 have b0:0<=Bn:=by rw [Bn_eq]; decide
 rintro ss0 ps hd ws gs rfl
 have ok:=ho (ps,hd,ws,gs) (by simp)
 have bd:=hb (ps,hd,ws,gs) (by simp)
 obtain⟨m1,m2,m3,m4⟩:=bd.small ok hi
 have hh:Wi Bn (ns.headD 0):=by
  cases ns with
  | nil=>exact⟨by show -Bn<=0; lia,by show 0<=Bn; lia⟩
  | cons a b =>
    obtain⟨rest,_,⟨hw,_⟩,e⟩:=hr
    obtain⟨x,hx,e2⟩:=List.mem_map.mp (by rw [<- e]; simp:a∈rest.map valOf)
    show Wi Bn a
    rw [<- e2]
    exact word_bn (hw x hx)
 exact⟨m1,m2,m3,m4,fun _ hst=>told_wi bd ok hh hst⟩
def tot (qs:List Str):Nat:=(qs.map (·.length)).sum+qs.length
theorem tot_app (a b:List Str):tot (a++b)=tot a+tot b:=by
 unfold tot
 rw [List.map_append,List.sum_append,List.length_append]
 lia
theorem tot_cut (qs:List Str) (n:Nat):tot (qs.take n)+tot (qs.drop n)=tot qs:=by rw [<- tot_app,List.take_append_drop]
theorem tot_join (qs:List Str):(Str.join ⟨#[32]⟩ qs).length<=tot qs:=by
 cases qs with
 | nil=>exact Nat.zero_le _
 | cons a r =>
   have:=join_len ⟨#[32]⟩ (ss:=a :: r) (by simp)
   rw [show (⟨#[32]⟩:Str).length=1 from rfl,Nat.mul_one] at this
   unfold tot
   lia
theorem tot_drop1 (qs:List Str) (n:Nat):tot (qs.drop (n+1))<=tot (qs.drop n):=by
 have:=tot_cut (qs.drop n) 1
 rw [List.drop_drop] at this
 lia
structure Spo (row y:Str):Prop where
 len:y.length<=row.length+110
 up:(sg y).count 32<=(sg row).count 32+1
 ch:∃ d,d<128/\∀ c∈sg y,c∈sg row\/c=32\/c=d
theorem Spo.row {row y:Str} (h:RowD row) (s:Spo row y):RowCh y:=by
 obtain⟨w0,hw,h4⟩:=h.ch
 obtain⟨d,hd,h5⟩:=s.ch
 have l1:=s.len
 have l2:=s.up
 have l3:=h.len
 have l4:=h.cnt
 refine⟨by lia,by lia,w0,hw,d,hd,fun c hc=>?_⟩
 rcases h5 c hc with z | z | z
 ·rcases h4 c z with y | y | y | y | y
  ·exact .inl y
  ·exact .inr (.inl y)
  ·exact .inr (.inr (.inl y))
  ·exact .inr (.inr (.inr (.inl y)))
  ·exact .inr (.inl y)
 ·exact .inr (.inl z)
 ·exact .inr (.inr (.inr (.inr z)))
theorem cnt_drop (L:List Nat) (n:Nat):(L.drop (n+1)).count 32<=(L.drop n).count 32/\(L.drop n).count 32<=(L.drop (n+1)).count 32+1:=by
 by_cases h:n<L.length
 ·rw [List.drop_eq_getElem_cons h,List.count_cons]
  split <;> lia
 ·rw [List.drop_of_length_le (by lia),List.drop_of_length_le (by lia)]
  simp
theorem cnt_cut (L:List Nat) (n:Nat):(L.take n).count 32+(L.drop n).count 32=L.count 32:=by rw [<- List.count_append,List.take_append_drop]
theorem spo_mid {row y:Str} {n d:Nat} {M:List Nat} (hd:d<128) (hM:M=[]\/M=[d]) (h:sg y=(sg row).take n++(M++(sg row).drop n)\/sg y=(sg row).take n++(M++(sg row).drop (n+1))):Spo row y:=by
 have c1:=cnt_cut (sg row) n
 have c2:=cnt_drop (sg row) n
 have hM1:M.length<=1/\M.count 32<=1/\∀ c∈M,c=d:=by
  rcases hM with rfl | rfl
  ·exact⟨by decide,by decide,fun c hc=>by cases hc⟩
  ·exact⟨Nat.le_refl _,List.count_le_length,fun c hc=>by simpa using hc⟩
 obtain⟨m1,m2,m3⟩:=hM1
 have key:∀ B:List Nat,sg y=(sg row).take n++(M++B)->B.length<=((sg row).drop n).length->B.count 32<=((sg row).drop n).count 32->(∀ c∈B,c∈sg row)->Spo row y:=fun B e b1 b2 b3=>by
  have l:=List.length_append (as:=(sg row).take n) (bs:=(sg row).drop n)
  rw [List.take_append_drop,sg_len] at l
  refine⟨?_,?_,d,hd,fun c hc=>?_⟩
  ·rw [<- sg_len y,e,List.length_append,List.length_append]
   lia
  ·rw [e,List.count_append,List.count_append]
   lia
  ·rw [e] at hc
   rcases List.mem_append.mp hc with z | z
   ·exact .inl (List.mem_of_mem_take z)
   rcases List.mem_append.mp z with z | z
   ·exact .inr (.inr (m3 c z))
   ·exact .inl (b3 c z)
 rcases h with h | h
 ·exact key _ h (Nat.le_refl _) (Nat.le_refl _) fun c hc=>List.mem_of_mem_drop hc
 ·exact key _ h (by rw [List.length_drop,List.length_drop]; lia) c2.1 fun c hc=>List.mem_of_mem_drop hc
theorem spo_words {row:Str} {qs:List Str} (hs:∀ p∈qs,p∈Txt.split row ⟨#[32]⟩) (hu:qs.length<=(Txt.split row ⟨#[32]⟩).length+1) (ht:tot qs<=row.length+110):Spo row (Str.join ⟨#[32]⟩ qs):=by
 have hc:=split_count row
 have hj:=tot_join qs
 refine⟨by lia,?_,32,by decide,fun c hc=>?_⟩
 ·cases qs with
  | nil =>
    have e:(sg (Str.join ⟨#[32]⟩ [])).count 32=0:=by decide+kernel
    lia
  | cons a r =>
    have h1:=join_count (ws:=a :: r) (by simp) fun p hp=>StrLaws.split_free row 32 p (hs p hp)
    lia
 ·rcases join_chars hc with z | ⟨p,hp,z⟩
  ·exact .inr (.inl z)
  ·exact .inl (split_mem (hs p hp) z)
theorem tot_one {L:List Str} (h:∀ p∈L,p.length<=100):tot (L.take 1)<=101:=by
 cases L with
 | nil=>decide
 | cons a r =>
   have:=h a (by simp)
   show (([a].map (·.length)).sum+1)<=101
   simp
   lia
def spSpoil32:Sp:=fun vs H Q _=>∃ (text:Str) (c:Addr) (pk:List Int),vs=[.str text,.ref c]/\H c=some (.lst (iL pk))/\pk.length=4/\(∀ p∈pk,0<=p)/\RowD text/\∀ y H',Same H H'->RowCh y->Q (.str y) H'
theorem Oq17 (T:Txt mg) (D:Def K mg "_law_spoilt" Gq17):Callee P w K mg base "_law_spoilt" 1 spSpoil32:=by
 refine D.ok Uq17 Jq17 (fun vs H Q E h=>?len) (fun f cdv A outer s H vs Q E hr h=>?body)
 case len=>obtain⟨text,c,pk,rfl,_⟩:=h; rfl
 case body =>
  obtain⟨text,c,pk,rfl,hC,hpk,hp0,hD,k⟩:=h
  have hl:=hD.len
  walk_at"z4"
  refine⟨_,(pss_cons (psS 2 Uq17.nd pe_str)
 (pss_cons (psS 3 Uq17.nd pe_str)
 (pss_join (psS 4 Uq17.nd (pe_menu (pa_cons (pe_ix (ix_Q (K:=K)) (pv 2) (pe_op op_mod (pe_ix (ix_Q (K:=K)) (pv 1) pe_int (by exact fun _ _=>rfl)) pe_int) (by exact fun _ _=>rfl)) (pa_cons (pe_ix (ix_Q (K:=K)) (pv 3) (pe_op op_mod (pe_ix (ix_Q (K:=K)) (pv 1) pe_int (by exact fun _ _=>rfl)) pe_int) (by exact fun _ _=>rfl)) pa_nil)) (pe_op op_mod (pe_ix (ix_Q (K:=K)) (pv 1) pe_int (by exact fun _ _=>rfl)) pe_int) (by exact fun _ _=>rfl)))
 (pss_cons (psS 5 Uq17.nd (pe_op op_mod (pe_ix (ix_Q (K:=K)) (pv 1) pe_int (by exact fun _ _=>rfl)) (pe_op op_addQ (pe_callB (call_lenK K) (by rfl) T.z_len bt_len (pa_cons (pv 0) pa_nil)) pe_int)))
 (pss_join (ps_if (pt_cmpR (op_eqK K hu) (pe_op op_mod (pe_ix (ix_Q (K:=K)) (pv 1) pe_int (by exact fun _ _=>rfl)) pe_int) pe_int (nomark _))
 (pss_cons (by exact ps_setC (i:=6) Uq17.nd rfl (Or.inl rfl) (N:=["k", "text"]) (fr:=[none,some 0]) ⟨by rfl,by decide+kernel,by decide+kernel,(show ∀ y∈(_:List (Str×NameKind)),y.2=NameKind.free->(defScope Gq17).names.lookup y.1=some .cell\/(defScope Gq17).names.lookup y.1=some .free by decide+kernel),(fr_none (fr_some (by rfl) (by first | exact Or.inl rfl | exact Or.inr rfl) (by rfl) fr_nil))⟩ (by rfl) (pi_range1 (by rfl) T.z_range (pa_cons (pe_callB (call_lenK K) (by rfl) T.z_len bt_len (pa_cons (pv 0) pa_nil)) pa_nil)) (fun _ _ _ _=>(pg_name (i:=0) (show List.Nodup (["k", "text"]:List Str) by decide) (by rfl) (by first | exact Or.inl rfl | exact Or.inr rfl))) (fun _ _ _ _=>(pifs_one (pt_cmpR (op_inQ (K:=K)) (pe_ix (ix_Q (K:=K)) (pv 1) (pv 0) (by exact fun _ _=>rfl)) pe_str (by rfl)))) (fun _ _ _ _=>(pv 0)) (gw_name (by rfl)))
 (pss_one (psS 5 Uq17.nd (pe_ix (ix_Q (K:=K)) (pe_op op_addQ (pe_op op_addQ (pe_lst (pa_cons pe_int (pa_cons (pe_callB (call_lenK K) (by rfl) T.z_len bt_len (pa_cons (pv 0) pa_nil)) pa_nil))) (pv 6)) (by exact pe_comp (N:=["k"]) (fr:=[none]) ⟨by rfl,by decide+kernel,by decide+kernel,(show ∀ y∈(_:List (Str×NameKind)),y.2=NameKind.free->(defScope Gq17).names.lookup y.1=some .cell\/(defScope Gq17).names.lookup y.1=some .free by decide+kernel),(fr_none fr_nil)⟩ (by rfl) (pi_listK K (pv 6)) (fun _ _ _ _=>(pg_name (i:=0) (show List.Nodup (["k"]:List Str) by decide) (by rfl) (by first | exact Or.inl rfl | exact Or.inr rfl))) (fun _ _ _ _=>pifs_nil) (fun _ _ _ _=>(pe_op op_addQ (pv 0) pe_int)) (gw_name (by rfl)))) (pe_op op_mod (pe_ix (ix_Q (K:=K)) (pv 1) pe_int (by exact fun _ _=>rfl)) (pe_op op_addQ pe_int (pe_op op_mulQ pe_int (pe_callB (call_lenK K) (by rfl) T.z_len bt_len (pa_cons (pv 6) pa_nil))))) (by exact fun _ _=>rfl)))))
 pss_nil)
 (pss_cons (psS 7 Uq17.nd (pe_bmK K PySem.F.plainAttrs_str PySem.F.slot_str_split PySem.F.type_str_split mt_split (pv 0) (pa_cons pe_str pa_nil)))
 (pss_join (psS 8 Uq17.nd (pe_op op_mod (pe_ix (ix_Q (K:=K)) (pv 1) pe_int (by exact fun _ _=>rfl)) (pe_callB (call_lenK K) (by rfl) T.z_len bt_len (pa_cons (pv 7) pa_nil))))
 (pss_cons (ps_if (pt_cmpR (op_eqK K hu) (pe_op op_mod (pe_op op_fdiv (pe_ix (ix_Q (K:=K)) (pv 1) pe_int (by exact fun _ _=>rfl)) pe_int) pe_int) pe_int (nomark _))
 (pss_one (ps_ret (pe_op op_addQ (pe_slice (sl_Q (K:=K)) (pv 0) po_none (po_some (pv 5))) (pe_slice (sl_Q (K:=K)) (pv 0) (po_some (pe_op op_addQ (pv 5) pe_int)) po_none))))
 pss_nil)
 (pss_cons (ps_if (pt_cmpR (op_eqK K hu) (pe_op op_mod (pe_op op_fdiv (pe_ix (ix_Q (K:=K)) (pv 1) pe_int (by exact fun _ _=>rfl)) pe_int) pe_int) pe_int (nomark _))
 (pss_one (ps_ret (pe_op op_addQ (pe_op op_addQ (pe_slice (sl_Q (K:=K)) (pv 0) po_none (po_some (pv 5))) (pv 4)) (pe_slice (sl_Q (K:=K)) (pv 0) (po_some (pe_op op_addQ (pv 5) pe_int)) po_none))))
 pss_nil)
 (pss_cons (ps_if (pt_cmpR (op_eqK K hu) (pe_op op_mod (pe_op op_fdiv (pe_ix (ix_Q (K:=K)) (pv 1) pe_int (by exact fun _ _=>rfl)) pe_int) pe_int) pe_int (nomark _))
 (pss_one (ps_ret (pe_op op_addQ (pe_op op_addQ (pe_slice (sl_Q (K:=K)) (pv 0) po_none (po_some (pv 5))) (pv 4)) (pe_slice (sl_Q (K:=K)) (pv 0) (po_some (pv 5)) po_none))))
 pss_nil)
 (pss_cons (ps_if (pt_cmpR (op_eqK K hu) (pe_op op_mod (pe_op op_fdiv (pe_ix (ix_Q (K:=K)) (pv 1) pe_int (by exact fun _ _=>rfl)) pe_int) pe_int) pe_int (nomark _))
 (pss_one (ps_ret (pe_bmK K PySem.F.plainAttrs_str PySem.F.slot_str_join PySem.F.type_str_join (mt_joinK K) pe_str (pa_cons (pe_op op_addQ (pe_slice (sl_Q (K:=K)) (pv 7) po_none (po_some (pv 8))) (pe_slice (sl_Q (K:=K)) (pv 7) (po_some (pe_op op_addQ (pv 8) pe_int)) po_none)) pa_nil))))
 pss_nil)
 (pss_one (ps_ret (pe_bmK K PySem.F.plainAttrs_str PySem.F.slot_str_join PySem.F.type_str_join (mt_joinK K) pe_str (pa_cons (pe_op op_addQ (pe_op op_addQ (pe_slice (sl_Q (K:=K)) (pv 7) po_none (po_some (pv 8))) (pe_slice (sl_Q (K:=K)) (pv 7) (po_some (pv 8)) (po_some (pe_op op_addQ (pv 8) pe_int)))) (pe_slice (sl_Q (K:=K)) (pv 7) (po_some (pv 8)) po_none)) pa_nil))))))))))))))),?_⟩
  walk_at"un"
  try clear hu
  have it:∀ {Q':VK} {H':Hp} {j:Int},Same H H'->0<=j->j<4->(∀ v,0<=v->Q' (.int v) H')->rIxQ K (.ref c) (.int j) H' Q':=fun e h0 h1 q=>.inl (i_ixL (SqL.of (e _ _ hC)) h0 (by lia) fun v _ m=>q v (hp0 v m))
  walk_at"s"
  have ch:∀ {Q':VK} {H':Hp} {S:Str} {j m:Int},0<=j->j<m->m<=S.length->S.length<=1000->Asc S->(∀ y,Asc y->y.length=1->Q' (.str y) H')->rIxQ K (.str S) (.int j) H' Q':=fun {Q'} {H'} {S} {j} {m} h0 h1 h2 h3 h4 q=>by
   have hj:j.toNat<(sg S).length:=by rw [sg_len]; lia
   refine i_ixS (by lia) h0 (c:=(sg S)[j.toNat]) (List.getElem?_eq_getElem hj) (q _ (fun d hd=>?_) rfl)
   have:d=(sg S)[j.toNat]:=by simpa using hd
   rw [this]
   exact h4 _ (List.getElem_mem hj)
  refine⟨fun σ H1=>∃ (u2 u3:Option V) (y:Str),σ = [some (.str text),some (.ref c),u2,u3,some (.str y),none,none,none,none]/\Asc y/\y.length=1/\H=H1,?_,?_⟩
  ·walk_at"s"
   refine it (Same.refl _) (by decide) (by decide) (fun v1 z1=>?_);walk_at"s"
   refine ch (m:=96) (Int.emod_nonneg _ (by decide)) (Int.emod_lt_of_pos _ (by decide)) (by decide+kernel) (by decide+kernel) (by decide+kernel) (fun y1 a1 b1=>?_);walk_at"s"
   refine it (Same.refl _) (by decide) (by decide) (fun v2 z2=>?_);walk_at"s"
   refine ch (m:=8) (Int.emod_nonneg _ (by decide)) (Int.emod_lt_of_pos _ (by decide)) (by decide+kernel) (by decide+kernel) (by decide+kernel) (fun y2 a2 b2=>?_);walk_at"s"
   refine it (Same.refl _) (by decide) (by decide) (fun v3 z3=>?_);walk_at"s"
   have r1:=Int.emod_nonneg v3 (show (2:Int)≠0 by decide)
   have r2:=Int.emod_lt_of_pos v3 (show (0:Int)<2 by decide)
   generalize v3 % 2=i at *
   rcases (show i=0\/i=1 by lia) with rfl | rfl
   ·exact⟨0,_,rfl,rfl,_,_,y1,rfl,a1,b1,rfl⟩
   ·exact⟨1,_,rfl,rfl,_,_,y2,rfl,a2,b2,rfl⟩
  rintro σ H1 ⟨u2,u3,y,rfl,hy1,hy2,rfl⟩
  clear ch
  walk_at"s"
  refine it (Same.refl _) (by decide) (by decide) (fun v0 z0=>?_);walk_at"s"
  refine i_lenS (by lia) ?_;walk_at"s"
  refine i_addQI ?_;walk_at"s"
  have r3:=Int.emod_nonneg v0 (show (text.length:Int)+1≠0 by lia)
  have r4:=Int.emod_lt_of_pos v0 (show (0:Int)<(text.length:Int)+1 by lia)
  generalize v0 % ((text.length:Int)+1)=at0 at *
  refine⟨fun σ H1=>∃ (u6:Option V) (a:Int),σ = [some (.str text),some (.ref c),u2,u3,some (.str y),some (.int a),u6,none,none]/\0<=a/\a<=text.length/\Same H H1,?_,?_⟩
  ·walk_at"s"
   refine it (Same.refl _) (by decide) (by decide) (fun v3 z3=>?_);walk_at"s"
   walk_at"z2"
   ·walk_at"s"
    refine i_lenS (by lia) ?_;walk_at"s"
    refine⟨by lia,by lia,cp_range (fun i ys H2=>∃ mk:List Int,ys=iL mk/\H=H2/\mk.length<=i/\∀ m∈mk,0<=m/\m<text.length) ⟨[],rfl,rfl,Nat.le_refl _,fun m hm=>by cases hm⟩ ?_ (szlt (by lia)) ?_ ?_⟩
    ·rintro i ys H2 ⟨mk,rfl,rfl,hm,_⟩
     simpa [iL] using hm
    ·rintro i ys H2 hi ⟨mk,rfl,rfl,hm,hin⟩
     have hj:(0+(i:Int)).toNat<(sg text).length:=by rw [sg_len]; lia
     walk_at"s"
     refine i_ixS (by lia) (by lia) (c:=(sg text)[(0+(i:Int)).toNat]) (List.getElem?_eq_getElem hj) ?_;walk_at"s"
     refine i_inC ?_;walk_at"s"
     refine i_if (fun g9=>?_) (fun g9=>?_)
     ·walk_at"s"
      refine⟨mk++[0+(i:Int)],by simp [iL],rfl,by simp; lia,fun m hm'=>?_⟩
      rcases List.mem_append.mp hm' with z | z
      ·exact hin m z
      ·have:m=0+(i:Int):=by simpa using z
       lia
     ·exact⟨mk,rfl,rfl,by lia,hin⟩
    rintro lm ys H2 ⟨mk,rfl,rfl,hm,hin⟩ hlm
    have e2:upd H lm (.lst (iL mk)) lm=some (.lst (iL mk)):=upd_same
    have s2:Same H _:=same_upd (o:=.lst (iL mk)) hlm
    generalize upd H lm (.lst (iL mk))=H2 at *
    have hmk:mk.length<=19000:=by lia
    walk_at"s"
    refine i_lenS (by lia) ?_;walk_at"s"
    intro l3 h3
    have e3:upd H2 l3 (.lst [.int 0,.int text.length]) l3=some (.lst (iL [0,(text.length:Int)])):=upd_same
    have s3:Same H2 _:=same_upd (o:=.lst [.int 0,.int text.length]) h3
    generalize upd H2 l3 (.lst [.int 0,.int text.length])=H3 at *
    walk_at"s"
    refine .inl (i_addL e3 (s3 _ _ e2) (szl (by simp [iL]; lia)) (fun l4 h4=>?_))
    have e4:upd H3 l4 (.lst (iL [0,(text.length:Int)]++iL mk)) l4=some (.lst (iL ([0,(text.length:Int)]++mk))):=by rw [upd_same]; simp [iL]
    have s4:Same H3 _:=same_upd (o:=.lst (iL [0,(text.length:Int)]++iL mk)) h4
    generalize upd H3 l4 (.lst (iL [0,(text.length:Int)]++iL mk))=H4 at *
    have f4:=s4 _ _ (s3 _ _ e2)
    walk_at"s"
    refine⟨⟨_,SqL.of f4⟩,cp_list (xs:=iL mk) (fun i ys H5=>ys=iL ((mk.take i).map (·+1))/\H4=H5) ⟨rfl,rfl⟩ ?_ (szlt (by simp [iL]; lia)) ?_ ?_⟩
    ·rintro i ys H5 ⟨rfl,rfl⟩
     exact⟨SqL.of f4,by simp [iL]; lia⟩
    ·rintro i x ys H5 hx ⟨rfl,rfl⟩
     unfold iL at hx
     rw [List.getElem?_map] at hx
     obtain⟨q,hq,rfl⟩:=Option.map_eq_some_iff.mp hx
     walk_at"s"
     refine i_addQI ?_
     refine⟨?_,rfl⟩
     rw [take_snoc_get hq]
     simp [iL]
    rintro l5 ys H5 ⟨rfl,rfl⟩ h5
    rw [show (iL mk).length=mk.length by simp [iL],List.take_of_length_le (Nat.le_refl _)]
    have e5:upd H4 l5 (.lst (iL (mk.map (·+1)))) l5=some (.lst (iL (mk.map (·+1)))):=upd_same
    have s5:Same H4 _:=same_upd (o:=.lst (iL (mk.map (·+1)))) h5
    generalize upd H4 l5 (.lst (iL (mk.map (·+1))))=H5 at *
    refine .inl (i_addL (s5 _ _ e4) e5 (szl (by simp [iL]; lia)) (fun l6 h6=>?_))
    have e6:upd H5 l6 (.lst (iL ([0,(text.length:Int)]++mk)++iL (mk.map (·+1)))) l6=some (.lst (iL ([0,(text.length:Int)]++mk++mk.map (·+1)))):=by rw [upd_same]; simp [iL]
    have s6:Same H5 _:=same_upd (o:=.lst (iL ([0,(text.length:Int)]++mk)++iL (mk.map (·+1)))) h6
    generalize upd H5 l6 (.lst (iL ([0,(text.length:Int)]++mk)++iL (mk.map (·+1))))=H6 at *
    have S6:=s2.trans (s3.trans (s4.trans (s5.trans s6)))
    walk_at"s"
    refine it S6 (by decide) (by decide) (fun w0 y0=>?_);walk_at"s"
    refine i_lenI (SqL.of (s6 _ _ (s5 _ _ f4))) ?_;walk_at"s"
    refine i_mulQI (cmul_l (by decide) (by decide)) ?_;walk_at"s"
    refine i_addQI ?_;walk_at"s"
    have r5:=Int.emod_nonneg w0 (show 2+2*(mk.length:Int)≠0 by lia)
    have r6:=Int.emod_lt_of_pos w0 (show (0:Int)<2+2*(mk.length:Int) by lia)
    refine .inl (i_ixL (SqL.of e6) r5 (by simp; lia) (fun v _ hv=>?_))
    refine⟨_,v,rfl,?_,?_,S6⟩
    ·simp only [List.mem_append,List.mem_cons,List.mem_map,List.not_mem_nil,or_false] at hv
     rcases hv with ((rfl | rfl) | z) | ⟨q,z,rfl⟩
     ·lia
     ·lia
     ·have:=hin v z; lia
     ·have:=hin q z; lia
    ·simp only [List.mem_append,List.mem_cons,List.mem_map,List.not_mem_nil,or_false] at hv
     rcases hv with ((rfl | rfl) | z) | ⟨q,z,rfl⟩
     ·lia
     ·lia
     ·have:=hin v z; lia
     ·have:=hin q z; lia
   ·walk_at"s"
    exact⟨_,at0,rfl,r3,by lia,Same.refl _⟩
  rintro σ H1 ⟨u6,a,rfl,ha1,ha2,s1⟩
  walk_at"s"
  have hP:=split_ok text 32
  refine⟨rfl,text,⟨#[32]⟩,rfl,rfl,rfl,by lia,?_,fun l2 h2=>?_⟩
  ·have:=hP.sum
   lia
  have hPs:tot (Txt.split text ⟨#[32]⟩)=text.length+1:=hP.sum
  have hPw:=hD.wl
  have hsw:=fun {qs:List Str}=>spo_words (row:=text) (qs:=qs)
  have hPn:=List.length_pos_iff.mpr hP.ne
  have hPc:(Txt.split text ⟨#[32]⟩).length<=text.length+1:=by have:=hP.sum; lia
  generalize Txt.split text ⟨#[32]⟩=ss at *
  have e2:upd H1 l2 (.lst (ss.map V.str)) l2=some (.lst (ss.map V.str)):=upd_same
  have s2:Same H _:=s1.trans (same_upd (o:=.lst (ss.map V.str)) h2)
  generalize upd H1 l2 (.lst (ss.map V.str))=H2 at *
  clear s1 h2
  walk_at"s"
  refine⟨fun σ H3=>∃ kk:Int,σ = [some (.str text),some (.ref c),u2,u3,some (.str y),some (.int a),u6,some (.ref l2),some (.int kk)]/\0<=kk/\H2=H3,?_,?_⟩
  ·walk_at"s"
   refine it s2 (by decide) (by decide) (fun w0 y0=>?_);walk_at"s"
   refine i_len (SqL.of e2) ?_
   rw [List.length_map]
   walk_at"s"
   exact⟨Int.emod_nonneg _ (by lia),rfl⟩
  rintro σ H3 ⟨kk,rfl,hk0,rfl⟩
  have sl1:=Txt.slice_le text none (some a)
  have sl2:=Txt.slice_le text (some (a+1)) none
  have sl3:=Txt.slice_le text (some a) none
  obtain⟨d,hd⟩:∃ d,sg y=[d]:=List.length_eq_one_iff.mp (by rw [sg_len]; exact hy2)
  have hd2:d<128:=hy1 d (by rw [hd]; simp)
  have g1:=txt_to text ha1
  have g2:=txt_from text (show 0<=a+1 by lia)
  have g3:=txt_from text ha1
  rw [show (a+1).toNat=a.toNat+1 by lia] at g2
  have apl:=app_len (Txt.slice text none (some a)) y
  walk_at"s"
  refine it s2 (by decide) (by decide) (fun w2 y2=>?_);walk_at"s"
  walk_at"z2"
  ·walk_at"s"
   refine i_slS (by lia) ?_;walk_at"s"
   refine i_addQI ?_;walk_at"s"
   refine i_slS (by lia) ?_
   refine i_addQS (by lia) ?_
   exact k _ _ s2 (Spo.row hD (spo_mid (n:=a.toNat) (M:=[]) (d:=32) (by decide) (.inl rfl) (.inr (by rw [sg_app,g1,g2]; rfl))))
  clear g
  walk_at"s"
  refine it s2 (by decide) (by decide) (fun w2 y2=>?_);walk_at"s"
  walk_at"z2"
  ·walk_at"s"
   refine i_slS (by lia) ?_;walk_at"s"
   refine i_addQS (by lia) ?_;walk_at"s"
   refine i_addQI ?_;walk_at"s"
   refine i_slS (by lia) ?_
   refine i_addQS (by lia) ?_
   exact k _ _ s2 (Spo.row hD (spo_mid (n:=a.toNat) (M:=[d]) hd2 (.inr rfl) (.inr (by rw [sg_app,sg_app,g1,g2,hd,List.append_assoc]))))
  clear g
  walk_at"s"
  refine it s2 (by decide) (by decide) (fun w2 y2=>?_);walk_at"s"
  walk_at"z2"
  ·walk_at"s"
   refine i_slS (by lia) ?_;walk_at"s"
   refine i_addQS (by lia) ?_;walk_at"s"
   refine i_slS (by lia) ?_
   refine i_addQS (by lia) ?_
   exact k _ _ s2 (Spo.row hD (spo_mid (n:=a.toNat) (M:=[d]) hd2 (.inr rfl) (.inl (by rw [sg_app,sg_app,g1,g3,hd,List.append_assoc]))))
  clear g
  have t1:=tot_cut ss kk.toNat
  have t2:=tot_drop1 ss kk.toNat
  have t3:=tot_cut (ss.drop kk.toNat) 1
  walk_at"s"
  refine it s2 (by decide) (by decide) (fun w2 y2=>?_);walk_at"s"
  walk_at"z2"
  ·walk_at"s"
   refine⟨rfl,?_⟩;walk_at"s"
   refine .inl ⟨l2,_,rfl,SqL.of e2,fun l3 h3=>?_⟩
   rw [cut_to hk0,<- List.map_take]
   have e3:upd H2 l3 (.lst ((ss.take kk.toNat).map V.str)) l3=some (.lst ((ss.take kk.toNat).map V.str)):=upd_same
   have s3:Same H2 _:=same_upd (o:=.lst ((ss.take kk.toNat).map V.str)) h3
   generalize upd H2 l3 (.lst ((ss.take kk.toNat).map V.str))=H3 at *
   walk_at"s"
   refine i_addQI ?_;walk_at"s"
   refine .inl ⟨l2,_,rfl,SqL.of (s3 _ _ e2),fun l4 h4=>?_⟩
   rw [cut_from (by lia),<- List.map_drop,show (kk+1).toNat=kk.toNat+1 by lia]
   have e4:upd H3 l4 (.lst ((ss.drop (kk.toNat+1)).map V.str)) l4=some (.lst ((ss.drop (kk.toNat+1)).map V.str)):=upd_same
   have s4:Same H3 _:=same_upd (o:=.lst ((ss.drop (kk.toNat+1)).map V.str)) h4
   generalize upd H3 l4 (.lst ((ss.drop (kk.toNat+1)).map V.str))=H4 at *
   have hc1:(ss.take kk.toNat).length+(ss.drop (kk.toNat+1)).length<=20000:=by
    rw [List.length_take,List.length_drop]
    lia
   refine .inl (i_addL (s4 _ _ e3) e4 (szl (by simp only [List.length_map]; lia)) (fun l5 h5=>?_))
   rw [<- List.map_append]
   have ht:tot (ss.take kk.toNat++ss.drop (kk.toNat+1))<=text.length+1:=by rw [tot_app]; lia
   have ha:=hsw (qs:=ss.take kk.toNat++ss.drop (kk.toNat+1)) (fun p hp=>by
    rcases List.mem_append.mp hp with z | z
    ·exact List.mem_of_mem_take z
    ·exact List.mem_of_mem_drop z) (by rw [List.length_append,List.length_take,List.length_drop]; lia) (by lia)
   generalize ss.take kk.toNat++ss.drop (kk.toNat+1)=qs at *
   have hj:=tot_join qs
   refine⟨⟨#[32]⟩,l5,qs,rfl,rfl,SqL.of upd_same,?_,?_⟩
   ·show (qs.map (·.length)).sum+qs.length*1<=_
    unfold tot at ht
    lia
   exact k _ _ (s2.trans (s3.trans (s4.trans (same_upd h5)))) (ha.row hD)
  ·walk_at"s"
   refine⟨rfl,?_⟩;walk_at"s"
   refine .inl ⟨l2,_,rfl,SqL.of e2,fun l3 h3=>?_⟩
   rw [cut_to hk0,<- List.map_take]
   have e3:upd H2 l3 (.lst ((ss.take kk.toNat).map V.str)) l3=some (.lst ((ss.take kk.toNat).map V.str)):=upd_same
   have s3:Same H2 _:=same_upd (o:=.lst ((ss.take kk.toNat).map V.str)) h3
   generalize upd H2 l3 (.lst ((ss.take kk.toNat).map V.str))=H3 at *
   walk_at"s"
   refine i_addQI ?_;walk_at"s"
   refine .inl ⟨l2,_,rfl,SqL.of (s3 _ _ e2),fun l4 h4=>?_⟩
   rw [cut_mid hk0 (by lia),<- List.map_drop,<- List.map_take,show (kk+1).toNat - kk.toNat=1 by lia]
   have e4:upd H3 l4 (.lst (((ss.drop kk.toNat).take 1).map V.str)) l4=some (.lst (((ss.drop kk.toNat).take 1).map V.str)):=upd_same
   have s4:Same H3 _:=same_upd (o:=.lst (((ss.drop kk.toNat).take 1).map V.str)) h4
   generalize upd H3 l4 (.lst (((ss.drop kk.toNat).take 1).map V.str))=H4 at *
   have hc1:(ss.take kk.toNat).length+((ss.drop kk.toNat).take 1).length<=20000:=by
    rw [List.length_take,List.length_take,List.length_drop]
    lia
   refine .inl (i_addL (s4 _ _ e3) e4 (szl (by simp only [List.length_map]; lia)) (fun l5 h5=>?_))
   rw [<- List.map_append]
   have e5:upd H4 l5 (.lst ((ss.take kk.toNat++(ss.drop kk.toNat).take 1).map V.str)) l5=some (.lst ((ss.take kk.toNat++(ss.drop kk.toNat).take 1).map V.str)):=upd_same
   have s5:Same H4 _:=same_upd (o:=.lst ((ss.take kk.toNat++(ss.drop kk.toNat).take 1).map V.str)) h5
   generalize upd H4 l5 (.lst ((ss.take kk.toNat++(ss.drop kk.toNat).take 1).map V.str))=H5 at *
   walk_at"s"
   refine .inl ⟨l2,_,rfl,SqL.of (s5 _ _ (s4 _ _ (s3 _ _ e2))),fun l6 h6=>?_⟩
   rw [cut_from hk0,<- List.map_drop]
   have e6:upd H5 l6 (.lst ((ss.drop kk.toNat).map V.str)) l6=some (.lst ((ss.drop kk.toNat).map V.str)):=upd_same
   have s6:Same H5 _:=same_upd (o:=.lst ((ss.drop kk.toNat).map V.str)) h6
   generalize upd H5 l6 (.lst ((ss.drop kk.toNat).map V.str))=H6 at *
   have hc2:(ss.take kk.toNat++(ss.drop kk.toNat).take 1).length+(ss.drop kk.toNat).length<=40000:=by
    rw [List.length_append,List.length_drop]
    lia
   refine .inl (i_addL (s6 _ _ e5) e6 (szl (by simp only [List.length_map]; lia)) (fun l7 h7=>?_))
   rw [<- List.map_append]
   have t4:=tot_one (L:=ss.drop kk.toNat) fun p hp=>hPw p (List.mem_of_mem_drop hp)
   have ht:tot (ss.take kk.toNat++(ss.drop kk.toNat).take 1++ss.drop kk.toNat)<=text.length+102:=by rw [tot_app,tot_app]; lia
   have ha:=hsw (qs:=ss.take kk.toNat++(ss.drop kk.toNat).take 1++ss.drop kk.toNat) (fun p hp=>by
    rcases List.mem_append.mp hp with z | z
    ·rcases List.mem_append.mp z with z | z
     ·exact List.mem_of_mem_take z
     ·exact List.mem_of_mem_drop (List.mem_of_mem_take z)
    ·exact List.mem_of_mem_drop z) (by rw [List.length_append,List.length_append,List.length_take,List.length_take,List.length_drop]; lia) (by lia)
   generalize ss.take kk.toNat++(ss.drop kk.toNat).take 1++ss.drop kk.toNat=qs at *
   have hj:=tot_join qs
   refine⟨⟨#[32]⟩,l7,qs,rfl,rfl,SqL.of upd_same,?_,?_⟩
   ·show (qs.map (·.length)).sum+qs.length*1<=_
    unfold tot at ht
    lia
   exact k _ _ (s2.trans (s3.trans (s4.trans (s5.trans (s6.trans (same_upd h7)))))) (ha.row hD)
theorem wordsX_len (ns:List Int) (hs:∀ n∈ns,Small n):(wordsX ns).length<=ns.length*62:=by
 have h1:=words_len hs
 cases ns with
 | nil=>exact Nat.le_of_eq (by decide+kernel:(wordsX []).length=0)
 | cons a r =>
   have:=join_len ⟨#[32]⟩ (ss:=(a :: r).map tx) (by simp)
   rw [show (⟨#[32]⟩:Str).length=1 from rfl,Nat.mul_one,List.length_map] at this
   show (Str.join ⟨#[32]⟩ ((a :: r).map tx)).length<=_
   lia
theorem train_eq (ps ws:List Int) (hd:Int):("plays " : Str)++wordsX ps++("\nat " : Str)++wordsX (hd :: ws)=trainX ps hd ws:=by
 refine sg_ext ?_
 unfold trainX
 rw [join_sg,sg_app,sg_app,sg_app]
 show _=_++10 :: sg (("at " : Str)++wordsX (hd :: ws))
 rw [sg_app]
 have e:sg ("\nat " : Str)=10 :: sg ("at " : Str):=by decide+kernel
 rw [e]
 simp
theorem way_snoc {r:List Int} {h x:Int}:way h (r++[x])=way h r+max (lastOf h r) x - min (lastOf h r) x:=by
 rw [way_append]
 show _+(ab (x - lastOf h r)+0)=_
 unfold ab
 split <;> lia
def spAns32:Sp:=fun vs H Q _=>∃ (t l:Addr) (ss:List DS) (ps ws gs ns:List Int) (hd:Int) (word:Str),vs=[.ref t,.str word,.ref l]/\SAt H t ps hd ws gs/\H l=some (.lst (iL ns)) /\
 ((word = "plays" \/ word = "at" \/ word = "turn")\/(∃ ss0,ss=ss0++[(ps,hd,ws,gs)]/\SOkS (ps,hd,ws,gs)/\SmallG ss word ns/\(word = "where" \/ word = "ways" \/ word = "text" \/ (word = "least" /\ ns≠[]/\stand ps (ns.headD 0) ns.tail)))) /\
 (word = "plays" \/ word = "at" \/ word = "turn" -> ∀ H',Same H H'->Q (.str "ok") H')/\(∀ x,actO ss word ns=.told x->∀ H',Same H H'->Q (.str x) H')
theorem Oq21 (T:Txt mg) (D:Def K mg "_law_answer" Gq21) (Cq14:Callee P w K mg base "_law_a_words" 1 (spWritten K)) (Cq20:Callee P w K mg base "_law_a_least" 1 spLLeast):Callee P w K mg base "_law_answer" 2 spAns32:=by
 refine D.ok Uq21 Jq21 (fun vs H Q E h=>?len) (fun f cdv A outer s H vs Q E hr h=>?body)
 case len=>obtain⟨t,l,ss,ps,ws,gs,ns,hd,word,rfl,_⟩:=h; rfl
 case body =>
  obtain⟨t,l,ss,ps,ws,gs,ns,hd,word,rfl,⟨lp,lw,lg,hT,hP,hW,hG⟩,hL,hw,kO,kT⟩:=h
  walk_at"z4"
  have hwA:PyData.strOk word=true:=by
   rcases hw with (rfl | rfl | rfl) | ⟨_,_,_,_,rfl | rfl | rfl | ⟨rfl,_⟩⟩ <;> decide+kernel
  refine⟨_,(pss_cons (ps_asg (pv 0) (pg_tupK K 4 (pgs_cons (pg_name (i:=3) Uq21.nd rfl (Or.inl rfl)) (pgs_cons (pg_name (i:=4) Uq21.nd rfl (Or.inl rfl)) (pgs_cons (pg_name (i:=5) Uq21.nd rfl (Or.inl rfl)) (pgs_cons (pg_name (i:=6) Uq21.nd rfl (Or.inl rfl)) pgs_nil))))))
 (pss_cons (ps_if (pt_cmpR (op_eqK K hu) (pv 1) pe_str (nomark _))
 (pss_one (ps_ret (pe_callN Cq14 (hr.mono (by decide)) (by rfl) (pa_cons (pe_op op_addQ (pe_lst (pa_cons (pv 4) pa_nil)) (pv 5)) pa_nil))))
 pss_nil)
 (pss_cons (ps_if (pt_cmpR (op_eqK K hu) (pv 1) pe_str (nomark _))
 (pss_one (ps_ret (pe_callN Cq14 (hr.mono (by decide)) (by rfl) (pa_cons (pv 6) pa_nil))))
 pss_nil)
 (pss_cons (ps_if (pt_cmpR (op_eqK K hu) (pv 1) pe_str (nomark _))
 (pss_one (ps_ret (pe_op op_addQ (pe_op op_addQ (pe_op op_addQ pe_str (pe_callN Cq14 (hr.mono (by decide)) (by rfl) (pa_cons (pv 3) pa_nil))) pe_str) (pe_callN Cq14 (hr.mono (by decide)) (by rfl) (pa_cons (pe_op op_addQ (pe_lst (pa_cons (pv 4) pa_nil)) (pv 5)) pa_nil)))))
 pss_nil)
 (pss_cons (ps_if (pt_cmpR (op_neK K hu) (pv 1) pe_str (nomark _))
 (pss_one (ps_ret pe_str))
 pss_nil)
 (pss_cons (psS 7 Uq21.nd (pe_callN Cq20 (hr.mono (by decide)) (by rfl) (pa_cons (pv 0) (pa_cons (pe_ix (ix_Q (K:=K)) (pv 2) pe_int (by exact fun _ _=>rfl)) (pa_cons (pe_slice (sl_Q (K:=K)) (pv 2) (po_some pe_int) po_none) pa_nil)))))
 (pss_cons (psS 8 Uq21.nd pe_int)
 (pss_cons (psS 9 Uq21.nd (pv 4))
 (pss_cons (ps_for PassesOwn.never rfl (pi_listK K (pv 7)) (pg_name (i:=10) Uq21.nd rfl (Or.inl rfl))
 (pss_cons (psS 8 Uq21.nd (pe_op op_sub (pe_op op_addQ (pv 8) (pe_callB (call_maxK K) (by rfl) T.z_max bt_max (pa_cons (pv 9) (pa_cons (pv 10) pa_nil)))) (pe_callB (call_minK K) (by rfl) T.z_min bt_min (pa_cons (pv 9) (pa_cons (pv 10) pa_nil)))))
 (pss_one (psS 9 Uq21.nd (pv 10)))))
 (pss_one (ps_ret (pe_callN Cq14 (hr.mono (by decide)) (by rfl) (pa_cons (pe_op op_addQ (pe_lst (pa_cons (pv 8) pa_nil)) (pv 7)) pa_nil))))))))))))),?_⟩
  walk_at"un"
  try clear hu
  walk_at"s"
  walk_at"z1"
  walk_at"s"
  refine i_eqS hwA (by decide+kernel) ?_;walk_at"s"
  have two:∀ {Q':VK} {H':Hp} {q1:Addr},H' q1=some (.lst [.int hd])->Same H H'->ws.length<=12->(∀ q2 H2,Same H' H2->H2 q2=some (.lst (iL (hd :: ws)))->Q' (.ref q2) H2)->rAddQ (.ref q1) (.ref lw) H' Q':=fun {Q' H' q1} e s hl q=>.inl (i_addL (xs:=[.int hd]) (ys:=iL ws) e (s _ _ hW) (szl (by simp [iL]; lia)) (fun q2 h2=>q q2 _ (same_upd h2) (by rw [upd_same]; rfl)))
  by_cases h1:word = "where"
  ·subst h1
   refine ifT (by decide+kernel) ?_
   rcases hw with (z | z | z) | ⟨ss0,rfl,ok,hS,_⟩
   ·walk_at"z11"
   ·walk_at"z11"
   ·walk_at"z11"
   obtain⟨m1,m2,m3,m4,_⟩:=hS _ _ _ _ _ rfl
   have hwl:ws.length=ps.length:=ok.2.1.1
   have h12:ps.length<=12:=ok.1.2.1
   walk_at"s"
   intro q1 h1;walk_at"s"
   refine two upd_same (same_upd h1) (by lia) (fun q2 H2 s2 e2=>?_);walk_at"s"
   refine⟨q2,hd :: ws,rfl,SqL.of e2,fun n hn=>?_,by simp; lia,fun H3 s3=>kT _ act_where _ ((same_upd h1).trans (s2.trans s3))⟩
   rcases List.mem_cons.mp hn with rfl | hn
   ·exact m1
   ·exact m3 n hn
  refine ifF (by simpa using h1) ?_;walk_at"s"
  refine i_eqS hwA (by decide+kernel) ?_;walk_at"s"
  by_cases h2:word = "ways"
  ·subst h2
   refine ifT (by decide+kernel) ?_
   rcases hw with (z | z | z) | ⟨ss0,rfl,ok,hS,_⟩
   ·walk_at"z11"
   ·walk_at"z11"
   ·walk_at"z11"
   obtain⟨m1,m2,m3,m4,_⟩:=hS _ _ _ _ _ rfl
   have hgl:gs.length=ps.length:=ok.2.2
   have h12:ps.length<=12:=ok.1.2.1
   walk_at"s"
   exact⟨lg,gs,rfl,SqL.of hG,m4,by lia,fun H3 s3=>kT _ act_ways _ s3⟩
  refine ifF (by simpa using h2) ?_;walk_at"s"
  refine i_eqS hwA (by decide+kernel) ?_;walk_at"s"
  by_cases h3:word = "text"
  ·subst h3
   refine ifT (by decide+kernel) ?_
   rcases hw with (z | z | z) | ⟨ss0,rfl,ok,hS,_⟩
   ·walk_at"z11"
   ·walk_at"z11"
   ·walk_at"z11"
   obtain⟨m1,m2,m3,m4,_⟩:=hS _ _ _ _ _ rfl
   have hwl:ws.length=ps.length:=ok.2.1.1
   have h12:ps.length<=12:=ok.1.2.1
   have hall:∀ n∈hd :: ws,Small n:=fun n hn=>by
    rcases List.mem_cons.mp hn with rfl | hn
    ·exact m1
    ·exact m3 n hn
   have wl1:=wordsX_len (hd :: ws) hall
   have wl2:=wordsX_len ps m2
   rw [List.length_cons] at wl1
   have a1:=app_len ("plays " : Str) (wordsX ps)
   have a2:=app_len (("plays " : Str)++wordsX ps) ("\nat " : Str)
   have a3:("plays " : Str).length=6:=by decide+kernel
   have a4:("\nat " : Str).length=4:=by decide+kernel
   walk_at"s"
   refine⟨lp,ps,rfl,SqL.of hP,m2,by lia,fun H3 s3=>?_⟩;walk_at"s"
   refine i_addQS (by show ("plays " : Str).length+(wordsX ps).length<=_; lia) ?_;walk_at"s"
   refine i_addQS (by show (("plays " : Str)++wordsX ps).length+("\nat " : Str).length<=_; lia) ?_;walk_at"s"
   intro q1 h1;walk_at"s"
   refine two upd_same (s3.trans (same_upd h1)) (by lia) (fun q2 H2 s2 e2=>?_);walk_at"s"
   refine⟨q2,hd :: ws,rfl,SqL.of e2,hall,by simp; lia,fun H4 s4=>?_⟩;walk_at"s"
   refine i_addQS (by show (("plays " : Str)++wordsX ps++("\nat " : Str)).length+(wordsX (hd :: ws)).length<=_; lia) ?_
   have:=kT _ act_text _ (s3.trans ((same_upd h1).trans (s2.trans s4)))
   rw [<- train_eq] at this
   exact this
  refine ifF (by simpa using h3) ?_;walk_at"s"
  refine i_neS hwA (by decide+kernel) ?_;walk_at"s"
  by_cases h4:word = "least"
  rotate_left
  ·refine ifT (by simpa using h4) ?_
   walk_at"s"
   refine kO ?_ _ (Same.refl _)
   rcases hw with z | ⟨_,_,_,_,z | z | z | ⟨z,_⟩⟩
   ·exact z
   ·exact absurd z h1
   ·exact absurd z h2
   ·exact absurd z h3
   ·exact absurd z h4
  subst h4
  refine ifF (by decide+kernel) ?_
  rcases hw with (z | z | z) | ⟨ss0,rfl,ok,hS,z | z | z | ⟨_,hne,hst⟩⟩
  ·walk_at"z11"
  ·walk_at"z11"
  ·walk_at"z11"
  ·exact absurd z h1
  ·exact absurd z h2
  ·exact absurd z h3
  have hsm:=(hS _ _ _ _ _ rfl).2.2.2.2 rfl hst
  have hx:=kT _ (act_least.trans (if_pos hst))
  obtain⟨e,goal,rfl⟩:∃ e goal,ns=e :: goal:=by
   cases ns with
   | nil=>exact absurd rfl hne
   | cons a b=>exact⟨a,b,rfl⟩
  simp only [List.headD_cons,List.tail_cons] at hsm hx hst
  have hwl:ws.length=ps.length:=ok.2.1.1
  have h12:ps.length<=12:=ok.1.2.1
  have hrl:(toldRow ps hd ws e goal).length<=ps.length+1:=toldRow_length
  clear hS kT kO two hwA h1 h2 h3 hne
  walk_at"s"
  refine .inl (i_ixN (SqL.of hL) (i:=0) (by decide) (v:=.int e) rfl ?_);walk_at"s"
  refine .inl (i_slFrom (SqL.of hL) (by decide) (fun q3 h3=>?_))
  have s3:Same H _:=same_upd (o:=.lst (iL ((e :: goal).drop (1:Int).toNat))) h3
  have e3:upd H q3 (.lst (iL ((e :: goal).drop (1:Int).toNat))) q3=some (.lst (iL goal)):=by rw [upd_same]; rfl
  generalize upd H q3 (.lst (iL ((e :: goal).drop (1:Int).toNat)))=H3 at *
  walk_at"s"
  refine⟨t,q3,ps,ws,gs,goal,hd,e,rfl,⟨lp,lw,lg,s3 _ _ hT,s3 _ _ hP,s3 _ _ hW,s3 _ _ hG⟩,e3,ok.1,hwl,hst.1,fun lr H4 N4=>?_⟩
  have S4:=s3.trans N4.sm
  have e4:=N4.at_
  unfold leastX at hx
  generalize toldRow ps hd ws e goal=R at *
  walk_at"s"
  refine⟨⟨_,SqL.of e4⟩,lp_ints (ns:=R) (fun i σ H5=>∃ (u:Option V),σ = [some (.ref t),some (.str "least"),some (.ref l),some (.ref lp),some (.int hd),some (.ref lw),some (.ref lg),some (.ref lr),some (.int (way hd (R.take i))),some (.int (lastOf hd (R.take i))),u]/\H4=H5) ?_ ?_ ?_ ?_⟩
  ·exact⟨_,rfl,rfl⟩
  ·rintro i σ H5 _ ⟨u,rfl,rfl⟩
   exact SqL.of e4
  ·rintro i x σ H5 hxx ⟨u,rfl,rfl⟩
   walk_at"s"
   refine i_max2 ?_
   rintro m1 rfl
   walk_at"s"
   refine i_addQI ?_;walk_at"s"
   refine i_min2 ?_
   rintro m2 rfl
   walk_at"s"
   rw [take_snoc_get hxx,lastOf_snoc,way_snoc]
   exact⟨_,rfl,rfl⟩
  ·rintro σ H5 ⟨u,rfl,rfl⟩
   rw [List.take_of_length_le (Nat.le_refl _)]
   walk_at"s"
   intro q7 h7
   have s7:Same H4 _:=same_upd (o:=.lst [.int (way hd R)]) h7
   have e7:upd H4 q7 (.lst [.int (way hd R)]) q7=some (.lst [.int (way hd R)]):=upd_same
   generalize upd H4 q7 (.lst [.int (way hd R)])=H7 at *
   walk_at"s"
   refine .inl (i_addL e7 (s7 _ _ e4) (szl (by simp [iL]; lia)) (fun q8 h8=>?_))
   have s8:Same H7 _:=same_upd (o:=.lst ([.int (way hd R)]++iL R)) h8
   have e8:upd H7 q8 (.lst ([.int (way hd R)]++iL R)) q8=some (.lst (iL (way hd R :: R))):=by rw [upd_same]; rfl
   generalize upd H7 q8 (.lst ([.int (way hd R)]++iL R))=H8 at *
   walk_at"s"
   exact⟨q8,_,rfl,SqL.of e8,hsm,by simp; lia,fun H9 s9=>hx _ (S4.trans (s7.trans (s8.trans s9)))⟩
theorem row_ok {word:Str} {ns:List Int} (hw:32 ∉ sg word) (hs:∀ n∈ns,n.natAbs<10 ^ 40) (hf:∃ l m,formsT.lookup word=some (l,m)/\l<=ns.length/\∀ n,m=some n->ns.length<=n):RowOk (Str.join ⟨#[32]⟩ (word :: ns.map tx)) word ns:=by
 refine⟨ns.map tx,row_words hw,⟨fun s hs2=>?_,?_⟩,(vals_back hs).symm⟩
 ·obtain⟨n,hn,rfl⟩:=List.mem_map.mp hs2
  exact (tx_num (hs n hn)).1
 ·obtain⟨l,m,h1,h2,h3⟩:=hf
  exact⟨l,m,h1,by rw [List.length_map]; exact h2,fun n hn=>by rw [List.length_map]; exact h3 n hn⟩
theorem where_ok:RowOk "where" "where" []:=row_ok (ns:=[]) (by decide+kernel) (fun n hn=>by cases hn) ⟨0,some 0,by decide+kernel,Nat.le_refl _,fun n hn=>by cases hn; exact Nat.le_refl _⟩
theorem ways_ok:RowOk "ways" "ways" []:=row_ok (ns:=[]) (by decide+kernel) (fun n hn=>by cases hn) ⟨0,some 0,by decide+kernel,Nat.le_refl _,fun n hn=>by cases hn; exact Nat.le_refl _⟩
theorem text_ok:RowOk "text" "text" []:=row_ok (ns:=[]) (by decide+kernel) (fun n hn=>by cases hn) ⟨0,some 0,by decide+kernel,Nat.le_refl _,fun n hn=>by cases hn; exact Nat.le_refl _⟩
def tab4:List (Key×V):=[(.inr "plays", .int 1),(.inr "at", .int 2),(.inr "turn", .int 1),(.inr "least", .int 2)]
def need (a:Str):Option Nat:=if a = "least" then some 2 else if a = "turn" then some 1 else if a = "at" then some 2 else if a = "plays" then some 1 else none
theorem tab4_val (a:Str):valV (mergeK [] tab4) (Sum.inr a)=(need a).map fun n=>.int n:=by
 unfold mergeK tab4
 simp only [List.foldl_cons,List.foldl_nil]
 rw [valV_put,valV_put,valV_put,valV_put,valV_nil]
 unfold need
 have ie:∀ x y:Str,((Sum.inr x:Key)=Sum.inr y)=(x=y):=fun x y=>by simp
 simp only [ie]
 repeat' split
 all_goals first | rfl | contradiction
theorem need_in {a:Str} {n:Nat} (h:need a=some n):1<=n/\formsT.lookup a=some (n,none)/\(a = "plays" \/ (a = "at" /\ n=2)\/a = "turn" \/ (a = "least" /\ n=2)):=by
 unfold need at h
 split at h
 ·rename_i z; cases h; subst z; exact⟨by decide,by decide+kernel,.inr (.inr (.inr ⟨rfl,rfl⟩))⟩
 split at h
 ·rename_i z; cases h; subst z; exact⟨by decide,by decide+kernel,.inr (.inr (.inl rfl))⟩
 split at h
 ·rename_i z; cases h; subst z; exact⟨by decide,by decide+kernel,.inr (.inl ⟨rfl,rfl⟩)⟩
 split at h
 ·rename_i z; cases h; subst z; exact⟨by decide,by decide+kernel,.inl rfl⟩
 ·cases h
theorem need_no {a:Str} (h:need a=none):a ≠ "plays" /\ a ≠ "at" /\ a ≠ "turn" /\ a ≠ "least" := by
 refine⟨?_,?_,?_,?_⟩ <;> (intro e; subst e; revert h; decide+kernel)
theorem nums_at {a row:Str} {r:List Str} (n:Nat) (h:Txt.split row ⟨#[32]⟩=a :: r):nums? a n row=if n<=r.length/\∀ p∈r,numW (sg p) then some (r.map valOf) else none:=by
 unfold nums?
 rw [h]
 simp only [true_and]
theorem in_three (a:Str):inV (.str a) [.str "where", .str "ways", .str "text"]=decide (a = "where" \/ a = "ways" \/ a = "text"):=by
 unfold inV
 rw [Bool.eq_iff_iff]
 simp [eqV]
 constructor
 ·rintro (h | h | h)
  ·exact .inl h.symm
  ·exact .inr (.inl h.symm)
  ·exact .inr (.inr h.symm)
 ·rintro (h | h | h)
  ·exact .inl h.symm
  ·exact .inr (.inl h.symm)
  ·exact .inr (.inr h.symm)
def Good (ss:List DS) (ps:List Int) (hd:Int) (ws gs:List Int) (word:Str) (ns:List Int):Prop:=(word = "plays" /\ isTr ns)\/∃ ss0,ss=ss0++[(ps,hd,ws,gs)]/\((word = "at" /\ ns≠[]/\stand ps (ns.headD 0) ns.tail)\/(word = "turn" /\ ns≠[])\/(word = "least" /\ ns≠[]/\stand ps (ns.headD 0) ns.tail)\/word = "where" \/ word = "ways" \/ word = "text")
def spRead32:Sp:=fun vs H Q _=>∃ (t:Addr) (ss:List DS) (ps ws gs:List Int) (hd:Int) (row:Str),vs=[.ref t,.str row]/\SAt H t ps hd ws gs/\((ss=[]/\ps=[])\/∃ ss0,ss=ss0++[(ps,hd,ws,gs)]/\ps≠[])/\RowCh row /\
 (∀ n,sayO ss row=.bad n->∀ q y l H',Same H H'->H' q=some (.tup [.str n,.str y,.ref l])->Q (.ref q) H') /\
 (∀ word ns,RowOk row word ns->Good ss ps hd ws gs word ns->∀ q l H',Same H H'->H' q=some (.tup [.str "", .str word,.ref l])->H' l=some (.lst (iL ns))->Q (.ref q) H')
theorem Oq24 (T:Txt mg) (D:Def K mg "_law_read_row" Gq24) (Cq15:Callee P w K mg base "_law_a_numbers" 2 spLawNums) (Cq16:Callee P w K mg base "_law_keeps" 1 spLawKeeps):Callee P w K mg base "_law_read_row" 3 spRead32:=by
 refine D.ok Uq24 Jq24 (fun vs H Q E h=>?len) (fun f cdv A outer s H vs Q E hr h=>?body)
 case len=>obtain⟨t,ss,ps,ws,gs,hd,row,rfl,_⟩:=h; rfl
 case body =>
  obtain⟨t,ss,ps,ws,gs,hd,row,rfl,⟨lp,lw,lg,f1,f2,f3,f4⟩,hcase,hC,kx,kr⟩:=h
  walk_at"z4"
  have hu1:=Nat.lt_of_le_of_lt (Nat.add_le_add_left (show 1<=64 by decide) _) hu
  refine⟨_,(pss_cons (psS 2 Uq24.nd (pe_bmK K PySem.F.plainAttrs_str PySem.F.slot_str_split PySem.F.type_str_split mt_split (pv 1) (pa_cons pe_str pa_nil)))
 (@pss_cons _ _ _ _ _ (@ps_set _ _ 3 _ _ _ _ Uq24.nd rfl (Or.inl rfl) (@pe_disp _ _ _ _ _ pps4 (by rfl) (by rfl) (by simp) (by decide)) (by rfl) (by first | exact .inl rfl | exact .inr rfl | assumption))
 (pss_cons (psS 4 Uq24.nd (pe_ix (ix_Q (K:=K)) (pv 2) pe_int (by exact fun _ _=>rfl)))
 (pss_cons (ps_if (pt_cmp (pc_din hu1 (pv 4) (pv 3)))
 (pss_cons (psS 5 Uq24.nd (pe_callN Cq15 (hr.mono (by decide)) (by rfl) (pa_cons (pv 1) (pa_cons (pv 4) (pa_cons (pe_dget hu1 (pv 3) (pv 4) (by exact fun _ _=>rfl)) pa_nil)))))
 (pss_join (ps_if (PW.pt (pw_or (pt_cmpR op_isN (pv 5) pe_non (nomark _)) (pw_or1 (PW.pt (pw_and (pt_cmpR (op_eqK K hu) (pe_ix (ix_Q (K:=K)) (pv 0) pe_int (by exact fun _ _=>rfl)) (pe_lst pa_nil) (nomark _)) (pw_and1 (pt_cmpR (op_neK K hu) (pv 4) pe_str (nomark _))))))))
 (pss_one (ps_ret (pe_tup (pa_cons pe_str (pa_cons (pv 4) (pa_cons (pe_lst pa_nil) pa_nil))))))
 pss_nil)
 (pss_cons (ps_if (pt_cmpR (op_eqK K hu) (pv 4) pe_str (nomark _))
 (pss_one (ps_ret (pe_tup (pa_cons (pe_menu (pa_cons pe_str (pa_cons pe_str pa_nil)) (pe_callTy call_intQ (by rfl) T.z_int bt_int (pa_cons (pe_or (pe_cmpR op_gt (pe_callB (call_lenK K) (by rfl) T.z_len bt_len (pa_cons (pv 5) pa_nil)) pe_int (nomark _)) (pe_one (pe_cmpR op_lt (pe_callB (call_minK K) (by rfl) T.z_min bt_min (pa_cons (pv 5) pa_nil)) pe_int (nomark _)))) pa_nil)) (by exact fun _ _=>rfl)) (pa_cons (pv 4) (pa_cons (pv 5) pa_nil))))))
 pss_nil)
 (pss_cons (ps_if (pt_cmpR (op_eqK K hu) (pv 4) pe_str (nomark _))
 (pss_one (ps_ret (pe_tup (pa_cons pe_str (pa_cons (pv 4) (pa_cons (pv 5) pa_nil))))))
 pss_nil)
 (pss_one (ps_ret (pe_tup (pa_cons (pe_menu (pa_cons pe_str (pa_cons pe_str pa_nil)) (pe_callTy call_intQ (by rfl) T.z_int bt_int (pa_cons (pe_callN Cq16 (hr.mono (by decide)) (by rfl) (pa_cons (pe_ix (ix_Q (K:=K)) (pv 0) pe_int (by exact fun _ _=>rfl)) (pa_cons (pe_ix (ix_Q (K:=K)) (pv 5) pe_int (by exact fun _ _=>rfl)) (pa_cons (pe_slice (sl_Q (K:=K)) (pv 5) (po_some pe_int) po_none) pa_nil)))) pa_nil)) (by exact fun _ _=>rfl)) (pa_cons (pv 4) (pa_cons (pv 5) pa_nil))))))))))
 pss_nil)
 (pss_cons (ps_if (PW.pt (pw_or (pt_cmpR (op_eqK K hu) (pe_ix (ix_Q (K:=K)) (pv 0) pe_int (by exact fun _ _=>rfl)) (pe_lst pa_nil) (nomark _)) (pw_or1 (pt_cmpR (op_notInQ (K:=K)) (pv 1) (pe_tup (pa_cons pe_str (pa_cons pe_str (pa_cons pe_str pa_nil)))) (by rfl)))))
 (pss_one (ps_ret (pe_tup (pa_cons pe_str (pa_cons (pv 4) (pa_cons (pe_lst pa_nil) pa_nil))))))
 pss_nil)
 (pss_one (ps_ret (pe_tup (pa_cons pe_str (pa_cons (pv 1) (pa_cons (pe_lst pa_nil) pa_nil))))))))))),?_⟩
  walk_at"un"
  try clear hu
  have hA:=hC.asc
  have hl:=hC.len
  walk_at"s"
  have hP:=split_ok row 32
  refine⟨rfl,row,⟨#[32]⟩,rfl,rfl,rfl,by lia,?_,fun l1 h1=>?_⟩
  ·have:=hP.sum
   lia
  have hPs:=hP.sum
  have hPa:=hP.asc hA
  have hPl:=hP.len
  have hhd:=fun w (z:w∈Txt.split row ⟨#[32]⟩)=>hC.head z
  cases hsp:Txt.split row ⟨#[32]⟩ with
  | nil=>exact absurd hsp hP.ne
  | cons a r =>
  rw [hsp] at hPs hPa hPl hhd
  have e1:upd H l1 (.lst ((a :: r).map V.str)) l1=some (.lst ((a :: r).map V.str)):=upd_same
  have s1:Same H _:=same_upd (o:=.lst ((a :: r).map V.str)) h1
  generalize upd H l1 (.lst ((a :: r).map V.str))=H1 at *
  simp only [List.map_cons,List.sum_cons,List.length_cons] at hPs
  have hrl:r.length<=20000:=by lia
  have hAa:=hPa a (by simp)
  walk_at"s"
  intro l5 h5
  refine⟨upd_same,tab4,rfl,by decide,?_⟩
  have e5:upd (upd H1 l5 (.dK [])) l5 (.dK (mergeK [] tab4)) l5=some (.dK (mergeK [] tab4)):=upd_same
  have s5:Same H1 (upd (upd H1 l5 (.dK [])) l5 (.dK (mergeK [] tab4))):=fun b o e=>by
   have:=ne_of_none e h5
   rw [upd_ne this,upd_ne this]
   exact e
  generalize upd (upd H1 l5 (.dK [])) l5 (.dK (mergeK [] tab4))=H5 at *
  have S5:=s1.trans s5
  have g5:=DGet.k (k:=.inr a) e5
  rw [tab4_val] at g5
  have hOk:∀ {word:Str} {ns:List Int},RowOk row word ns->word=a/\FormOk a r/\ns=r.map valOf:=fun ⟨rest,z1,z2,z3⟩=>by
   rw [hsp] at z1
   cases z1
   exact⟨rfl,z2,z3⟩
  have noRow:¬ FormOk a r->sayO ss row=.bad "NoRow" := fun z=>sayO_no fun word ns h=>z (hOk h).2.1
  have noTr:ps=[]->a ≠ "plays" -> sayO ss row=.bad "NoRow" := fun z y=>by
   rcases hcase with ⟨rfl,_⟩ | ⟨_,_,h⟩
   ·by_cases hf:FormOk a r
    ·rw [sayO_ok ⟨r,hsp,hf,rfl⟩]
     exact act_nil y
    ·exact noRow hf
   ·exact absurd z h
  have ctr:∀ {H':Hp},Same H5 H'->∀ {Q':VK},(∀ l6 H6,Same H' H6->Q' (.bl (decide (ps=[]))) H6)->∀ l6,H' l6=none->rEqP K (.ref lp) (.ref l6) (upd H' l6 (.lst [])) Q':=fun {H'} s' {Q'} q l6 h6=>i_eqL (SqL.of (same_upd h6 _ _ (s' _ _ (S5 _ _ f2)))) (SqL.of (by rw [upd_same]; rfl)) (q l6 _ (same_upd h6))
  have e1':=s5 _ _ e1
  clear e5 h5 h1 s5
  walk_at"s"
  refine .inl (i_ixN (SqL.of e1') (by decide) (v:=.str a) rfl ?_);walk_at"s"
  refine⟨_,_,rfl,g5,?_⟩;walk_at"s"
  cases hn:need a with
  | none =>
    refine ifF (by simp) ?_
    obtain⟨n1,n2,n3,n4⟩:=need_no hn
    walk_at"s"
    refine .inl (i_ixT (SqT.of (S5 _ _ f1)) (by decide) rfl ?_);walk_at"s"
    refine ctr (Same.refl _) (fun l6 H6 s6=>?_);walk_at"s"
    walk_at"z2"
    ·walk_at"s"
     intro l7 h7;walk_at"s"
     intro t8 h8
     exact kx _ (noTr g n1) t8 a l7 _ (S5.trans (s6.trans ((same_upd h7).trans (same_upd h8)))) upd_same
    walk_at"s"
    intro t7 h7;walk_at"s"
    refine .inl ⟨t7,_,rfl,.inr (SqT.of upd_same),rfl,rfl,?_⟩
    have s7:Same H6 _:=same_upd (o:=.tup [.str "where", .str "ways", .str "text"]) h7
    generalize upd H6 t7 (.tup [.str "where", .str "ways", .str "text"])=H7 at *
    have S7:=S5.trans (s6.trans s7)
    rw [in_three]
    walk_at"s"
    refine i_ifn (fun g2=>?_) (fun g2=>?_)
    ·walk_at"s"
     intro l8 h8;walk_at"s"
     intro t9 h9
     refine kx _ (noRow fun hf=>g2 ?_) t9 a l8 _ (S7.trans ((same_upd h8).trans (same_upd h9))) upd_same
     obtain⟨_,lo,mo,hf,h1,h2⟩:=hf
     obtain⟨m1,m2,m3⟩:=hhd a (by simp)
     have hrow:r=[]->row=a:=fun z=>by
      have:=StrLaws.join_split row ⟨#[32]⟩
      rw [hsp,z] at this
      exact this.symm
     rcases forms_get hf with ⟨z,_⟩ | ⟨z,_⟩ | ⟨z,_⟩ | ⟨z,_,y⟩ | ⟨z,_,y⟩ | ⟨z,_⟩ | ⟨z,_,y⟩ | ⟨z,_⟩ | ⟨z,_⟩ | ⟨z,_⟩
     ·exact absurd z n1
     ·exact absurd z n2
     ·exact absurd z n3
     ·exact .inl ((hrow (List.length_eq_zero_iff.mp (Nat.le_zero.mp (h2 0 y)))).trans z)
     ·exact .inr (.inl ((hrow (List.length_eq_zero_iff.mp (Nat.le_zero.mp (h2 0 y)))).trans z))
     ·exact absurd z n4
     ·exact .inr (.inr ((hrow (List.length_eq_zero_iff.mp (Nat.le_zero.mp (h2 0 y)))).trans z))
     ·exact absurd z m2
     ·exact absurd z m1
     ·exact absurd z m3
    ·walk_at"s"
     intro l8 h8;walk_at"s"
     intro t9 h9
     have hg:RowOk row row []:=by
      rcases g2 with z | z | z
      ·rw [z]; exact where_ok
      ·rw [z]; exact ways_ok
      ·rw [z]; exact text_ok
     refine kr row [] hg (.inr ?_) t9 l8 _ (S7.trans ((same_upd h8).trans (same_upd h9))) upd_same (same_upd h9 _ _ upd_same)
     rcases hcase with ⟨_,z⟩ | ⟨ss0,z,_⟩
     ·exact absurd z g
     ·exact⟨ss0,z,.inr (.inr (.inr g2))⟩
  | some n =>
    refine ifT (by simp) ?_
    obtain⟨hn1,hf0,hkind⟩:=need_in hn
    rw [hn] at g5
    have hfm:(n<=r.length/\∀ p∈r,numW (sg p))->FormOk a r:=fun z=>⟨z.2,n,none,hf0,z.1,fun m hm=>by cases hm⟩
    have hfb:FormOk a r->(n<=r.length/\∀ p∈r,numW (sg p)):=fun ⟨z,l,m,y,x,_⟩=>by
     rw [hf0] at y
     cases y
     exact⟨x,z⟩
    have hna:=nums_at (a:=a) n hsp
    walk_at"s"
    refine⟨_,_,rfl,g5,?_⟩
    refine⟨a,row,n,rfl,hAa,hA,by lia,hn1,fun ns hns l6 H6 N6=>?_,fun hno H6 s6=>?_⟩
    rotate_left
    ·walk_at"s"
     refine⟨fun σ H8=>False,?_,fun σ H8 z=>z.elim⟩;walk_at"s"
     refine⟨rfl,_,rfl,ifT (by simp) ?_⟩;walk_at"s"
     intro l7 h7;walk_at"s"
     intro t8 h8
     refine kx _ (noRow fun hf=>?_) t8 a l7 _ (S5.trans (s6.trans ((same_upd h7).trans (same_upd h8)))) upd_same
     rw [hna,if_pos (hfb hf)] at hno
     cases hno
    have hnf:FormOk a r/\ns=r.map valOf:=by
     rw [hna] at hns
     split at hns
     ·rename_i z
      exact⟨hfm z,(Option.some.inj hns).symm⟩
     ·cases hns
    obtain⟨hform,hnsr⟩:=hnf
    have hrow:RowOk row a ns:=⟨r,hsp,hform,hnsr⟩
    have hnl:n<=ns.length:=by rw [hnsr,List.length_map]; exact (hfb hform).1
    have hne:ns≠[]:=fun z=>by rw [z] at hnl; simp at hnl; lia
    rw [sayO_ok hrow] at kx
    have S6:=S5.trans N6.sm
    have e6:=N6.at_
    clear hna hfb hfm hns hnsr noRow
    walk_at"s"
    refine⟨fun σ H8=>σ = [some (.ref t),some (.str row),some (.ref l1),some (.ref l5),some (.str a),some (.ref l6)]/\Same H6 H8/\(a = "plays" \/ ps≠[]),?_,?_⟩
    ·walk_at"s"
     refine⟨rfl,_,rfl,ifF (by simp) ?_⟩;walk_at"s"
     refine .inl (i_ixT (SqT.of (S6 _ _ f1)) (by decide) rfl ?_);walk_at"s"
     refine ctr N6.sm (fun l7 H7 s7=>?_);walk_at"s"
     walk_at"z2"
     ·walk_at"s"
      refine i_neS hAa.ok (by decide+kernel) ?_;walk_at"s"
      by_cases hp:a = "plays"
      ·refine ifF (by simpa using hp) ?_
       walk_at"s"
       exact⟨rfl,s7,.inl hp⟩
      ·refine ifT (by simpa using hp) ?_
       walk_at"s"
       intro l8 h8;walk_at"s"
       intro t9 h9
       refine kx _ ?_ t9 a l8 _ (S6.trans (s7.trans ((same_upd h8).trans (same_upd h9)))) upd_same
       have:=noTr g hp
       rwa [sayO_ok hrow] at this
     ·walk_at"s"
      exact⟨rfl,s7,.inr g⟩
    rintro σ H8 ⟨rfl,s8,hpl⟩
    have S8:=S6.trans s8
    have e8:=s8 _ _ e6
    clear noTr ctr g5
    have out:∀ (fl:Str) (t9:Addr) (H':Hp),Same H8 H'->H' t9=none->((fl = "" /\ Good ss ps hd ws gs a ns)\/actO ss a ns=.bad fl)->Q (.ref t9) (upd H' t9 (.tup [.str fl,.str a,.ref l6])):=fun fl t9 H' s' h' z=>by
     rcases z with ⟨rfl,z⟩ | z
     ·exact kr a ns hrow z t9 l6 _ (S8.trans (s'.trans (same_upd h'))) upd_same (same_upd h' _ _ (s' _ _ e8))
     ·exact kx _ z t9 a l6 _ (S8.trans (s'.trans (same_upd h'))) upd_same
    clear kx kr
    walk_at"s"
    refine i_eqS hAa.ok (by decide+kernel) ?_;walk_at"s"
    by_cases hp:a = "plays"
    ·subst hp
     refine ifT (by decide+kernel) ?_;walk_at"s"
     refine i_len (SqL.of e8) ?_
     rw [show (iL ns).length=ns.length by simp [iL]]
     walk_at"s"
     walk_at"z2"
     ·walk_at"s"
      refine .inl (i_intB ?_);walk_at"s"
      refine⟨1,_,rfl,rfl,?_⟩;walk_at"s"
      intro t9 h9
      exact out _ t9 _ (Same.refl _) h9 (.inr (by rw [act_plays,if_neg fun z=>by have:=z.2.1; lia]))
     ·walk_at"s"
      refine i_minL (SqL.of e8) (List.length_pos_iff.mpr hne) (fun m hm1 hm2=>?_);walk_at"s"
      refine .inl (i_intB ?_);walk_at"s"
      by_cases hm:m<0
      ·refine⟨1,_,by simp [hm],rfl,?_⟩
       walk_at"s"
       intro t9 h9
       exact out _ t9 _ (Same.refl _) h9 (.inr (by rw [act_plays,if_neg fun z=>by have:=z.2.2 m hm1; lia]))
      ·refine⟨0,_,by simp [hm],rfl,?_⟩
       walk_at"s"
       intro t9 h9
       exact out _ t9 _ (Same.refl _) h9 (.inl ⟨rfl,.inl ⟨rfl,by lia,by lia,fun p hp=>by have:=hm2 p hp; lia⟩⟩)
    refine ifF (by simpa using hp) ?_
    obtain⟨ss0,hss⟩:∃ ss0,ss=ss0++[(ps,hd,ws,gs)]:=by
     rcases hcase with ⟨_,z⟩ | ⟨ss0,z,_⟩
     ·exact absurd z (hpl.resolve_left hp)
     ·exact⟨ss0,z⟩
    walk_at"s"
    refine i_eqS hAa.ok (by decide+kernel) ?_;walk_at"s"
    by_cases ht:a = "turn"
    ·subst ht
     refine ifT (by decide+kernel) ?_;walk_at"s"
     intro t9 h9
     exact out _ t9 _ (Same.refl _) h9 (.inl ⟨rfl,.inr ⟨ss0,hss,.inr (.inl ⟨rfl,hne⟩)⟩⟩)
    refine ifF (by simpa using ht) ?_
    obtain⟨e,goal,rfl⟩:∃ e goal,ns=e :: goal:=by
     cases ns with
     | nil=>exact absurd rfl hne
     | cons a b=>exact⟨a,b,rfl⟩
    have hal:a = "at" \/ a = "least" := by
     rcases hkind with z | ⟨z,_⟩ | z | ⟨z,_⟩
     ·exact absurd z hp
     ·exact .inl z
     ·exact absurd z ht
     ·exact .inr z
    walk_at"s"
    refine .inl (i_ixT (SqT.of (S8 _ _ f1)) (by decide) rfl ?_);walk_at"s"
    refine .inl (i_ixN (SqL.of e8) (i:=0) (by decide) (v:=.int e) rfl ?_);walk_at"s"
    refine .inl (i_slFrom (SqL.of e8) (by decide) (fun q3 h3=>?_))
    have s3:Same H8 _:=same_upd (o:=.lst (iL ((e :: goal).drop (1:Int).toNat))) h3
    have e3:upd H8 q3 (.lst (iL ((e :: goal).drop (1:Int).toNat))) q3=some (.lst (iL goal)):=by rw [upd_same]; rfl
    generalize upd H8 q3 (.lst (iL ((e :: goal).drop (1:Int).toNat)))=H9 at *
    walk_at"s"
    refine⟨lp,q3,ps,goal,e,rfl,s3 _ _ (S8 _ _ f2),e3,fun b H10 hb s10=>?_⟩;walk_at"s"
    refine .inl (i_intB ?_);walk_at"s"
    cases b with
    | true =>
      have hst:=hb.mp rfl
      refine⟨1,_,rfl,rfl,?_⟩;walk_at"s"
      intro t9 h9
      refine out _ t9 _ (s3.trans s10) h9 (.inl ⟨rfl,.inr ⟨ss0,hss,?_⟩⟩)
      rcases hal with z | z
      ·exact .inl ⟨z,by simp,hst⟩
      ·exact .inr (.inr (.inl ⟨z,by simp,hst⟩))
    | false =>
      have hst:¬ stand ps e goal:=fun z=>by have:=hb.mpr z; cases this
      refine⟨0,_,rfl,rfl,?_⟩;walk_at"s"
      intro t9 h9
      refine out _ t9 _ (s3.trans s10) h9 (.inr ?_)
      rw [hss]
      rcases hal with z | z
      ·rw [z,act_at]
       exact if_neg hst
      ·rw [z,act_least]
       exact if_neg hst
theorem join_snoc {z:Str}:∀ {qs:List Str},qs≠[]->sg (Str.join ⟨#[32]⟩ (qs++[z]))=sg (Str.join ⟨#[32]⟩ qs)++32 :: sg z
 | [],h=>absurd rfl h
 | [a],_=>join_sg 32 a z []
 | a :: b :: r,_=>by
   have ih:=join_snoc (z:=z) (qs:=b :: r) (by simp)
   show sg (Str.join ⟨#[32]⟩ (a :: b :: (r++[z])))=_
   rw [join_sg,join_sg]
   rw [show b :: (r++[z])=b :: r++[z] from rfl,ih]
   simp
theorem tot_le:∀ {qs:List Str},(∀ p∈qs,p.length<=61)->tot qs<=62*qs.length
 | [],_=>by decide
 | a :: r,h=>by
   have ih:=tot_le (qs:=r) fun p hp=>h p (by simp [hp])
   have h1:=h a (by simp)
   have e:=tot_app [a] r
   rw [show [a]++r=a :: r from rfl] at e
   have e1:tot [a]=a.length+1:=by simp [tot]
   rw [List.length_cons]
   lia
theorem row_d {w0:Str} {qs:List Str} (hw:w0∈w0s) (hn:qs.length<=301) (hq:∀ p∈qs,p.length<=61/\∀ c∈sg p,c=45\/(48<=c/\c<=57)):RowD (Str.join ⟨#[32]⟩ (w0 :: qs)):=by
 have hl:w0.length<=5/\32 ∉ sg w0:=by
  have:∀ w∈w0s,w.length<=5/\32 ∉ sg w:=by decide+kernel
  exact this w0 hw
 have hf:∀ p∈w0 :: qs,32 ∉ sg p:=fun p hp=>by
  rcases List.mem_cons.mp hp with rfl | hp
  ·exact hl.2
  ·intro z
   rcases (hq p hp).2 32 z with y | y <;> lia
 have hs:=split_join (c:=32) (ws:=w0 :: qs) (by simp) hf
 have hc:=join_count (ws:=w0 :: qs) (by simp) hf
 have hj:=tot_join (w0 :: qs)
 have ht:=tot_le (qs:=qs) fun p hp=>(hq p hp).1
 have e:=tot_app [w0] qs
 rw [show [w0]++qs=w0 :: qs from rfl] at e
 have e1:tot [w0]=w0.length+1:=by simp [tot]
 rw [List.length_cons] at hc
 refine⟨by lia,by lia,fun p hp=>?_,w0,hw,fun c hc=>?_⟩
 ·rw [hs] at hp
  rcases List.mem_cons.mp hp with rfl | hp
  ·lia
  ·have:=(hq p hp).1
   lia
 ·rcases join_chars hc with z | ⟨p,hp,z⟩
  ·exact .inr (.inl z)
  rcases List.mem_cons.mp hp with rfl | hp
  ·exact .inl z
  ·rcases (hq p hp).2 c z with y | y
   ·exact .inr (.inr (.inl y))
   ·exact .inr (.inr (.inr (.inl y)))
theorem words_row {w0 w1:Str} {ns:List Int} (e:sg w1=sg w0++[32]) (hn:ns≠[]):w1++wordsX ns=Str.join ⟨#[32]⟩ (w0 :: ns.map tx):=by
 refine sg_ext ?_
 cases ns with
 | nil=>exact absurd rfl hn
 | cons a r =>
   show _=sg (Str.join ⟨#[32]⟩ (w0 :: tx a :: r.map tx))
   rw [sg_app,e,join_sg]
   simp
   rfl
theorem tx_q {ns:List Int} (hs:∀ n∈ns,Small n):∀ p∈ns.map tx,p.length<=61/\∀ c∈sg p,c=45\/(48<=c/\c<=57):=fun p hp=>by
 obtain⟨n,hn,rfl⟩:=List.mem_map.mp hp
 exact⟨small_len (hs n hn),fun c hc=>tx_chars hc⟩
theorem small_b {x:Int} (h:Wi (1000*Bn) x):Small x:=by
 have e:=Bn_Cn
 have c0:0<=Cn:=by rw [Cn_eq]; decide
 exact small_wi (wi_up h (by lia))
theorem flat_iL (zs:List Int):∀ n:Nat,(List.replicate n (iL zs)).flatten=iL (List.replicate n zs).flatten
 | 0=>rfl
 | n+1=>by
   rw [List.replicate_succ,List.replicate_succ,List.flatten_cons,List.flatten_cons,flat_iL zs n]
   simp [iL]
theorem flat_mem {zs:List Int} {x:Int}:∀ {n:Nat},x∈(List.replicate n zs).flatten->x∈zs
 | 0,h=>by simp at h
 | n+1,h=>by
   rw [List.replicate_succ,List.flatten_cons] at h
   rcases List.mem_append.mp h with z | z
   ·exact z
   ·exact flat_mem z
theorem flat_len (zs:List Int):∀ n:Nat,(List.replicate n zs).flatten.length=n*zs.length
 | 0=>by simp
 | n+1=>by
   rw [List.replicate_succ,List.flatten_cons,List.length_append,flat_len zs n,Nat.succ_mul]
   lia
theorem sum_bd:∀ {ps:List Int},(∀ p∈ps,0<=p/\p<=Bn)->0<=ps.sum/\ps.sum<=Bn*ps.length
 | [],_=>by simp
 | p :: ps,h=>by
   have ih:=sum_bd (ps:=ps) fun q hq=>h q (by simp [hq])
   have h0:=h p (by simp)
   rw [List.sum_cons,List.length_cons]
   push_cast
   rw [Int.mul_add,Int.mul_one]
   lia
def spDrawn32:Sp:=fun vs H Q _=>∃ (t c:Addr) (ps ws gs pk:List Int) (hd:Int),vs=[.ref t,.ref c]/\SAt H t ps hd ws gs/\H c=some (.lst (iL pk))/\pk.length=24/\(∀ p∈pk,0<=p/\p<1000000)/\ps.length<=12/\ws.length<=12/\(∀ p∈ps,0<=p/\p<=Bn)/\Wi (20*Bn) hd/\(∀ x∈ws,Small x)/\∀ y H',Same H H'->RowD y->Q (.str y) H'
theorem Oq23 (T:Txt mg) (D:Def K mg "_law_row_drawn" Gq23) (Cq14:Callee P w K mg base "_law_a_words" 1 (spWritten K)):Callee P w K mg base "_law_row_drawn" 2 spDrawn32:=by
 refine D.ok Uq23 Jq23 (fun vs H Q E h=>?len) (fun f cdv A outer s H vs Q E hr h=>?body)
 case len=>obtain⟨t,c,ps,ws,gs,pk,hd,rfl,_⟩:=h; rfl
 case body =>
  obtain⟨t,c,ps,ws,gs,pk,hd,rfl,⟨lp,lw,lg,hT,hP,hW,hG⟩,hC,hpk,hp0,h12,hw12,hpB,⟨hd1,hd2⟩,hwS,k⟩:=h
  walk_at"z4"
  refine⟨_,(pss_cons (ps_asg (pv 0) (pg_tupK K 4 (pgs_cons (pg_name (i:=2) Uq23.nd rfl (Or.inl rfl)) (pgs_cons (pg_name (i:=3) Uq23.nd rfl (Or.inl rfl)) (pgs_cons (pg_name (i:=4) Uq23.nd rfl (Or.inl rfl)) (pgs_cons (pg_name (i:=5) Uq23.nd rfl (Or.inl rfl)) pgs_nil))))))
 (pss_cons (psS 6 Uq23.nd (pe_op op_mod (pe_ix (ix_Q (K:=K)) (pv 1) pe_int (by exact fun _ _=>rfl)) pe_int))
 (pss_join (ps_if (PW.pt (pw_or (pt_cmpR (op_eqK K hu) (pv 6) pe_int (nomark _)) (pw_or1 (PW.pt (pw_and (pt_cmpR (op_eqK K hu) (pv 2) (pe_lst pa_nil) (nomark _)) (pw_and1 (pt_cmpR (op_eqK K hu) (pe_op op_mod (pe_ix (ix_Q (K:=K)) (pv 1) pe_int (by exact fun _ _=>rfl)) pe_int) pe_int (nomark _))))))))
 (pss_cons (psS 7 Uq23.nd (pe_op op_addQ pe_int (pe_op op_mod (pe_ix (ix_Q (K:=K)) (pv 1) pe_int (by exact fun _ _=>rfl)) (pe_menu (pa_cons pe_int (pa_cons pe_int (pa_cons pe_int pa_nil))) (pe_op op_mod (pe_ix (ix_Q (K:=K)) (pv 1) pe_int (by exact fun _ _=>rfl)) pe_int) (by exact fun _ _=>rfl)))))
 (pss_cons (ps_set (i:=8) Uq23.nd rfl (Or.inr rfl) (pe_menu (pa_cons pe_int (pa_cons pe_int (pa_cons (pe_powK (r:=100000000000000000000000000000) (by decide)) pa_nil))) (pe_op op_mod (pe_op op_fdiv (pe_ix (ix_Q (K:=K)) (pv 1) pe_int (by exact fun _ _=>rfl)) pe_int) pe_int) (by exact fun _ _=>rfl)))
 (pss_cons (ps_set (i:=9) Uq23.nd rfl (Or.inr rfl) (pe_menu (pa_cons pe_int (pa_cons pe_int (pa_cons pe_int pa_nil))) (pe_op op_mod (pe_op op_fdiv (pe_ix (ix_Q (K:=K)) (pv 1) pe_int (by exact fun _ _=>rfl)) pe_int) pe_int) (by exact fun _ _=>rfl)))
 (pss_cons (by exact ps_setC (i:=10) Uq23.nd rfl (Or.inl rfl) (N:=["k", "scale", "far", "picks"]) (fr:=[none,some 8,some 9,some 1]) ⟨by rfl,by decide+kernel,by decide+kernel,(show ∀ y∈(_:List (Str×NameKind)),y.2=NameKind.free->(defScope Gq23).names.lookup y.1=some .cell\/(defScope Gq23).names.lookup y.1=some .free by decide+kernel),(fr_none (fr_some (by rfl) (by first | exact Or.inl rfl | exact Or.inr rfl) (by rfl) (fr_some (by rfl) (by first | exact Or.inl rfl | exact Or.inr rfl) (by rfl) (fr_some (by rfl) (by first | exact Or.inl rfl | exact Or.inr rfl) (by rfl) fr_nil))))⟩ (by rfl) (pi_range1 (by rfl) T.z_range (pa_cons (pv 7) pa_nil)) (fun _ _ _ _=>(pg_name (i:=0) (show List.Nodup (["k", "scale", "far", "picks"]:List Str) by decide) (by rfl) (by first | exact Or.inl rfl | exact Or.inr rfl))) (fun _ _ _ _=>pifs_nil) (fun _ _ _ _=>(pe_op op_sub (pe_op op_mulQ (pe_op op_mod (pe_ix (ix_Q (K:=K)) (pv 3) (pe_op op_addQ pe_int (pv 0)) (by exact fun _ _=>rfl)) (pv 2)) (pv 1)) (pe_callTy call_intQ (by rfl) T.z_int bt_int (pa_cons (pe_cmpR (op_eqK K hu) (pe_op op_mod (pe_ix (ix_Q (K:=K)) (pv 3) (pe_op op_addQ pe_int (pv 0)) (by exact fun _ _=>rfl)) pe_int) pe_int (nomark _)) pa_nil)))) (gw_name (by rfl)))
 (pss_one (ps_ret (pe_op op_addQ pe_str (pe_callN Cq14 (hr.mono (by decide)) (by rfl) (pa_cons (pv 10) pa_nil)))))))))
 pss_nil)
 (pss_cons (ps_if (pt_cmpR op_lt (pv 6) pe_int (nomark _))
 (pss_cons (psS 11 Uq23.nd (pe_op op_addQ (pe_op op_mulQ pe_int (pe_callB (call_sumK K) (by rfl) T.z_sum bt_sum (pa_cons (pv 2) pa_nil))) pe_int))
 (pss_cons (psS 10 Uq23.nd (pe_lst pa_nil))
 (pss_cons (ps_for PassesOwn.never rfl (pi_listK K (pe_slice (sl_Q (K:=K)) (pv 1) (po_some pe_int) (po_some (pe_op op_addQ pe_int (pe_op op_mod (pe_ix (ix_Q (K:=K)) (pv 1) pe_int (by exact fun _ _=>rfl)) pe_int))))) (pg_name (i:=12) Uq23.nd rfl (Or.inl rfl))
 (pss_one (ps_expr (pe_bmK K PySem.F.plainAttrs_list PySem.F.slot_list_append PySem.F.type_list_append mt_append (pv 10) (pa_cons (pe_op op_sub (pe_op op_addQ (pv 3) (pe_op op_mod (pe_op op_addQ (pe_op op_mulQ (pv 12) pe_int) (pe_op op_fdiv (pe_op op_mulQ (pv 12) (pv 11)) pe_int)) (pe_op op_addQ (pe_op op_mulQ pe_int (pv 11)) pe_int))) (pv 11)) pa_nil)))))
 (pss_join (ps_if (pt_cmpR (op_eqK K hu) (pe_op op_mod (pe_ix (ix_Q (K:=K)) (pv 1) pe_int (by exact fun _ _=>rfl)) pe_int) pe_int (nomark _))
 (pss_one (psS 10 Uq23.nd (pe_op op_mulQ (pv 10) pe_int)))
 pss_nil)
 (pss_cons (psS 13 Uq23.nd (pe_op op_addQ pe_str (pe_callN Cq14 (hr.mono (by decide)) (by rfl) (pa_cons (pv 10) pa_nil))))
 (pss_join (ps_if (pt_cmpR (op_eqK K hu) (pe_op op_mod (pe_ix (ix_Q (K:=K)) (pv 1) pe_int (by exact fun _ _=>rfl)) pe_int) pe_int (nomark _))
 (pss_one (psS 13 Uq23.nd (pe_op op_addQ (pe_op op_addQ (pe_op op_addQ (pe_op op_addQ (pv 13) pe_str) (pe_menu (pa_cons pe_str (pa_cons pe_str pa_nil)) (pe_op op_mod (pe_op op_fdiv (pe_ix (ix_Q (K:=K)) (pv 1) pe_int (by exact fun _ _=>rfl)) pe_int) pe_int) (by exact fun _ _=>rfl))) pe_str) (pe_op op_mulQ pe_str (pe_op op_addQ pe_int (pe_op op_mod (pe_op op_fdiv (pe_ix (ix_Q (K:=K)) (pv 1) pe_int (by exact fun _ _=>rfl)) pe_int) pe_int))))))
 pss_nil)
 (pss_one (ps_ret (pv 13)))))))))
 pss_nil)
 (pss_cons (ps_if (pt_cmpR op_lt (pv 6) pe_int (nomark _))
 (pss_cons (psS 14 Uq23.nd (pe_op op_sub (pe_op op_addQ (pv 3) (pe_op op_mod (pe_ix (ix_Q (K:=K)) (pv 1) pe_int (by exact fun _ _=>rfl)) pe_int)) pe_int))
 (pss_cons (psS 10 Uq23.nd (pe_lst (pa_cons (pv 14) pa_nil)))
 (pss_cons (ps_for PassesOwn.never rfl (pi_enumerate1K K (by rfl) T.z_enumerate (pa_cons (pv 2) pa_nil)) (pg_tupK K 2 (pgs_cons (pg_name (i:=15) Uq23.nd rfl (Or.inl rfl)) (pgs_cons (pg_name (i:=16) Uq23.nd rfl (Or.inl rfl)) pgs_nil)))
 (pss_cons (psS 17 Uq23.nd (pe_lst (pa_cons (pv 16) (pa_cons (pe_op op_sub pe_int (pv 16)) (pa_cons (pe_op op_sub (pe_op op_mod (pe_ix (ix_Q (K:=K)) (pv 1) (pe_op op_addQ pe_int (pv 15)) (by exact fun _ _=>rfl)) (pe_op op_addQ (pe_op op_mulQ pe_int (pv 16)) pe_int)) (pv 16)) pa_nil)))))
 (pss_cons (psS 17 Uq23.nd (pe_op op_addQ (pe_op op_addQ (pv 17) (pv 17)) (pe_lst (pa_cons (pe_ix (ix_Q (K:=K)) (pv 17) pe_int (by exact fun _ _=>rfl)) (pa_cons (pe_op op_addQ (pv 16) pe_int) pa_nil)))))
 (pss_one (ps_expr (pe_bmK K PySem.F.plainAttrs_list PySem.F.slot_list_append PySem.F.type_list_append mt_append (pv 10) (pa_cons (pe_op op_addQ (pe_ix (ix_Q (K:=K)) (pv 10) (pe_negK (r:=-1) (by decide)) (by exact fun _ _=>rfl)) (pe_ix (ix_Q (K:=K)) (pv 17) (pe_op op_mod (pe_op op_addQ (pe_op op_fdiv (pe_ix (ix_Q (K:=K)) (pv 1) pe_int (by exact fun _ _=>rfl)) pe_int) (pe_op op_fdiv (pe_ix (ix_Q (K:=K)) (pv 1) (pe_op op_addQ pe_int (pv 15)) (by exact fun _ _=>rfl)) pe_int)) pe_int) (by exact fun _ _=>rfl))) pa_nil)))))))
 (pss_join (ps_if (pt_cmpR (op_eqK K hu) (pe_op op_mod (pe_ix (ix_Q (K:=K)) (pv 1) pe_int (by exact fun _ _=>rfl)) pe_int) pe_int (nomark _))
 (pss_one (psS 10 Uq23.nd (pe_op op_addQ (pe_lst (pa_cons (pv 3) pa_nil)) (pv 4))))
 pss_nil)
 (pss_one (ps_ret (pe_op op_addQ (pe_menu (pa_cons pe_str (pa_cons pe_str (pa_cons pe_str pa_nil))) (pe_op op_sub (pv 6) pe_int) (by exact fun _ _=>rfl)) (pe_callN Cq14 (hr.mono (by decide)) (by rfl) (pa_cons (pv 10) pa_nil)))))))))
 pss_nil)
 (pss_one (ps_ret (pe_menu (pa_cons pe_str (pa_cons pe_str (pa_cons pe_str (pa_cons pe_str pa_nil)))) (pe_op op_mod (pe_ix (ix_Q (K:=K)) (pv 1) pe_int (by exact fun _ _=>rfl)) pe_int) (by exact fun _ _=>rfl))))))))),?_⟩
  walk_at"un"
  try clear hu
  have b100:10000000000000000000000000000000<=Bn:=by rw [Bn_eq]; decide
  have it:∀ {Q':VK} {H':Hp} {j:Int},Same H H'->0<=j->j<24->(∀ v,0<=v->Q' (.int v) H')->rIxQ K (.ref c) (.int j) H' Q':=fun e h0 h1 q=>.inl (i_ixL (SqL.of (e _ _ hC)) h0 (by lia) fun v _ m=>q v (hp0 v m).1)
  have fin:∀ {w0 s0:Str} {ns:List Int} {H':Hp} {Q':VK},sg s0=sg w0++[32]->w0∈w0s->ns≠[]->ns.length<=300->(∀ n∈ns,Small n)->(∀ y,y=Str.join ⟨#[32]⟩ (w0 :: ns.map tx)->Q' (.str y) H')->rAddQ (.str s0) (.str (wordsX ns)) H' Q':=fun {w0 s0 ns H' Q'} e1 e2 e3 e4 e5 e6=>by
   have hl:=wordsX_len ns e5
   have hl2:w0.length<=5:=by
    have:∀ w∈w0s,w.length<=5:=by decide+kernel
    exact this w0 e2
   have hl3:s0.length=w0.length+1:=by rw [<- sg_len,e1,List.length_append,sg_len]; rfl
   exact i_addQS (by lia) (e6 _ (words_row e1 e3))
  have wr:∀ {l:Addr} {ns:List Int} {H':Hp} {Q':VK},H' l=some (.lst (iL ns))->ns.length<=300->(∀ n∈ns,Small n)->(∀ H2,Same H' H2->Q' (.str (wordsX ns)) H2)->spWritten K [.ref l] H' Q' E0:=fun e1 e2 e3 q=>⟨_,_,rfl,SqL.of e1,e3,by lia,q⟩
  walk_at"s"
  walk_at"z1"
  walk_at"s"
  refine it (Same.refl _) (by decide) (by decide) (fun v0 z0=>?_);walk_at"s"
  have f1:=Int.emod_nonneg v0 (show (9:Int)≠0 by decide)
  have f2:=Int.emod_lt_of_pos v0 (show (0:Int)<9 by decide)
  generalize v0 % 9=form at *
  refine⟨fun σ H8=>σ = [some (.ref t),some (.ref c),some (.ref lp),some (.int hd),some (.ref lw),some (.ref lg),some (.int form),none,none,none,none,none,none,none,none,none,none,none]/\Same H H8/\form≠0,?_,?_⟩
  ·walk_at"s"
   refine i_if (fun g0=>?_) (fun g0=>?_)
   rotate_left
   walk_at"s"
   intro l1 h1
   have Sc:Same H _:=same_upd (o:=.lst []) h1
   have e1:upd H l1 (.lst []) l1=some (.lst (iL [])):=upd_same
   generalize upd H l1 (.lst [])=H1 at *
   walk_at"s"
   refine i_eqL (SqL.of (Sc _ _ hP)) (SqL.of e1) ?_;walk_at"s"
   refine i_if (fun g1=>?_) (fun g1=>?_)
   rotate_left
   ·walk_at"s"
    exact⟨rfl,Sc,g0⟩
   rotate_left
   walk_at"s"
   refine it Sc (by decide) (by decide) (fun v17 z17=>?_);walk_at"s"
   refine i_if (fun g2=>?_) (fun g2=>?_)
   rotate_left
   ·walk_at"s"
    exact⟨rfl,Sc,g0⟩
   have Sc:Same H H:=Same.refl H
   all_goals
    walk_at"s"
    refine it Sc (by decide) (by decide) (fun v1 z1=>?_);walk_at"s"
    refine it Sc (by decide) (by decide) (fun v2 z2=>?_);walk_at"s"
    refine i_menu3 (Int.emod_nonneg _ (by decide)) (Int.emod_lt_of_pos _ (by decide)) (fun zm hzm=>?_)
    have hzm':0<zm/\zm<=14:=by rcases hzm with z | z | z <;> lia
    clear hzm
    walk_at"s"
    have q1:=Int.emod_nonneg v1 (show zm≠0 by lia)
    have q2:=Int.emod_lt_of_pos v1 hzm'.1
    generalize v1 % zm=mm at *
    refine i_addQI ?_;walk_at"s"
    refine it Sc (by decide) (by decide) (fun v3 z3=>?_);walk_at"s"
    refine i_menu3 (Int.emod_nonneg _ (by decide)) (Int.emod_lt_of_pos _ (by decide)) (fun sc hsc=>?_)
    have hsc':0<sc/\sc<=100000000000000000000000000000:=by rcases hsc with z | z | z <;> lia
    clear hsc
    walk_at"s"
    refine it Sc (by decide) (by decide) (fun v4 z4=>?_);walk_at"s"
    refine i_menu3 (Int.emod_nonneg _ (by decide)) (Int.emod_lt_of_pos _ (by decide)) (fun fr hfr=>?_)
    have hfr':0<fr/\fr<=10:=by rcases hfr with z | z | z <;> lia
    clear hfr
    walk_at"s"
    refine⟨by lia,by lia,cp_range (fun i ys H3=>∃ zs:List Int,ys=iL zs/\Same H H3/\zs.length=i/\∀ z∈zs,Wi (1000*Bn) z) ⟨[],rfl,Sc,rfl,fun z hz=>by cases hz⟩ ?_ (szlt (by lia)) ?_ ?_⟩
    ·rintro i ys H3 ⟨zs,rfl,s3,hz1,hz2⟩
     simp [iL]
     lia
    ·rintro i ys H3 hi ⟨zs,rfl,s3,hz1,hz2⟩
     walk_at"s"
     refine i_addQI ?_;walk_at"s"
     refine it s3 (by lia) (by lia) (fun v5 z5=>?_);walk_at"s"
     have r1:=Int.emod_nonneg v5 (show fr≠0 by lia)
     have r2:=Int.emod_lt_of_pos v5 hfr'.1
     generalize v5 % fr=m5 at *
     have mu1:0<=m5*sc:=Int.mul_nonneg r1 (by lia)
     have mu2:m5*sc<=10*sc:=Int.mul_le_mul_of_nonneg_right (by lia) (by lia)
     refine i_mulQI (cmul_l (by lia) (by lia)) ?_;walk_at"s"
     refine i_addQI ?_;walk_at"s"
     refine it s3 (by lia) (by lia) (fun v6 z6=>?_);walk_at"s"
     refine .inl (i_intB ?_);walk_at"s"
     refine⟨zs++[m5*sc - (if decide (v6 % 97=0)=true then 1 else 0)],by simp [iL],s3,by simp; lia,fun z hz=>?_⟩
     rcases List.mem_append.mp hz with w1 | w1
     ·exact hz2 z w1
     ·rw [show z=m5*sc - (if decide (v6 % 97=0)=true then 1 else 0) by simpa using w1]
      constructor <;> (split <;> lia)
    rintro l7 ys H3 ⟨zs,rfl,s3,hz1,hz2⟩ h7
    have e7:upd H3 l7 (.lst (iL zs)) l7=some (.lst (iL zs)):=upd_same
    have s7:Same H _:=s3.trans (same_upd (o:=.lst (iL zs)) h7)
    generalize upd H3 l7 (.lst (iL zs))=H7 at *
    have hne:zs≠[]:=fun z=>by rw [z] at hz1; simp at hz1; lia
    have hsm:∀ n∈zs,Small n:=fun n hn=>small_b (hz2 n hn)
    walk_at"s"
    refine wr e7 (by lia) hsm (fun H10 s10=>?_)
    exact fin (w0 := "plays") (by decide+kernel) (by decide+kernel) hne (by lia) hsm fun y hy=>k y _ (s7.trans s10) (by rw [hy]; exact row_d (by decide+kernel) (by rw [List.length_map]; lia) (tx_q hsm))
  rintro σ H8 ⟨rfl,s8,g0⟩
  walk_at"s"
  refine i_if (fun g1=>?_) (fun g1=>?_)
  ·walk_at"s"
   refine i_sum (SqL.of (s8 _ _ hP)) ?_;walk_at"s"
   refine i_mulQI (cmul_l (by decide) (by decide)) ?_;walk_at"s"
   refine i_addQI ?_
   obtain⟨sb1,sb2⟩:=sum_bd hpB
   have t12:=twelve h12
   have hsp1:3<=2*ps.sum+3/\2*ps.sum+3<=30*Bn:=by lia
   generalize 2*ps.sum+3=sp at *
   walk_at"s"
   intro l1 h1
   have N1:NewI H8 (upd H8 l1 (.lst [])) l1 []:=⟨h1,same_upd h1,upd_same⟩
   generalize upd H8 l1 (.lst [])=H1 at *
   walk_at"s"
   refine it (s8.trans N1.sm) (by decide) (by decide) (fun v1 z1=>?_);walk_at"s"
   have q1:=Int.emod_nonneg v1 (show (15:Int)≠0 by decide)
   have q2:=Int.emod_lt_of_pos v1 (show (0:Int)<15 by decide)
   generalize v1 % 15=m at *
   refine i_addQI ?_;walk_at"s"
   refine .inl (i_slMid (SqL.of ((s8.trans N1.sm) _ _ hC)) (by decide) (by lia) (fun l2 h2=>?_))
   have hlen:((pk.drop (3:Int).toNat).take ((4+m).toNat - (3:Int).toNat)).length=1+m.toNat:=by
    rw [List.length_take,List.length_drop]
    have:(3:Int).toNat=3:=rfl
    lia
   have hcp:∀ p∈(pk.drop (3:Int).toNat).take ((4+m).toNat - (3:Int).toNat),0<=p/\p<1000000:=fun p hp=>hp0 p (List.mem_of_mem_drop (List.mem_of_mem_take hp))
   generalize (pk.drop (3:Int).toNat).take ((4+m).toNat - (3:Int).toNat)=cs at *
   have s2:Same H1 _:=same_upd (o:=.lst (iL cs)) h2
   have e2:upd H1 l2 (.lst (iL cs)) l2=some (.lst (iL cs)):=upd_same
   have N2:=N1.more s2
   have nl:l2≠l1:=(ne_of_none N1.at_ h2).symm
   generalize upd H1 l2 (.lst (iL cs))=H2 at *
   refine⟨_,rfl,⟨_,SqL.of e2⟩,lp_ints (ns:=cs) (fun i σ H3=>∃ (u12:Option V) (zs:List Int),σ = [some (.ref t),some (.ref c),some (.ref lp),some (.int hd),some (.ref lw),some (.ref lg),some (.int form),none,none,none,some (.ref l1),some (.int sp),u12,none,none,none,none,none]/\NewI H8 H3 l1 zs/\H3 l2=some (.lst (iL cs))/\zs.length=i/\∀ z∈zs,Wi (1000*Bn) z) ?_ ?_ ?_ ?_⟩
   ·exact⟨_,[],rfl,N2,e2,rfl,fun z hz=>by cases hz⟩
   ·rintro i σ H3 _ ⟨u12,zs,rfl,_,e3,_⟩
    exact SqL.of e3
   ·rintro i x σ H3 hx ⟨u12,zs,rfl,N3,e3,hz1,hz2⟩
    obtain⟨hx0,hx1⟩:=hcp x (List.mem_of_getElem? hx)
    have hil:i<cs.length:=(List.getElem?_eq_some_iff.mp hx).1
    walk_at"s"
    refine⟨.inl ⟨rfl,_,SqL.of N3.at_⟩,?_⟩;walk_at"s"
    refine i_mulQI (cmul_r (by decide) (by decide)) ?_;walk_at"s"
    refine i_mulQI (cmul_l (by lia) (by lia)) ?_;walk_at"s"
    refine i_addQI ?_;walk_at"s"
    refine i_mulQI (cmul_l (by decide) (by decide)) ?_;walk_at"s"
    refine i_addQI ?_
    generalize x*31+x*sp / 499979=aa at *
    walk_at"s"
    have r1:=Int.emod_nonneg aa (show 2*sp+1≠0 by lia)
    have r2:=Int.emod_lt_of_pos aa (show 0<2*sp+1 by lia)
    generalize aa % (2*sp+1)=rr at *
    refine i_addQI ?_;walk_at"s"
    refine i_app N3.at_ (szlt (by simp [iL]; lia)) ?_
    refine⟨_,zs++[hd+rr - sp],rfl,N3.app,by rw [upd_ne nl]; exact e3,by simp; lia,fun z hz=>?_⟩
    rcases List.mem_append.mp hz with w1 | w1
    ·exact hz2 z w1
    ·rw [show z=hd+rr - sp by simpa using w1]
     constructor <;> lia
   ·rintro σ H3 ⟨u12,zs,rfl,N3,e3,hz1,hz2⟩
    have S3:=s8.trans N3.sm
    walk_at"s"
    refine⟨fun σ H4=>∃ (lx:Addr) (ns:List Int),σ = [some (.ref t),some (.ref c),some (.ref lp),some (.int hd),some (.ref lw),some (.ref lg),some (.int form),none,none,none,some (.ref lx),some (.int sp),u12,none,none,none,none,none]/\Same H H4/\H4 lx=some (.lst (iL ns))/\ns≠[]/\ns.length<=300/\∀ n∈ns,Small n,?_,?_⟩
    ·walk_at"s"
     refine it S3 (by decide) (by decide) (fun v2 z2=>?_);walk_at"s"
     refine i_if (fun g2=>?_) (fun g2=>?_)
     ·walk_at"s"
      have hfl:=flat_len zs 20
      refine .inl (.inr ⟨l1,20,iL zs,rfl,rfl,N3.at_,by decide,by decide,szl ?_,fun l9 h9=>?_⟩)
      ·have:(iL zs).length=zs.length:=by simp [iL]
       rw [this,show (20:Int).toNat=20 from rfl]
       lia
      rw [flat_iL]
      refine⟨l9,_,rfl,S3.trans (same_upd h9),upd_same,fun z=>?_,?_,fun n hn=>small_b (hz2 n (flat_mem hn))⟩
      ·have z':=congrArg List.length z
       rw [show (20:Int).toNat=20 from rfl] at z'
       simp only [List.length_nil] at z'
       lia
      ·rw [show (20:Int).toNat=20 from rfl]
       lia
     ·walk_at"s"
      refine⟨l1,zs,rfl,S3,N3.at_,fun z=>?_,by lia,fun n hn=>small_b (hz2 n hn)⟩
      rw [z] at hz1
      simp at hz1
      lia
    rintro σ H4 ⟨lx,ns,rfl,s4,e4,hne,hnl,hsm⟩
    walk_at"s"
    refine wr e4 hnl hsm (fun H5 s5=>?_);walk_at"s"
    refine fin (w0 := "turn") (by decide+kernel) (by decide+kernel) hne hnl hsm (fun row hrow=>?_)
    have hrd:RowD row:=by rw [hrow]; exact row_d (by decide+kernel) (by rw [List.length_map]; lia) (tx_q hsm)
    have S5:=s4.trans s5
    walk_at"s"
    refine⟨fun σ H6=>∃ y,σ = [some (.ref t),some (.ref c),some (.ref lp),some (.int hd),some (.ref lw),some (.ref lg),some (.int form),none,none,none,some (.ref lx),some (.int sp),u12,some (.str y),none,none,none,none]/\Same H H6/\RowD y,?_,?_⟩
    rotate_left
    ·rintro σ H6 ⟨y,rfl,s6,hy⟩
     walk_at"s"
     exact k y _ s6 hy
    walk_at"s"
    refine it S5 (by decide) (by decide) (fun v3 z3=>?_);walk_at"s"
    refine i_if (fun g3=>?_) (fun g3=>?_)
    rotate_left
    ·walk_at"s"
     exact⟨S5,hrd⟩
    have hl1:=hrd.len
    have hl2:=app_len row (" " : Str)
    have hl3:(" " : Str).length=1:=rfl
    have hl4:("1" : Str).length=1:=rfl
    have big:∀ {s:Str} {n:Int},s.length<=1->(∀ c∈sg s,c=45)->0<=n->n<=41->RowD (row++(" " : Str)++s++("1" : Str)++Txt.mul ("0" : Str) n):=fun {s n} h1 h2 h3 h4=>by
     have e:row++(" " : Str)++s++("1" : Str)++Txt.mul ("0" : Str) n=Str.join ⟨#[32]⟩ ("turn" :: (ns.map tx++[s++("1" : Str)++Txt.mul ("0" : Str) n])):=by
      refine sg_ext ?_
      rw [<- List.cons_append,join_snoc (by simp),<- hrow]
      have e1:sg (" " : Str)=[32]:=by decide+kernel
      simp only [sg_app,e1]
      simp
     rw [e]
     refine row_d (by decide+kernel) (by simp; lia) fun p hp=>?_
     rcases List.mem_append.mp hp with z | z
     ·exact tx_q hsm p z
     rw [show p=s++("1" : Str)++Txt.mul ("0" : Str) n by simpa using z]
     have m1:=mul_len (x:=("0" : Str)) (n:=n)
     have m2:("0" : Str).length=1:=rfl
     refine⟨?_,fun c hc=>?_⟩
     ·rw [app_len,app_len]
      rw [m2] at m1
      lia
     ·simp only [sg_app] at hc
      rcases List.mem_append.mp hc with z | z
      ·rcases List.mem_append.mp z with z | z
       ·exact .inl (h2 c z)
       ·have:∀ c∈sg ("1" : Str),48<=c/\c<=57:=by decide+kernel
        exact .inr (this c z)
      ·have:∀ c∈sg ("0" : Str),48<=c/\c<=57:=by decide+kernel
       exact .inr (this c (mul_mem z))
    clear hrow
    walk_at"s"
    refine i_addQS (by lia) ?_;walk_at"s"
    refine it S5 (by decide) (by decide) (fun v4 z4=>?_);walk_at"s"
    have tail:∀ {s:Str},s.length<=1->(∀ c∈sg s,c=45)->∀ v n:Int,0<=v->n=38+v / 22 % 4->Same H H5/\RowD (row++(" " : Str)++s++("1" : Str)++Txt.mul ("0" : Str) n):=fun {s} h1 h2 v n h3 h4=>by
     have q1:=Int.emod_nonneg (v / 22) (show (4:Int)≠0 by decide)
     have q2:=Int.emod_lt_of_pos (v / 22) (show (0:Int)<4 by decide)
     exact⟨S5,big h1 h2 (by lia) (by lia)⟩
    rcases (show v4 / 11 % 2=0\/v4 / 11 % 2=1 by lia) with g4 | g4
    ·rw [g4]
     refine⟨0,_,rfl,rfl,?_⟩
     have l0:("" : Str).length=0:=rfl
     refine i_addQS (by lia) ?_
     have l1:=app_len (row++(" " : Str)) ("" : Str)
     walk_at"s"
     refine i_addQS (by lia) ?_
     have l2:=app_len (row++(" " : Str)++("" : Str)) ("1" : Str)
     walk_at"s"
     refine it S5 (by decide) (by decide) (fun v5 z5=>?_);walk_at"s"
     refine i_addQI ?_
     have q1:=Int.emod_nonneg (v5 / 22) (show (4:Int)≠0 by decide)
     have q2:=Int.emod_lt_of_pos (v5 / 22) (show (0:Int)<4 by decide)
     have m1:=mul_len (x:=("0" : Str)) (n:=38+v5 / 22 % 4)
     have m2:("0" : Str).length=1:=rfl
     rw [m2] at m1
     refine .inr ⟨_,_,rfl,rfl,by lia,by rw [m2]; lia,by lia,?_⟩
     refine i_addQS (by lia) ?_;walk_at"s"
     exact tail (by decide) (by decide+kernel) v5 _ z5 rfl
    ·rw [g4]
     refine⟨1,_,rfl,rfl,?_⟩
     have l0:("-" : Str).length=1:=rfl
     refine i_addQS (by lia) ?_
     have l1:=app_len (row++(" " : Str)) ("-" : Str)
     walk_at"s"
     refine i_addQS (by lia) ?_
     have l2:=app_len (row++(" " : Str)++("-" : Str)) ("1" : Str)
     walk_at"s"
     refine it S5 (by decide) (by decide) (fun v5 z5=>?_);walk_at"s"
     refine i_addQI ?_
     have q1:=Int.emod_nonneg (v5 / 22) (show (4:Int)≠0 by decide)
     have q2:=Int.emod_lt_of_pos (v5 / 22) (show (0:Int)<4 by decide)
     have m1:=mul_len (x:=("0" : Str)) (n:=38+v5 / 22 % 4)
     have m2:("0" : Str).length=1:=rfl
     rw [m2] at m1
     refine .inr ⟨_,_,rfl,rfl,by lia,by rw [m2]; lia,by lia,?_⟩
     refine i_addQS (by lia) ?_;walk_at"s"
     exact tail (by decide) (by decide+kernel) v5 _ z5 rfl
  walk_at"s"
  refine i_if (fun g2=>?_) (fun g2=>?_)
  rotate_left
  ·have rd:∀ {w0:Str},w0∈w0s->RowD w0:=fun {w0} h=>row_d (qs:=[]) h (by decide) fun p hp=>by cases hp
   walk_at"s"
   refine it s8 (by decide) (by decide) (fun v1 z1=>?_);walk_at"s"
   rcases (show v1 % 4=0\/v1 % 4=1\/v1 % 4=2\/v1 % 4=3 by lia) with g | g | g | g
   ·rw [g]
    exact⟨0,_,rfl,rfl,k _ _ s8 (rd (by decide+kernel))⟩
   ·rw [g]
    exact⟨1,_,rfl,rfl,k _ _ s8 (rd (by decide+kernel))⟩
   ·rw [g]
    exact⟨2,_,rfl,rfl,k _ _ s8 (rd (by decide+kernel))⟩
   ·rw [g]
    exact⟨3,_,rfl,rfl,k _ _ s8 (rd (by decide+kernel))⟩
  walk_at"s"
  refine it s8 (by decide) (by decide) (fun v1 z1=>?_);walk_at"s"
  have q1:=Int.emod_nonneg v1 (show (21:Int)≠0 by decide)
  have q2:=Int.emod_lt_of_pos v1 (show (0:Int)<21 by decide)
  generalize v1 % 21=m1 at *
  refine i_addQI ?_;walk_at"s"
  intro l1 h1
  have s9:Same H8 _:=same_upd (o:=.lst [.int (hd+m1 - 10)]) h1
  have N1:NewI H8 (upd H8 l1 (.lst [.int (hd+m1 - 10)])) l1 [hd+m1 - 10]:=⟨h1,s9,upd_same⟩
  generalize upd H8 l1 (.lst [.int (hd+m1 - 10)])=H1 at *
  walk_at"s"
  refine⟨⟨_,s9 _ _ (s8 _ _ hP)⟩,lp_enum (xs:=iL ps) (fun i σ H2=>∃ (u1 u2 u3:Option V) (zs:List Int),σ = [some (.ref t),some (.ref c),some (.ref lp),some (.int hd),some (.ref lw),some (.ref lg),some (.int form),none,none,none,some (.ref l1),none,none,none,some (.int (hd+m1 - 10)),u1,u2,u3]/\NewI H8 H2 l1 zs/\zs.length=i+1/\∀ z∈zs,Wi (21*Bn+2*Bn*i) z) ?_ ?_ ?_ ?_⟩
  ·refine⟨_,_,_,[hd+m1 - 10],rfl,N1,rfl,fun z hz=>?_⟩
   rw [show z=hd+m1 - 10 by simpa using hz]
   constructor <;> (push_cast; lia)
  ·rintro i σ H2 ⟨u1,u2,u3,zs,rfl,N,_,_⟩
   exact SqL.of (N.sm _ _ (s8 _ _ hP))
  ·rintro i x tt σ H2 hx ⟨u1,u2,u3,zs,rfl,N,hzl,hzb⟩ htt
   unfold iL at hx
   rw [List.getElem?_map] at hx
   obtain⟨pv,hp,rfl⟩:=Option.map_eq_some_iff.mp hx
   have hil:i<ps.length:=(List.getElem?_eq_some_iff.mp hp).1
   obtain⟨p1,p2⟩:=hpB pv (List.mem_of_getElem? hp)
   obtain⟨zs',z,rfl⟩:∃ zs' z,zs=zs'++[z]:=by
    rcases List.eq_nil_or_concat zs with rfl | ⟨a,b,rfl⟩
    ·simp at hzl
    ·exact⟨a,b,by simp⟩
   have hz:=hzb z (by simp)
   have hzl':zs'.length=i:=by simpa using hzl
   have N2:=N.more (same_upd (o:=.tup [.int i,.int pv]) htt)
   walk_at"s"
   walk_at"z9"
   generalize upd H2 tt (.tup [.int i,.int pv])=H3 at *
   have S3:=s8.trans N2.sm
   walk_at"s"
   refine i_addQI ?_;walk_at"s"
   refine it S3 (by lia) (by lia) (fun v2 z2=>?_);walk_at"s"
   refine i_mulQI (cmul_l (by decide) (by decide)) ?_;walk_at"s"
   refine i_addQI ?_;walk_at"s"
   have q3:=Int.emod_nonneg v2 (show 2*pv+1≠0 by lia)
   have q4:=Int.emod_lt_of_pos v2 (show 0<2*pv+1 by lia)
   generalize v2 % (2*pv+1)=m2 at *
   intro l4 h4
   have e4:upd H3 l4 (.lst [.int pv,.int (0 - pv),.int (m2 - pv)]) l4=some (.lst (iL [pv,0 - pv,m2 - pv])):=upd_same
   have N4:=N2.more (same_upd (o:=.lst [.int pv,.int (0 - pv),.int (m2 - pv)]) h4)
   generalize upd H3 l4 (.lst [.int pv,.int (0 - pv),.int (m2 - pv)])=H4 at *
   walk_at"s"
   refine .inl (i_addL e4 e4 (szl (by simp [iL])) (fun l5 h5=>?_))
   have s5:Same H4 _:=same_upd (o:=.lst (iL [pv,0 - pv,m2 - pv]++iL [pv,0 - pv,m2 - pv])) h5
   have e5:upd H4 l5 (.lst (iL [pv,0 - pv,m2 - pv]++iL [pv,0 - pv,m2 - pv])) l5=some (.lst (iL [pv,0 - pv,m2 - pv,pv,0 - pv,m2 - pv])):=by rw [upd_same]; rfl
   generalize upd H4 l5 (.lst (iL [pv,0 - pv,m2 - pv]++iL [pv,0 - pv,m2 - pv]))=H5 at *
   have N5:=N4.more s5
   walk_at"s"
   refine .inl (i_ixN (SqL.of (s5 _ _ e4)) (i:=2) (by decide) (v:=.int (m2 - pv)) rfl ?_);walk_at"s"
   refine i_addQI ?_;walk_at"s"
   intro l6 h6
   have s6:Same H5 _:=same_upd (o:=.lst [.int (m2 - pv),.int (pv+1)]) h6
   have e6:upd H5 l6 (.lst [.int (m2 - pv),.int (pv+1)]) l6=some (.lst (iL [m2 - pv,pv+1])):=upd_same
   generalize upd H5 l6 (.lst [.int (m2 - pv),.int (pv+1)])=H6 at *
   have N6:=N5.more s6
   walk_at"s"
   refine .inl (i_addL (s6 _ _ e5) e6 (szl (by simp [iL])) (fun l7 h7=>?_))
   have s7:Same H6 _:=same_upd (o:=.lst (iL [pv,0 - pv,m2 - pv,pv,0 - pv,m2 - pv]++iL [m2 - pv,pv+1])) h7
   have e7:upd H6 l7 (.lst (iL [pv,0 - pv,m2 - pv,pv,0 - pv,m2 - pv]++iL [m2 - pv,pv+1])) l7=some (.lst (iL [pv,0 - pv,m2 - pv,pv,0 - pv,m2 - pv,m2 - pv,pv+1])):=by rw [upd_same]; rfl
   generalize upd H6 l7 (.lst (iL [pv,0 - pv,m2 - pv,pv,0 - pv,m2 - pv]++iL [m2 - pv,pv+1]))=H7 at *
   have N7:=N6.more s7
   have S7:=s8.trans N7.sm
   walk_at"s"
   refine⟨.inl ⟨rfl,_,SqL.of N7.at_⟩,?_⟩;walk_at"s"
   refine .inl (i_ixLast (xs:=iL zs') (v:=.int z) (by have:=N7.at_; exact SqL.of (by rw [this]; simp [iL])) ?_);walk_at"s"
   refine it S7 (by decide) (by decide) (fun v3 z3=>?_);walk_at"s"
   refine i_addQI ?_;walk_at"s"
   refine it S7 (by lia) (by lia) (fun v4 z4=>?_);walk_at"s"
   refine i_addQI ?_
   generalize v3 / 9+v4 / 64=aa at *
   walk_at"s"
   refine .inl (i_ixL (SqL.of e7) (Int.emod_nonneg _ (by decide)) (by have:=Int.emod_lt_of_pos aa (show (0:Int)<8 by decide); simpa using this) (fun of _ hof=>?_))
   have hofb:-(pv+1)<=of/\of<=pv+1:=by
    simp only [List.mem_cons,List.not_mem_nil,or_false] at hof
    lia
   walk_at"s"
   refine i_addQI ?_;walk_at"s"
   refine i_app N7.at_ (szlt (by simp [iL]; lia)) ?_
   refine⟨_,_,_,zs'++[z]++[z+of],rfl,N7.app,by simp at hzl ⊢; lia,fun y hy=>?_⟩
   have e:2*Bn*((i+1:Nat):Int)=2*Bn*i+2*Bn:=by push_cast; rw [Int.mul_add,Int.mul_one]
   rw [e]
   rcases List.mem_append.mp hy with w1 | w1
   ·have:=hzb y w1
    obtain⟨a1,a2⟩:=this
    constructor <;> lia
   ·rw [show y=z+of by simpa using w1]
    obtain⟨a1,a2⟩:=hz
    constructor <;> lia
  ·rintro σ H2 ⟨u1,u2,u3,zs,rfl,N,hzl,hzb⟩
   have hlp:(iL ps).length=ps.length:=by simp [iL]
   rw [hlp] at hzl hzb
   have S2:=s8.trans N.sm
   have hm:2*Bn*(ps.length:Int)<=2*Bn*12:=Int.mul_le_mul_of_nonneg_left (by lia) (by lia)
   walk_at"s"
   refine⟨fun σ H4=>∃ (lx:Addr) (ns:List Int),σ = [some (.ref t),some (.ref c),some (.ref lp),some (.int hd),some (.ref lw),some (.ref lg),some (.int form),none,none,none,some (.ref lx),none,none,none,some (.int (hd+m1 - 10)),u1,u2,u3]/\Same H H4/\H4 lx=some (.lst (iL ns))/\ns≠[]/\ns.length<=300/\∀ n∈ns,Small n,?_,?_⟩
   ·walk_at"s"
    refine it S2 (by decide) (by decide) (fun v2 z2=>?_);walk_at"s"
    refine i_if (fun g3=>?_) (fun g3=>?_)
    ·walk_at"s"
     intro q1 h1;walk_at"s"
     have s1:Same H2 _:=same_upd (o:=.lst [.int hd]) h1
     refine .inl (i_addL (xs:=[.int hd]) (ys:=iL ws) upd_same (s1 _ _ (S2 _ _ hW)) (szl (by simp [iL]; lia)) (fun q2 h2=>?_))
     refine⟨q2,hd :: ws,rfl,S2.trans (s1.trans (same_upd h2)),by rw [upd_same]; rfl,by simp,by simp; lia,fun n hn=>?_⟩
     rcases List.mem_cons.mp hn with rfl | hn
     ·exact small_b ⟨by lia,by lia⟩
     ·exact hwS n hn
    ·walk_at"s"
     refine⟨l1,zs,rfl,S2,N.at_,fun z=>?_,by lia,fun n hn=>small_b (wi_up (hzb n hn) (by lia))⟩
     rw [z] at hzl
     simp at hzl
   rintro σ H4 ⟨lx,ns,rfl,s4,e4,hne,hnl,hsm⟩
   walk_at"s"
   have rd:∀ {w0:Str} {y:Str} {H':Hp},w0∈w0s->Same H H'->y=Str.join ⟨#[32]⟩ (w0 :: ns.map tx)->Q (.str y) H':=fun {w0 y H'} h s hy=>k y _ s (by rw [hy]; exact row_d h (by rw [List.length_map]; lia) (tx_q hsm))
   rcases (show form=4\/form=5\/form=6 by lia) with rfl | rfl | rfl
   ·refine⟨0,_,rfl,rfl,?_⟩
    walk_at"s"
    refine wr e4 hnl hsm (fun H5 s5=>?_)
    exact fin (w0 := "at") (by decide+kernel) (by decide+kernel) hne hnl hsm fun y hy=>rd (by decide+kernel) (s4.trans s5) hy
   ·refine⟨1,_,rfl,rfl,?_⟩
    walk_at"s"
    refine wr e4 hnl hsm (fun H5 s5=>?_)
    exact fin (w0 := "least") (by decide+kernel) (by decide+kernel) hne hnl hsm fun y hy=>rd (by decide+kernel) (s4.trans s5) hy
   ·refine⟨2,_,rfl,rfl,?_⟩
    walk_at"s"
    refine wr e4 hnl hsm (fun H5 s5=>?_)
    exact fin (w0 := "least") (by decide+kernel) (by decide+kernel) hne hnl hsm fun y hy=>rd (by decide+kernel) (s4.trans s5) hy
theorem pd_bls {H:Hp} {l:Addr} {bs:List Bool} {n:Nat} (h:H l=some (.lst (bL bs))):PdAt K H (n+1) (.list (bs.map PyData.bool)) (.ref l):=by
 refine pd_lst (SqL.of h) ?_
 clear h
 induction bs with
 | nil=>exact .nil
 | cons b bs ih=>exact .cons pd_bl ih
theorem wordsX_asc (ns:List Int):Asc (wordsX ns):=fun c hc=>by rcases wordsX_chars hc with z | z | z <;> lia
theorem train_asc (ps ws:List Int) (hd:Int):Asc (trainX ps hd ws):=fun c hc=>by
 rw [<- train_eq,sg_app,sg_app,sg_app] at hc
 rcases List.mem_append.mp hc with z | z
 ·rcases List.mem_append.mp z with z | z
  ·rcases List.mem_append.mp z with z | z
   ·have:∀ c∈sg ("plays " : Str),c<128:=by decide+kernel
    exact this c z
   ·exact wordsX_asc _ c z
  ·have:∀ c∈sg ("\nat " : Str),c<128:=by decide+kernel
   exact this c z
 ·exact wordsX_asc _ c z
theorem act_asc {ss:List DS} {word x:Str} {ns:List Int} (h:actO ss word ns=.told x):PyData.strOk x=true:=by
 refine Asc.ok ?_
 unfold actO at h
 split at h
 ·split at h <;> cases h
 split at h
 ·cases h
 ·repeat' split at h
  all_goals first | (cases h; done) | (cases h; exact wordsX_asc _) | (cases h; exact train_asc _ _ _)
theorem ask_told {ss0:List DS} {ps ws gs:List Int} {hd:Int} {r:Str} (h:r = "where" \/ r = "ways" \/ r = "text"):∃ x,actO (ss0++[(ps,hd,ws,gs)]) r []=.told x:=by
 rcases h with rfl | rfl | rfl
 ·exact⟨_,act_where⟩
 ·exact⟨_,act_ways⟩
 ·exact⟨_,act_text⟩
theorem ask_ok {r:Str} (h:r = "where" \/ r = "ways" \/ r = "text"):RowOk r r []/\Asc r/\r.length<=20000/\r ≠ "plays" /\ r ≠ "least" /\ r ≠ "range" /\ r ≠ "grab" /\ r ≠ "back" := by
 rcases h with rfl | rfl | rfl
 ·exact⟨where_ok,by decide+kernel,by decide+kernel,by decide+kernel,by decide+kernel,by decide+kernel,by decide+kernel,by decide+kernel⟩
 ·exact⟨ways_ok,by decide+kernel,by decide+kernel,by decide+kernel,by decide+kernel,by decide+kernel,by decide+kernel,by decide+kernel⟩
 ·exact⟨text_ok,by decide+kernel,by decide+kernel,by decide+kernel,by decide+kernel,by decide+kernel,by decide+kernel,by decide+kernel⟩
def spStands32 (C:Addr):Sp:=fun vs H Q _=>∃ (p ls t:Addr) (ts:List Addr) (ss:List DS) (ps ws gs:List Int) (hd:Int),vs=[.ref p,.ref t]/\DkAt C H p ls ts ss/\SAt H t ps hd ws gs/\((ss=[]/\ps=[])\/∃ ss0,ss=ss0++[(ps,hd,ws,gs)]/\ps≠[])/\ts.length<=50000/\(∀ (word:Str) (ns:List Int),word ≠ "least" -> SmallG ss word ns)/\∀ H',Same H H'->Q (.bl true) H'
theorem Oq26 (T:Txt mg) (Z:Cls K mg) (Y:Own K mg) (D:Def K mg "_law_stands" Gq26) (Cq19:Callee P w K mg base "_law_due_kin" 1 spDueKinG) (Cq25:Callee P w K mg base "_law_said" 13 (spSaidG Y.jDe Z)) (Cq21:Callee P w K mg base "_law_answer" 2 spAns32):Callee P w K mg base "_law_stands" 14 (spStands32 Y.jDe):=by
 refine D.ok Uq26 Jq26 (fun vs H Q E h=>?len) (fun f cdv A outer s H vs Q E hr h=>?body)
 case len=>obtain⟨p,ls,t,ts,ss,ps,ws,gs,hd,rfl,_⟩:=h; rfl
 case body =>
  obtain⟨p,ls,t,ts,ss,ps,ws,gs,hd,rfl,W,hSA,hcase,htl,hsm,k⟩:=h
  walk_at"z4"
  refine⟨_,(pss_cons (ps_for PassesOwn.never rfl (pi_listK K (pe_lst (pa_cons pe_str (pa_cons pe_str (pa_cons pe_str pa_nil))))) (pg_name (i:=2) Uq26.nd rfl (Or.inl rfl))
 (pss_cons (ps_asg (pe_callN Cq25 (hr.mono (by decide)) (by rfl) (pa_cons (pv 0) (pa_cons (pv 2) pa_nil))) (pg_tupK K 2 (pgs_cons (pg_name (i:=3) Uq26.nd rfl (Or.inl rfl)) (pgs_cons (pg_name (i:=4) Uq26.nd rfl (Or.inl rfl)) pgs_nil))))
 (pss_one (ps_if (pt_cmpR (op_eqK K hu) (pe_ix (ix_K K) (pv 1) pe_int (by exact fun _ _=>rfl)) (pe_lst pa_nil) (nomark _))
 (pss_one (ps_if (pt_cmpR (op_neK K hu) (pv 4) (pe_callN Cq19 (hr.mono (by decide)) (by rfl) (pa_cons pe_str pa_nil)) (nomark _))
 (pss_one (ps_ret pe_bl))
 pss_nil))
 (pss_one (ps_if (PW.pt (pw_or (pt_cmpR (op_neK K hu) (pv 4) (pe_lst pa_nil) (nomark _)) (pw_or1 (pt_cmpR (op_neK K hu) (pv 3) (pe_callN Cq21 (hr.mono (by decide)) (by rfl) (pa_cons (pv 1) (pa_cons (pv 2) (pa_cons (pe_lst pa_nil) pa_nil)))) (nomark _)))))
 (pss_one (ps_ret pe_bl))
 pss_nil))))))
 (pss_one (ps_ret pe_bl))),?_⟩
  walk_at"un"
  try clear hu
  walk_at"s"
  intro l8 h8
  have e8:upd H l8 (.lst [.str "where", .str "ways", .str "text"]) l8=some (.lst [.str "where", .str "ways", .str "text"]):=upd_same
  have s8:Same H _:=same_upd (o:=.lst [.str "where", .str "ways", .str "text"]) h8
  generalize upd H l8 (.lst [.str "where", .str "ways", .str "text"])=H8 at *
  refine⟨_,rfl,⟨_,SqL.of e8⟩,lp_list (xs:=[V.str "where", .str "ways", .str "text"]) (fun i σ H2=>∃ (u2 u3 u4:Option V),σ = [some (.ref p),some (.ref t),u2,u3,u4]/\Same H8 H2) ?_ ?_ ?_ ?_⟩
  ·exact⟨_,_,_,rfl,Same.refl _⟩
  ·rintro i σ H2 _ ⟨u2,u3,u4,rfl,s9⟩
   exact SqL.of (s9 _ _ e8)
  ·rintro i x σ H2 hx ⟨u2,u3,u4,rfl,s9⟩
   obtain⟨r,rfl,Ak⟩:∃ r,x=.str r/\(r = "where" \/ r = "ways" \/ r = "text"):=by
    match i,hx with
    | 0,hx=>simp at hx; exact⟨_,hx.symm,.inl rfl⟩
    | 1,hx=>simp at hx; exact⟨_,hx.symm,.inr (.inl rfl)⟩
    | 2,hx=>simp at hx; exact⟨_,hx.symm,.inr (.inr rfl)⟩
   obtain⟨rok,rA,rl,n1,n2,n3,n4,n5⟩:=ask_ok Ak
   have S2:=s8.trans s9
   have hO:=sayO_ok (ss:=ss) rok
   walk_at"s"
   refine⟨p,ls,ts,ss,r,rfl,W.more S2,rA,rl,htl,fun word ns hr2=>?_,fun n hn q H3 s3 A3=>?_,fun x hx q H3 s3 A3=>?_,fun ss' hs=>?_⟩
   ·obtain⟨rfl,rfl⟩:=row_uni hr2 rok
    exact⟨⟨n3,n4,n5⟩,hsm _ _ n2⟩
   ·rw [hO] at hn
    rcases hcase with ⟨rfl,rfl⟩ | ⟨ss0,rfl,_⟩
    rotate_left
    ·obtain⟨y,hy⟩:=ask_told (ss0:=ss0) (ps:=ps) (ws:=ws) (gs:=gs) (hd:=hd) Ak
     rw [hy] at hn
     cases hn
    rw [act_nil n1] at hn
    cases hn
    obtain⟨lk,a1,a2⟩:=A3
    have S3:=S2.trans s3
    obtain⟨lp,lw,lg,f1,f2,f3,f4⟩:=hSA.more S3
    walk_at"s"
    refine⟨_,_,rfl,SqT.of a1,rfl,_,_,rfl,_,_,rfl,rfl,?_⟩;walk_at"s"
    refine i_ixT (SqT.of f1) (by decide) rfl ?_;walk_at"s"
    intro l4 h4
    have s4:Same H3 _:=same_upd (o:=.lst []) h4
    have e4:upd H3 l4 (.lst []) l4=some (.lst (iL [])):=upd_same
    generalize upd H3 l4 (.lst [])=H4 at *
    walk_at"s"
    refine i_eqL (SqL.of (s4 _ _ f2)) (SqL.of e4) ?_;walk_at"s"
    refine i_if (fun _=>?_) (fun g=>absurd rfl g);walk_at"s"
    refine⟨"NoRow", rfl,by decide+kernel,fun l5 H5 s5 e5=>?_⟩;walk_at"s"
    refine i_neSame _ (pd_bls (s5 _ _ (s4 _ _ a2))) (pd_bls e5) ?_;walk_at"s"
    exact⟨_,_,_,rfl,s9.trans (s3.trans (s4.trans s5))⟩
   ·rw [hO] at hx
    rcases hcase with ⟨rfl,rfl⟩ | ⟨ss0,rfl,hpn⟩
    ·rw [act_nil n1] at hx
     cases hx
    obtain⟨lk,a1,a2⟩:=A3
    have S3:=S2.trans s3
    have hS3:=hSA.more S3
    obtain⟨lp,lw,lg,f1,f2,f3,f4⟩:=hSA.more S3
    walk_at"s"
    refine⟨_,_,rfl,SqT.of a1,rfl,_,_,rfl,_,_,rfl,rfl,?_⟩;walk_at"s"
    refine i_ixT (SqT.of f1) (by decide) rfl ?_;walk_at"s"
    intro l4 h4
    have s4:Same H3 _:=same_upd (o:=.lst []) h4
    have e4:upd H3 l4 (.lst []) l4=some (.lst (iL [])):=upd_same
    generalize upd H3 l4 (.lst [])=H4 at *
    walk_at"s"
    refine i_eqL (SqL.of (s4 _ _ f2)) (SqL.of e4) ?_;walk_at"s"
    refine i_if (fun g=>absurd g hpn) (fun _=>?_);walk_at"s"
    intro l5 h5
    have s5:Same H4 _:=same_upd (o:=.lst []) h5
    have e5:upd H4 l5 (.lst []) l5=some (.lst (bL [])):=upd_same
    generalize upd H4 l5 (.lst [])=H5 at *
    walk_at"s"
    refine i_neSame _ (pd_bls (bs:=[]) (s5 _ _ (s4 _ _ a2))) (pd_bls (bs:=[]) e5) ?_;walk_at"s"
    intro l6 h6
    have s6:Same H5 _:=same_upd (o:=.lst []) h6
    have e6:upd H5 l6 (.lst []) l6=some (.lst (iL [])):=upd_same
    generalize upd H5 l6 (.lst [])=H6 at *
    have S6:=s4.trans (s5.trans s6)
    walk_at"s"
    refine⟨t,l6,_,ps,ws,gs,[],hd,r,rfl,hS3.more S6,e6,.inr ⟨ss0,rfl,W.ok _ (by simp),hsm _ _ n2,?_⟩,fun z=>?_,fun y hy H7 s7=>?_⟩
    ·rcases Ak with z | z | z
     ·exact .inl z
     ·exact .inr (.inl z)
     ·exact .inr (.inr (.inl z))
    ·exfalso
     rcases Ak with rfl | rfl | rfl <;> revert z <;> decide+kernel
    ·rw [hx] at hy
     cases hy
     walk_at"s"
     refine i_neS (act_asc hx) (act_asc hx) ?_
     rw [beq_self_eq_true]
     walk_at"s"
     exact⟨_,_,_,rfl,s9.trans (s3.trans (S6.trans s7))⟩
   ·exfalso
    rw [hO] at hs
    rcases hcase with ⟨rfl,_⟩ | ⟨ss0,rfl,_⟩
    ·rw [act_nil n1] at hs
     cases hs
    ·obtain⟨y,hy⟩:=ask_told (ss0:=ss0) (ps:=ps) (ws:=ws) (gs:=gs) (hd:=hd) Ak
     rw [hy] at hs
     cases hs
  ·rintro σ H2 ⟨u2,u3,u4,rfl,s9⟩
   walk_at"s"
   exact k _ (s8.trans s9)
theorem pe_make0N {X:Cx} {C:Addr} {x:Str} {k:Nat} {sp:Sp} {p pos:Pos} (M:CalleeC CX0 X.prog X.w X.K X.mg X.base C x k sp) (hr:Room (k+1) X.A) (hg:Gl X x) (hdb:(x == ("__debug__" : Str))=false:=by decide):PE X (.Call (.Name x p) [] [] pos) (tMake C sp [] E0 tNil):=by
 obtain⟨f,fd,ps,F,hM,hm,hb⟩:=M
 exact pe_make0 hM F hr hg hm hb .nil pass0 (hdb:=hdb)
theorem DkAt.but {C:Addr} {H H':Hp} {p ls q:Addr} {ts us:List Addr} {ss:List DS} (h:DkAt C H p ls ts ss) (b:But q H H') (hq:H q=some (.lst (us.map V.ref))) (n:ls≠q):DkAt C H' p ls ts ss:=by
 obtain⟨dx,e⟩:=h.ob
 exact⟨⟨dx,b _ _ e fun z=>by rw [z,hq] at e; cases e⟩,b _ _ h.sl n,sas_but b hq h.it h.ok,h.ok⟩
def E0s (H:Hp) (F:List Addr) (t:Addr):Prop:=∃ lp lw lg,H t=some (.tup [.ref lp,.int 0,.ref lw,.ref lg])/\∀ a,a=lp\/a=lw\/a=lg->H a=some (.lst (iL []))/\a ∉ F
theorem E0s.more {H H':Hp} {F:List Addr} {t:Addr} (h:E0s H F t) (s:Same H H'):E0s H' F t:=by
 obtain⟨lp,lw,lg,h1,h2⟩:=h
 exact⟨lp,lw,lg,s _ _ h1,fun a ha=>⟨s _ _ (h2 a ha).1,(h2 a ha).2⟩⟩
theorem E0s.add {H:Hp} {F:List Addr} {t q:Addr} (h:E0s H F t) (hq:H q=none):E0s H (q :: F) t:=by
 obtain⟨lp,lw,lg,h1,h2⟩:=h
 refine⟨lp,lw,lg,h1,fun a ha=>⟨(h2 a ha).1,fun z=>?_⟩⟩
 rcases List.mem_cons.mp z with e | e
 ·exact ne_of_none (h2 a ha).1 hq e
 ·exact (h2 a ha).2 e
def Held (H:Hp) (F:List Addr) (t:Addr) (ss:List DS):Prop:=(ss=[]/\E0s H F t)\/∃ ss0 s,ss=ss0++[s]/\SOkS s/\SA H t s
section
variable {C:Addr} {H H':Hp} {F:List Addr} {t q:Addr} {ss:List DS} {us:List Addr}
theorem Held.more (h:Held H F t ss) (s:Same H H'):Held H' F t ss:=by
 rcases h with ⟨e,lp,lw,lg,h1,h2⟩ | ⟨ss0,d,e,o,h⟩
 ·exact .inl ⟨e,lp,lw,lg,s _ _ h1,fun a ha=>⟨s _ _ (h2 a ha).1,(h2 a ha).2⟩⟩
 ·exact .inr ⟨ss0,d,e,o,SAt.more h s⟩
theorem Held.but (h:Held H F t ss) (b:But q H H') (hq:H q=some (.lst (us.map V.ref))) (hF:q∈F):Held H' F t ss:=by
 rcases h with ⟨e,lp,lw,lg,h1,h2⟩ | ⟨ss0,d,e,o,h⟩
 ·refine .inl ⟨e,lp,lw,lg,b _ _ h1 (fun z=>by rw [z,hq] at h1; cases h1),fun a ha=>⟨b _ _ (h2 a ha).1 fun z=>?_,(h2 a ha).2⟩⟩
  exact (h2 a ha).2 (by rw [z]; exact hF)
 ·have:=sas_but b hq (ts:=[t]) (ss:=[d]) (.cons h .nil) fun s hs=>by
   rw [show s=d by simpa using hs]
   exact o
  cases this with
  | cons a _=>exact .inr ⟨ss0,d,e,o,a⟩
theorem Held.at (h:Held H F t ss):∃ (ps:List Int) (hd:Int) (ws gs:List Int),SAt H t ps hd ws gs/\((ss=[]/\ps=[]/\hd=0/\ws=[]/\gs=[])\/∃ ss0,ss=ss0++[(ps,hd,ws,gs)]/\SOkS (ps,hd,ws,gs)):=by
 rcases h with ⟨e,lp,lw,lg,h1,h2⟩ | ⟨ss0,⟨ps,hd,ws,gs⟩,e,o,h⟩
 ·exact⟨[],0,[],[],⟨lp,lw,lg,h1,(h2 lp (.inl rfl)).1,(h2 lw (.inr (.inl rfl))).1,(h2 lg (.inr (.inr rfl))).1⟩,.inl ⟨e,rfl,rfl,rfl,rfl⟩⟩
 ·exact⟨ps,hd,ws,gs,h,.inr ⟨ss0,e,o⟩⟩
end
structure P2 (C:Addr) (H:Hp) (F:List Addr) (ld lq lc p ls t:Addr) (ts:List Addr) (ss sp:List DS) (p' ls' t':Addr) (ts':List Addr) (ss':List DS):Prop where
 da:DkAt C H p ls ts ss
 db:DkAt C H p' ls' ts' ss'
 ha:Held H F t sp
 hb:Held H F t' ss'
 n1:ls≠ls'
 n2:ls≠lq
 n3:ls'≠lq
 f:∀ x,x=ld\/x=lc->x≠ls/\x≠ls'/\x≠lq
 m:ls∈F/\ls'∈F/\lq∈F
section
variable {C:Addr} {H H':Hp} {F:List Addr} {ld lq lc p ls t p' ls' t':Addr} {ts ts' us:List Addr} {ss sp ss':List DS}
theorem P2.more (h:P2 C H F ld lq lc p ls t ts ss sp p' ls' t' ts' ss') (s:Same H H'):P2 C H' F ld lq lc p ls t ts ss sp p' ls' t' ts' ss':=⟨h.da.more s,h.db.more s,h.ha.more s,h.hb.more s,h.n1,h.n2,h.n3,h.f,h.m⟩
theorem P2.symm (h:P2 C H F ld lq lc p ls t ts ss ss p' ls' t' ts' ss'):P2 C H F ld lq lc p' ls' t' ts' ss' ss' p ls t ts ss:=⟨h.db,h.da,h.hb,h.ha,h.n1.symm,h.n3,h.n2,fun x hx=>⟨(h.f x hx).2.1,(h.f x hx).1,(h.f x hx).2.2⟩,h.m.2.1,h.m.1,h.m.2.2⟩
theorem P2.said {ts2:List Addr} {ss2:List DS} (h:P2 C H F ld lq lc p ls t ts ss sp p' ls' t' ts' ss') (b:But ls H H') (hp:DkAt C H' p ls ts2 ss2):P2 C H' F ld lq lc p ls t ts2 ss2 sp p' ls' t' ts' ss' :=
 ⟨hp,h.db.but b h.da.sl h.n1.symm,h.ha.but b h.da.sl h.m.1,h.hb.but b h.da.sl h.m.1,h.n1,h.n2,h.n3,h.f,h.m⟩
theorem P2.held {t2:Addr} {sp2:List DS} (h:P2 C H F ld lq lc p ls t ts ss sp p' ls' t' ts' ss') (b:But lq H H') (hq:H lq=some (.lst (us.map V.ref))) (hp:Held H' F t2 sp2):P2 C H' F ld lq lc p ls t2 ts ss sp2 p' ls' t' ts' ss' :=
 ⟨h.da.but b hq h.n2,h.db.but b hq h.n3,hp,h.hb.but b hq h.m.2.2,h.n1,h.n2,h.n3,h.f,h.m⟩
end
def Inv32 (C:Addr) (F:List Addr) (ld lq lc:Addr) (cv:List V) (i:Nat) (H:Hp):Prop:=∃ (p ls t:Addr) (ts:List Addr) (ss:List DS) (p' ls' t':Addr) (ts':List Addr) (ss':List DS),
 P2 C H F ld lq lc p ls t ts ss ss p' ls' t' ts' ss'/\H ld=some (.lst ([p,p'].map V.ref))/\H lq=some (.lst ([t,t'].map V.ref))/\H lc=some (.lst cv)/\(∀ s∈ss,BdG i s)/\(∀ s∈ss',BdG i s)/\ss.length<=i/\ss'.length<=i
theorem Inv32.more {C:Addr} {F:List Addr} {ld lq lc:Addr} {cv:List V} {i:Nat} {H H':Hp} (h:Inv32 C F ld lq lc cv i H) (s:Same H H'):Inv32 C F ld lq lc cv i H':=by
 obtain⟨p,ls,t,ts,ss,p',ls',t',ts',ss',h1,h2,h3,h4,h5⟩:=h
 exact⟨p,ls,t,ts,ss,p',ls',t',ts',ss',h1.more s,s _ _ h2,s _ _ h3,s _ _ h4,h5⟩
theorem Inv32.at {C:Addr} {F:List Addr} {ld lq lc:Addr} {cv:List V} {i:Nat} {H:Hp} (h:Inv32 C F ld lq lc cv i H) {k:Int} (hk:k=0\/k=1):∃ (L1 L2:List Addr) (p ls t:Addr) (ts:List Addr) (ss:List DS) (p' ls' t':Addr) (ts':List Addr) (ss':List DS),
 P2 C H F ld lq lc p ls t ts ss ss p' ls' t' ts' ss'/\H ld=some (.lst (L1.map V.ref))/\H lq=some (.lst (L2.map V.ref))/\H lc=some (.lst cv)/\(L1.map V.ref)[k.toNat]? = some (.ref p)/\(L2.map V.ref)[k.toNat]? = some (.ref t)/\L2.length=2/\(∀ s∈ss,BdG i s)/\ss.length<=i/\L2.set k.toNat t=L2 /\
 ∀ H' ts2 t2 ss2,P2 C H' F ld lq lc p ls t2 ts2 ss2 ss2 p' ls' t' ts' ss'->H' ld=some (.lst (L1.map V.ref))->H' lq=some (.lst ((L2.set k.toNat t2).map V.ref))->H' lc=some (.lst cv)->(∀ s∈ss2,BdG (i+1) s)->ss2.length<=i+1->Inv32 C F ld lq lc cv (i+1) H':=by
 obtain⟨p,ls,t,ts,ss,p',ls',t',ts',ss',h1,h2,h3,h4,h5,h6,h7,h8⟩:=h
 rcases hk with rfl | rfl
 ·refine⟨_,_,p,ls,t,ts,ss,p',ls',t',ts',ss',h1,h2,h3,h4,rfl,rfl,rfl,h5,h7,rfl,fun H' ts2 t2 ss2 q1 q2 q3 q4 q5 q6=>?_⟩
  exact⟨p,ls,t2,ts2,ss2,p',ls',t',ts',ss',q1,q2,q3,q4,q5,fun s hs=>(h6 s hs).up,q6,by lia⟩
 ·refine⟨_,_,p',ls',t',ts',ss',p,ls,t,ts,ss,h1.symm,h2,h3,h4,rfl,rfl,rfl,h6,h8,rfl,fun H' ts2 t2 ss2 q1 q2 q3 q4 q5 q6=>?_⟩
  exact⟨p,ls,t,ts,ss,p',ls',t2,ts2,ss2,q1.symm,q2,q3,q4,fun s hs=>(h5 s hs).up,q5,by lia,q6⟩
def ReadOut (ss:List DS) (ps:List Int) (hd:Int) (ws gs:List Int) (row fault word:Str) (ns:List Int):Prop:=sayO ss row=.bad fault\/(fault = "" /\ RowOk row word ns/\Good ss ps hd ws gs word ns)
def SaidOut (ss:List DS) (row:Str) (v:V) (bs:List Bool) (ss2:List DS):Prop:=(∃ n,sayO ss row=.bad n/\v=.non/\bs=dueX n/\ss2=ss)\/(∃ x,sayO ss row=.told x/\v=.str x/\bs=[]/\ss2=ss)\/(sayO ss row=.done ss2/\v=.str "ok" /\ bs=[])
theorem But.same {q:Addr} {H H':Hp} (s:Same H H'):But q H H':=fun b o e _=>s b o e
theorem read_one {H:Hp} {Q:VK} {E:XK} {t:Addr} {ss:List DS} {ps ws gs:List Int} {hd:Int} {row:Str} (hS:SAt H t ps hd ws gs) (hc:(ss=[]/\ps=[])\/∃ ss0,ss=ss0++[(ps,hd,ws,gs)]/\ps≠[]) (hC:RowCh row)
 (main:∀ fault word ns q l H',ReadOut ss ps hd ws gs row fault word ns->Same H H'->H' q=some (.tup [.str fault,.str word,.ref l])->(fault = "" -> H' l=some (.lst (iL ns)))->Q (.ref q) H'):spRead32 [.ref t,.str row] H Q E :=
 ⟨t,ss,ps,ws,gs,hd,row,rfl,hS,hc,hC,fun n hn q y l H' s e=>main n y [] q l H' (.inl hn) s e (fun z=>by
  have:=say_name hn
  rw [z] at this
  exact absurd this (by decide+kernel)),fun word ns hr hg q l H' s e e2=>main "" word ns q l H' (.inr ⟨rfl,hr,hg⟩) s e fun _=>e2⟩
theorem said_one {C:Addr} {Z:Cls K mg} {H:Hp} {Q:VK} {E:XK} {p ls:Addr} {ts:List Addr} {ss:List DS} {row:Str} (W:DkAt C H p ls ts ss) (hA:Asc row) (hl:row.length<=20000) (ht:ts.length<=50000) (hs:∀ word ns,RowOk row word ns->(word ≠ "range" /\ word ≠ "grab" /\ word ≠ "back")/\SmallG ss word ns)
 (main:∀ v bs ts2 ss2 q H',SaidOut ss row v bs ss2->But ls H H'->DkAt C H' p ls ts2 ss2->Ans H' q v bs->Q (.ref q) H'):spSaidG C Z [.ref p,.str row] H Q E :=
 ⟨p,ls,ts,ss,row,rfl,W,hA,hl,ht,hs,fun n hn q H' s a=>main .non (dueX n) ts ss q H' (.inl ⟨n,hn,rfl,rfl,rfl⟩) (But.same s) (W.more s) a,fun x hx q H' s a=>main (.str x) [] ts ss q H' (.inr (.inl ⟨x,hx,rfl,rfl,rfl⟩)) (But.same s) (W.more s) a,fun ss' hs' ts' q H' b W' a=>main (.str "ok") [] ts' ss' q H' (.inr (.inr ⟨hs',rfl,rfl⟩)) b W' a⟩
open Classical in
theorem good_act {ss:List DS} {ps ws gs ns:List Int} {hd:Int} {word:Str} (h:Good ss ps hd ws gs word ns):((word = "plays" \/ word = "at" \/ word = "turn")/\∃ s',actO ss word ns=.done (ss++[s']))\/((word = "least" \/ word = "where" \/ word = "ways" \/ word = "text")/\∃ x,actO ss word ns=.told x):=by
 rcases h with ⟨rfl,h⟩ | ⟨ss0,rfl,⟨rfl,_,h⟩ | ⟨rfl,_⟩ | ⟨rfl,_,h⟩ | rfl | rfl | rfl⟩
 ·exact .inl ⟨.inl rfl,_,by rw [act_plays,if_pos h]⟩
 ·exact .inl ⟨.inr (.inl rfl),_,act_at.trans (if_pos h)⟩
 ·exact .inl ⟨.inr (.inr rfl),_,act_turn⟩
 ·exact .inr ⟨.inl rfl,_,act_least.trans (if_pos h)⟩
 ·exact .inr ⟨.inr (.inl rfl),_,act_where⟩
 ·exact .inr ⟨.inr (.inr (.inl rfl)),_,act_ways⟩
 ·exact .inr ⟨.inr (.inr (.inr rfl)),_,act_text⟩
theorem x_ne {n:Str} (h:n∈xNames):(n == Str.ofString "")=false/\PyData.strOk n=true:=by
 unfold xNames at h
 simp only [List.mem_cons,List.not_mem_nil,or_false] at h
 rcases h with rfl | rfl | rfl <;> exact⟨by decide+kernel,by decide+kernel⟩
theorem out_both {ss ss2:List DS} {ps ws gs ns:List Int} {hd:Int} {row fault word:Str} {v:V} {bs:List Bool} (h1:ReadOut ss ps hd ws gs row fault word ns) (h2:SaidOut ss row v bs ss2):(fault∈xNames/\bs=dueX fault/\ss2=ss) \/
 (fault = "" /\ bs=[]/\RowOk row word ns/\Good ss ps hd ws gs word ns/\(((word = "plays" \/ word = "at" \/ word = "turn")/\v=.str "ok" /\ ∃ s',ss2=ss++[s']/\actO ss word ns=.done ss2)\/((word = "least" \/ word = "where" \/ word = "ways" \/ word = "text")/\ss2=ss/\∃ x,v=.str x/\actO ss word ns=.told x))):=by
 rcases h1 with a | ⟨rfl,hr,hg⟩
 ·rcases h2 with ⟨n,x,_,y,z⟩ | ⟨n,x,_⟩ | ⟨x,_⟩
  ·rw [a] at x
   cases x
   exact .inl ⟨say_name a,y,z⟩
  ·rw [a] at x
   cases x
  ·rw [a] at x
   cases x
 ·have e:=sayO_ok (ss:=ss) hr
  refine .inr ⟨rfl,?_⟩
  rcases good_act hg with ⟨hw,s',ha⟩ | ⟨hw,x,ha⟩
  ·rcases h2 with ⟨n,y,_⟩ | ⟨n,y,_⟩ | ⟨y,z,w⟩
   ·rw [e,ha] at y
    cases y
   ·rw [e,ha] at y
    cases y
   ·rw [e,ha] at y
    cases y
    exact⟨w,hr,hg,.inl ⟨hw,z,s',rfl,ha⟩⟩
  ·rcases h2 with ⟨n,y,_⟩ | ⟨n,y,z,w,u⟩ | ⟨y,_⟩
   ·rw [e,ha] at y
    cases y
   ·rw [e,ha] at y
    cases y
    exact⟨w,hr,hg,.inr ⟨hw,u,_,z,ha⟩⟩
   ·rw [e,ha] at y
    cases y
theorem i_isiSS {H:Hp} {Q:VK} {x:Str} (q:Q (.bl true) H):rIsi K [.str x,.ty "str"] H Q:=⟨_,_,_,true,rfl,.str x,by kernel_rfl,q⟩
section
variable {C:Addr} {H:Hp} {F:List Addr} {t l:Addr} {ss ss2:List DS} {ps ws gs ns:List Int} {hd:Int} {word:Str} {Q:VK} {E:XK} {i:Nat}
def Case (ss:List DS) (ps:List Int) (hd:Int) (ws gs:List Int):Prop:=(ss=[]/\ps=[]/\hd=0/\ws=[]/\gs=[])\/∃ ss0,ss=ss0++[(ps,hd,ws,gs)]/\SOkS (ps,hd,ws,gs)
theorem Held.sat (h:Held H F t ss) (c:Case ss ps hd ws gs):SAt H t ps hd ws gs:=by
 rcases c with ⟨rfl,rfl,rfl,rfl,rfl⟩ | ⟨ss0,rfl,_⟩
 ·rcases h with ⟨_,lp,lw,lg,h1,h2⟩ | ⟨ss0,s,e,_⟩
  ·exact⟨lp,lw,lg,h1,(h2 lp (.inl rfl)).1,(h2 lw (.inr (.inl rfl))).1,(h2 lg (.inr (.inr rfl))).1⟩
  ·simp at e
 ·rcases h with ⟨e,_⟩ | ⟨ss1,s,e,_,h⟩
  ·simp at e
  ·have e2:=(List.append_inj' e rfl).2
   simp only [List.cons.injEq,and_true] at e2
   subst e2
   exact h
theorem Case.two (c:Case ss ps hd ws gs):(ss=[]/\ps=[])\/∃ ss0,ss=ss0++[(ps,hd,ws,gs)]/\ps≠[]:=by
 rcases c with ⟨h1,h2,_⟩ | ⟨ss0,e,o⟩
 ·exact .inl ⟨h1,h2⟩
 ·refine .inr ⟨ss0,e,fun z=>?_⟩
  have:=o.1.1
  simp only at this
  rw [z] at this
  simp at this
theorem Case.bd (c:Case ss ps hd ws gs) (hb:∀ s∈ss,BdG i s) (hi:i<=40):ps.length<=12/\ws.length<=12/\(∀ p∈ps,0<=p/\p<=Bn)/\Wi (20*Bn) hd/\∀ x∈ws,Small x:=by
 have b0:0<=Bn:=by rw [Bn_eq]; decide
 rcases c with ⟨_,rfl,rfl,rfl,_⟩ | ⟨ss0,rfl,o⟩
 ·exact⟨by simp,by simp,fun p hp=>(by cases hp),⟨by lia,by lia⟩,fun p hp=>(by cases hp)⟩
 ·have b:=hb (ps,hd,ws,gs) (by simp)
  have h12:ps.length<=12:=o.1.2.1
  have hw:ws.length=ps.length:=o.2.1.1
  exact⟨h12,by lia,fun p hp=>⟨o.1.2.2 p hp,b.1 p hp⟩,b.2.1,(b.small o hi).2.2.1⟩
theorem good_ne (h:Good ss ps hd ws gs word ns):ns≠[]\/ss≠[]:=by
 rcases h with ⟨_,h⟩ | ⟨ss0,e,_⟩
 ·refine .inl fun z=>?_
  have:=h.1
  rw [z] at this
  simp at this
 ·exact .inr (by rw [e]; simp)
def Both (ss:List DS) (word:Str) (ns:List Int) (v:V) (ss2:List DS):Prop:=((word = "plays" \/ word = "at" \/ word = "turn")/\v=.str "ok" /\ ∃ s',ss2=ss++[s']/\actO ss word ns=.done ss2)\/((word = "least" \/ word = "where" \/ word = "ways" \/ word = "text")/\ss2=ss/\∃ x,v=.str x/\actO ss word ns=.told x)
theorem ans_one {v:V} (hS:SAt H t ps hd ws gs) (hl:H l=some (.lst (iL ns))) (hg:Good ss ps hd ws gs word ns) (ho:∀ s∈ss,SOkS s) (hsm:SmallG ss word ns) (hout:Both ss word ns v ss2) (main:∀ y H',v=.str y->PyData.strOk y=true->Same H H'->Q (.str y) H'):spAns32 [.ref t,.str word,.ref l] H Q E:=by
 refine⟨t,l,ss,ps,ws,gs,ns,hd,word,rfl,hS,hl,?_,fun hw H' s=>?_,fun x hx H' s=>?_⟩
 ·rcases hg with ⟨rfl,h⟩ | ⟨ss0,rfl,⟨rfl,_⟩ | ⟨rfl,_⟩ | ⟨rfl,h1,h2⟩ | rfl | rfl | rfl⟩
  ·exact .inl (.inl rfl)
  ·exact .inl (.inr (.inl rfl))
  ·exact .inl (.inr (.inr rfl))
  ·exact .inr ⟨ss0,rfl,ho _ (by simp),hsm,.inr (.inr (.inr ⟨rfl,h1,h2⟩))⟩
  ·exact .inr ⟨ss0,rfl,ho _ (by simp),hsm,.inl rfl⟩
  ·exact .inr ⟨ss0,rfl,ho _ (by simp),hsm,.inr (.inl rfl)⟩
  ·exact .inr ⟨ss0,rfl,ho _ (by simp),hsm,.inr (.inr (.inl rfl))⟩
 ·rcases hout with ⟨_,e,_⟩ | ⟨hw2,_⟩
  ·exact main _ _ e (by decide+kernel) s
  ·exfalso
   rcases hw2 with rfl | rfl | rfl | rfl <;> exact absurd hw (by decide+kernel)
 ·rcases hout with ⟨_,_,s',_,e⟩ | ⟨_,_,y,e,e2⟩
  ·rw [hx] at e
   cases e
  ·rw [hx] at e2
   cases e2
   exact main _ _ e (act_asc hx) s
theorem beh_one {v:V} (hh:Held H F t ss) (c:Case ss ps hd ws gs) (hl:H l=some (.lst (iL ns))) (hn:ns.length<=20000) (hg:Good ss ps hd ws gs word ns) (ho:∀ s∈ss,SOkS s) (hout:Both ss word ns v ss2) (main:∀ t2 H',Same H H'->Held H' F t2 ss2->Q (.ref t2) H'):spBeh32 [.ref t,.str word,.ref l] H Q E:=by
 refine⟨t,l,ss,ps,ws,gs,ns,hd,word,rfl,hh.sat c,hl,hn,?_,fun s' hs t' H' s a=>?_,fun hw H' s=>?_⟩
 ·rcases hg with ⟨rfl,h⟩ | ⟨ss0,rfl,h⟩
  ·exact .inl ⟨rfl,h⟩
  ·refine .inr ⟨ss0,rfl,ho _ (by simp),?_⟩
   rcases h with h | h | ⟨h,_⟩ | h | h | h
   ·exact .inl h
   ·exact .inr (.inl h)
   ·exact .inr (.inr (.inl h))
   ·exact .inr (.inr (.inr (.inl h)))
   ·exact .inr (.inr (.inr (.inr (.inl h))))
   ·exact .inr (.inr (.inr (.inr (.inr h))))
 ·rcases hout with ⟨_,_,s2,e,e2⟩ | ⟨_,_,y,_,e2⟩
  ·rw [hs] at e2
   cases e2
   exact main t' H' s (.inr ⟨ss,s',rfl,act_ok ho hs,a⟩)
  ·rw [hs] at e2
   cases e2
 ·rcases hout with ⟨hw2,_⟩ | ⟨_,e,_⟩
  ·exfalso
   rcases hw2 with rfl | rfl | rfl <;> exact absurd hw (by decide+kernel)
  ·rw [e] at main
   exact main t H' s (hh.more s)
theorem stand_one {p ls:Addr} {ts:List Addr} (W:DkAt C H p ls ts ss) (hh:Held H F t ss) (hb:∀ s∈ss,BdG i s) (hi:i<=40) (hl:ss.length<=i) (q:∀ H',Same H H'->Q (.bl true) H'):spStands32 C [.ref p,.ref t] H Q E:=by
 obtain⟨ps,hd,ws,gs,hS,c⟩:=hh.at
 refine⟨p,ls,t,ts,ss,ps,ws,gs,hd,rfl,W,hS,Case.two c,by have:=W.it.length; lia,fun word ns hw=>?_,q⟩
 rintro ss0 ps' hd' ws' gs' rfl
 have b:=hb (ps',hd',ws',gs') (by simp)
 have o:=W.ok (ps',hd',ws',gs') (by simp)
 obtain⟨m1,m2,m3,m4⟩:=b.small o hi
 exact⟨m1,m2,m3,m4,fun z=>absurd z hw⟩
theorem both_bd {v:V} {row:Str} (ho:∀ s∈ss,SOkS s) (hb:∀ s∈ss,BdG i s) (hC:RowCh row) (hr:RowOk row word ns) (hout:Both ss word ns v ss2):(∀ s∈ss2,BdG (i+1) s)/\ss2.length<=ss.length+1:=by
 rcases hout with ⟨_,_,s',rfl,e⟩ | ⟨_,rfl,_⟩
 ·obtain⟨s2,e2,b2,_⟩:=act_bd ho hb hC hr e
  refine⟨fun s hs=>?_,by simp⟩
  rw [e2] at hs
  rcases List.mem_append.mp hs with z | z
  ·exact (hb s z).up
  ·rw [show s=s2 by simpa using z]
   exact b2
 ·exact⟨fun s hs=>(hb s hs).up,by lia⟩
theorem num_ne {q:Addr} {us:List Addr} (hl:H l=some (.lst (iL ns))) (hq:H q=some (.lst (us.map V.ref))) (h:ns≠[]\/us≠[]):l≠q:=fun z=>by
 subst z
 rw [hl] at hq
 have e:=HO.lst.inj (Option.some.inj hq)
 cases ns with
 | nil =>
   cases us with
   | nil=>exact (h.elim (fun z=>z rfl) fun z=>z rfl)
   | cons a r=>cases e
 | cons a r =>
   cases us with
   | nil=>cases e
   | cons b s=>cases e
end
def spDraws:Sp:=fun vs H Q _=>∃ cell many bas:Int,vs=[.int cell,.int many,.int bas]/\0<=many/\many<=5000/\0<bas/\bas<1073741824 /\
 ∀ l H' xs,NewI H H' l xs->(xs.length:Int)=many->(∀ x∈xs,0<=x/\x<bas)->Q (.ref l) H'
theorem Oq11 (T:Txt mg) (D:Def K mg "_law_draws" Gq11):Callee P w K mg base "_law_draws" 1 spDraws:=by
 refine D.ok Uq11 Jq11 (fun vs H Q E h=>?len) (fun f cdv A outer s H vs Q E hr h=>?body)
 case len=>obtain⟨p,a,x,rfl,_⟩:=h; rfl
 case body =>
  obtain⟨cell,many,bas,rfl,h1,h2,h3,h4,k⟩:=h
  refine⟨_,(pss_cons (psS 3 Uq11.nd (pe_lst pa_nil))
 (pss_cons (psS 4 Uq11.nd (pe_op op_mulP (pv 0) (pe_callTy call_intK (by rfl) T.z_int bt_int (pa_cons (pe_cmpR op_ge (pv 0) (pe_powK (r:=1000000000000000000) (by decide)) (nomark _)) pa_nil))))
 (pss_cons (psS 5 Uq11.nd (pe_op op_mod (pv 0) pe_int))
 (pss_cons (ps_for PassesOwn.never rfl (pi_range1 (by rfl) T.z_range (pa_cons (pe_op op_addP (pv 1) pe_int) pa_nil)) (pg_name (i:=6) Uq11.nd rfl (Or.inl rfl))
 (pss_cons (psS 5 Uq11.nd (pe_op op_mod (pe_op op_addP (pe_op op_addP (pe_op op_addP (pe_op op_mulP (pv 5) (pv 5)) (pe_op op_mulP pe_int (pv 5))) (pv 6)) pe_int) pe_int))
 (pss_one (ps_if (PW.pt (pw_and (pt_cmpR op_gt (pv 6) pe_int (nomark _)) (pw_and1 (pt_cmpR op_gt (pv 4) pe_int (nomark _)))))
 (pss_cons (ps_expr (pe_bmK K PySem.F.plainAttrs_list PySem.F.slot_list_append PySem.F.type_list_append mt_append (pv 3) (pa_cons (pe_op op_mod (pv 4) (pv 2)) pa_nil)))
 (pss_one (psS 4 Uq11.nd (pe_op op_fdiv (pv 4) (pv 2)))))
 (pss_one (ps_if (pt_cmpR op_gt (pv 6) pe_int (nomark _))
 (pss_one (ps_expr (pe_bmK K PySem.F.plainAttrs_list PySem.F.slot_list_append PySem.F.type_list_append mt_append (pv 3) (pa_cons (pe_op op_mod (pe_op op_fdiv (pv 5) pe_int) (pv 2)) pa_nil))))
 pss_nil))))))
 (pss_one (ps_ret (pv 3))))))),?_⟩
  walk_at"un"
  try clear hu
  refine⟨szl (by decide),fun l hl=>?_⟩;walk_at"s"
  refine i_mulI (cmul_r ?_ ?_) ?_
  ·split <;> decide
  ·split <;> decide
  generalize cell*_=rest
  walk_at"s"
  have hst0:0<=cell % 2305843009213693951:=Int.emod_nonneg _ (by decide)
  have hst1:cell % 2305843009213693951<2305843009213693951:=Int.emod_lt_of_pos _ (by decide)
  generalize cell % 2305843009213693951=stirred at *
  refine⟨by lia,by lia,lp_range (fun i σ H2=>∃ (rest stirred:Int) (kk:Option V) (xs:List Int),σ = [some (.int cell),some (.int many),some (.int bas),some (.ref l),some (.int rest),some (.int stirred),kk] /\
   0<=stirred/\stirred<2305843009213693951/\NewI H H2 l xs/\xs.length=i - 3/\∀ x∈xs,0<=x/\x<bas) ?_ ?_ ?_⟩
  ·exact⟨rest,stirred,none,[],rfl,hst0,hst1,⟨hl,same_upd hl,upd_same⟩,rfl,by simp⟩
  ·rintro i σ H2 hi ⟨rest,stirred,kk,xs,rfl,s0,s1,N,hx,hb⟩
   walk_at"s"
   refine i_mulI (cmul_l (by lia) (by lia)) ?_;walk_at"s"
   refine i_mulI (cmul_l (by decide) (by decide)) ?_;walk_at"s"
   have hst0:=Int.emod_nonneg (stirred*stirred+48271*stirred+(0+(i:Int))+1) (show (2305843009213693951:Int)≠0 by decide)
   have hst1:=Int.emod_lt_of_pos (stirred*stirred+48271*stirred+(0+(i:Int))+1) (show (0:Int)<2305843009213693951 by decide)
   generalize (stirred*stirred+48271*stirred+(0+(i:Int))+1) % 2305843009213693951=stirred2 at *
   have app:∀ v,3<=i->0<=v->v<bas->∀ rest2,∃ (rest stirred:Int) (kk:Option V) (ys:List Int),[some (V.int cell),some (.int many),some (.int bas),some (.ref l),some (.int rest2),some (.int stirred2),some (V.int (0+(i:Int)))]=[some (.int cell),some (.int many),some (.int bas),some (.ref l),some (.int rest),some (.int stirred),kk] /\
    0<=stirred/\stirred<2305843009213693951/\NewI H (upd H2 l (.lst (iL xs++[V.int v]))) l ys/\ys.length=i+1 - 3/\∀ x∈ys,0<=x/\x<bas:=by
    intro v hi3 hv0 hv1 rest2
    refine⟨rest2,stirred2,some (V.int (0+(i:Int))),xs++[v],rfl,hst0,hst1,N.app,?_,?_⟩
    ·simp; lia
    ·intro x hxm
     rcases List.mem_append.mp hxm with z | z
     ·exact hb x z
     ·simp at z; subst z; exact⟨hv0,hv1⟩
   have lenx:xs.length<=100000:=by lia
   refine i_if (fun g1=>?_) (fun g1=>?_)
   ·walk_at"s"
    refine i_if (fun g2=>?_) (fun g2=>?_)
    ·walk_at"s"
     refine⟨.inl ⟨rfl,_,SqL.of N.at_⟩,?_⟩;walk_at"s"
     refine i_app N.at_ (szlt (by simpa [iL] using lenx)) ?_;walk_at"s"
     exact app _ (by lia) (Int.emod_nonneg _ (by lia)) (Int.emod_lt_of_pos _ h3) _
    ·walk_at"s"
     refine i_if (fun g3=>?_) (fun g3=>absurd g1 g3);walk_at"s"
     refine⟨.inl ⟨rfl,_,SqL.of N.at_⟩,?_⟩;walk_at"s"
     refine i_app N.at_ (szlt (by simpa [iL] using lenx)) ?_
     exact app _ (by lia) (Int.emod_nonneg _ (by lia)) (Int.emod_lt_of_pos _ h3) _
   ·walk_at"s"
    refine i_if (fun g3=>absurd g3 g1) (fun g3=>?_)
    exact⟨rest,stirred2,_,xs,rfl,hst0,hst1,N,by lia,hb⟩
  ·rintro σ H2 ⟨rest,stirred,kk,xs,rfl,s0,s1,N,hx,hb⟩
   walk_at"s"
   exact k l H2 xs N (by lia) hb
theorem sqt_K {a:Addr} {dd:Option Addr} {its:Array Value} {n:Nat} {sl:Array (Option Value)} {xs:List V} (h:K.lookup a=some ⟨.type "tuple", dd,.seq its n,sl⟩) (v:Vals xs its.toList) (hl:xs.length<=10):∀ H,SqT K H a xs:=fun H=>.inr ⟨_,its,n,h,rfl,rfl,szl (by have h1:xs.length=its.toList.length:=v.length; have h2:its.toList.length=its.size:=Array.length_toList; lia),v⟩
theorem Oq27 {f:Addr} {fd:FuncData} (F:Fun K "law" "law" Gq27 f fd) (T:Txt mg) (Z:Cls K mg) (Y:Own K mg) (Cq11:Callee P w K mg base "_law_draws" 1 spDraws) (Cq340:CalleeC CX0 P w K mg base Y.jDe "Desk" 1 (spDInit Y.jDe)) (Cq25:Callee P w K mg base "_law_said" 13 (spSaidG Y.jDe Z)) (Cq23:Callee P w K mg base "_law_row_drawn" 2 spDrawn32) (Cq17:Callee P w K mg base "_law_spoilt" 1 spSpoil32) (Cq24:Callee P w K mg base "_law_read_row" 3 spRead32) (Cq21:Callee P w K mg base "_law_answer" 2 spAns32) (Cq22:Callee P w K mg base "_law_a_behind" 2 spBeh32) (Cq26:Callee P w K mg base "_law_stands" 14 (spStands32 Y.jDe)) (Cq19:Callee P w K mg base "_law_due_kin" 1 spDueKinG) :
 FnOk P w K mg base CX0 15 f fd ["script"] (spLaw K):=by
 refine F.ok Uq27 (fun vs H Q E h=>?_) (fun cdv A outer s H vs Q E hr h=>?_)
 ·obtain⟨a,ns,rfl,_⟩:=h
  rfl
 ·obtain⟨a,ns,rfl,hS,hlen,k⟩:=h
  walk_at"z4"
  refine⟨_,(pss_cons (psS 1 Uq27.nd (pe_lst (pa_cons (pe_make0N Cq340 (hr.mono (by decide)) (by rfl)) (pa_cons (pe_make0N Cq340 (hr.mono (by decide)) (by rfl)) pa_nil))))
 (@pss_cons _ _ _ _ _ (@ps_set _ _ 2 _ _ _ _ Uq27.nd rfl (Or.inl rfl) (@pe_lst _ _ _ _ (@pa_cons _ _ _ _ _ (@pe_tup _ _ _ _ _ (@pa_cons _ _ _ _ _ (@pe_lst _ _ _ _ pa_nil) (@pa_cons _ _ _ _ _ (@pe_int _ _ _ _) (@pa_cons _ _ _ _ _ (@pe_lst _ _ _ _ pa_nil) (@pa_cons _ _ _ _ _ (@pe_lst _ _ _ _ pa_nil) pa_nil (by rfl)) (by rfl)) (by rfl)) (by rfl))) (@pa_cons _ _ _ _ _ (@pe_tup _ _ _ _ _ (@pa_cons _ _ _ _ _ (@pe_lst _ _ _ _ pa_nil) (@pa_cons _ _ _ _ _ (@pe_int _ _ _ _) (@pa_cons _ _ _ _ _ (@pe_lst _ _ _ _ pa_nil) (@pa_cons _ _ _ _ _ (@pe_lst _ _ _ _ pa_nil) pa_nil (by rfl)) (by rfl)) (by rfl)) (by rfl))) pa_nil (by rfl)) (by rfl))) (by rfl) (by first | exact .inl rfl | exact .inr rfl | assumption))
 (pss_cons (psS 3 Uq27.nd (pe_slice (sl_listK K) (pv 0) po_none (po_some pe_int)))
 (pss_join (ps_if (pt_cmpR (op_eqK K hu) (pv 3) (pe_lst pa_nil) (nomark _))
 (pss_one (psS 3 Uq27.nd (pe_lst (pa_cons pe_int pa_nil))))
 pss_nil)
 (pss_cons (ps_for PassesOwn.never rfl (pi_listK K (pv 3)) (pg_name (i:=4) Uq27.nd rfl (Or.inl rfl))
 (pss_cons (psS 5 Uq27.nd (pe_callN Cq11 (hr.mono (by decide)) (by rfl) (pa_cons (pv 4) (pa_cons pe_int (pa_cons (pe_powK (r:=1000000) (by decide)) pa_nil)))))
 (pss_cons (psS 6 Uq27.nd (pe_op op_mod (pe_ix (ix_K K) (pv 5) pe_int (by exact fun _ _=>rfl)) pe_int))
 (pss_cons (psS 7 Uq27.nd (pe_callN Cq23 (hr.mono (by decide)) (by rfl) (pa_cons (pe_ix (ix_K K) (pv 2) (pv 6) (by exact fun _ _=>rfl)) (pa_cons (pv 5) pa_nil))))
 (pss_join (ps_if (pt_cmpR (op_eqK K hu) (pe_op op_mod (pe_ix (ix_K K) (pv 5) pe_int (by exact fun _ _=>rfl)) pe_int) pe_int (nomark _))
 (pss_one (psS 7 Uq27.nd (pe_callN Cq17 (hr.mono (by decide)) (by rfl) (pa_cons (pv 7) (pa_cons (pe_slice (sl_listK K) (pv 5) (po_some pe_int) (po_some pe_int)) pa_nil)))))
 pss_nil)
 (pss_cons (ps_asg (pe_callN Cq24 (hr.mono (by decide)) (by rfl) (pa_cons (pe_ix (ix_K K) (pv 2) (pv 6) (by exact fun _ _=>rfl)) (pa_cons (pv 7) pa_nil))) (pg_tupK K 3 (pgs_cons (pg_name (i:=8) Uq27.nd rfl (Or.inl rfl)) (pgs_cons (pg_name (i:=9) Uq27.nd rfl (Or.inl rfl)) (pgs_cons (pg_name (i:=10) Uq27.nd rfl (Or.inl rfl)) pgs_nil)))))
 (pss_cons (ps_asg (pe_callN Cq25 (hr.mono (by decide)) (by rfl) (pa_cons (pe_ix (ix_K K) (pv 1) (pv 6) (by exact fun _ _=>rfl)) (pa_cons (pv 7) pa_nil))) (pg_tupK K 2 (pgs_cons (pg_name (i:=11) Uq27.nd rfl (Or.inl rfl)) (pgs_cons (pg_name (i:=12) Uq27.nd rfl (Or.inl rfl)) pgs_nil))))
 (pss_join (ps_if (pt_cmpR (op_neK K hu) (pv 8) pe_str (nomark _))
 (pss_one (ps_if (pt_cmpR (op_neK K hu) (pv 12) (pe_callN Cq19 (hr.mono (by decide)) (by rfl) (pa_cons (pv 8) pa_nil)) (nomark _))
 (pss_one (ps_ret pe_bl))
 pss_nil))
 (pss_cons (psS 13 Uq27.nd (pe_callN Cq21 (hr.mono (by decide)) (by rfl) (pa_cons (pe_ix (ix_K K) (pv 2) (pv 6) (by exact fun _ _=>rfl)) (pa_cons (pv 9) (pa_cons (pv 10) pa_nil)))))
 (pss_cons (ps_if (PW.pt (pw_or (pt_cmpR (op_neK K hu) (pv 12) (pe_lst pa_nil) (nomark _)) (pw_or (pt_not (pt_truthK K (pe_callB (call_isinstanceK K) (by rfl) T.z_isinstance bt_isinstance (pa_cons (pv 11) (pa_cons (pe_bltn (by rfl) T.z_str bt_str (show RelV (.ty "str") _ from rfl)) pa_nil))))) (pw_or1 (pt_cmpR (op_neK K hu) (pv 11) (pv 13) (nomark _))))))
 (pss_one (ps_ret pe_bl))
 pss_nil)
 (pss_one (ps_asg (pe_callN Cq22 (hr.mono (by decide)) (by rfl) (pa_cons (pe_ix (ix_K K) (pv 2) (pv 6) (by exact fun _ _=>rfl)) (pa_cons (pv 9) (pa_cons (pv 10) pa_nil)))) (pg_sub (pv 2) (pv 6) set_list))))))
 (pss_one (ps_if (PW.pt (pw_or (pt_not (pt_truthK K (pe_callN Cq26 (hr.mono (by decide)) (by rfl) (pa_cons (pe_ix (ix_K K) (pv 1) pe_int (by exact fun _ _=>rfl)) (pa_cons (pe_ix (ix_K K) (pv 2) pe_int (by exact fun _ _=>rfl)) pa_nil))))) (pw_or1 (pt_not (pt_truthK K (pe_callN Cq26 (hr.mono (by decide)) (by rfl) (pa_cons (pe_ix (ix_K K) (pv 1) pe_int (by exact fun _ _=>rfl)) (pa_cons (pe_ix (ix_K K) (pv 2) pe_int (by exact fun _ _=>rfl)) pa_nil))))))))
 (pss_one (ps_ret pe_bl))
 pss_nil))))))))))
 (pss_one (ps_ret pe_bl))))))),?_⟩
  walk_at"un"
  try clear hu
  walk_at"s"
  intro p dx hp hdx hne
  have hp2:upd H dx (.own p) p=none:=by rw [upd_ne (Ne.symm hne)]; exact hp
  refine⟨p,dx,rfl,upd_same,fun ls H1 b1 hls1 W1=>?_⟩
  have s1:Same H H1:=fun b o e=>b1 b o (same_upd hp2 _ _ (same_upd hdx _ _ e)) (fun z=>by rw [z,hp] at e; cases e)
  clear b1 hls1
  refine⟨rfl,?_⟩;walk_at"s"
  intro p' dx' hp' hdx' hne'
  have hp2':upd H1 dx' (.own p') p'=none:=by rw [upd_ne (Ne.symm hne')]; exact hp'
  refine⟨p',dx',rfl,upd_same,fun ls' H2 b2 hls2 W2=>?_⟩
  have s2:Same H1 H2:=fun b o e=>b2 b o (same_upd hp2' _ _ (same_upd hdx' _ _ e)) (fun z=>by rw [z,hp'] at e; cases e)
  have hls3:H1 ls'=none:=((same_upd hdx').trans (same_upd hp2')).free hls2
  have nls:ls≠ls':=ne_of_none W1.sl hls3
  clear b2 hls2
  refine⟨rfl,?_⟩
  have W1:=W1.more s2
  have S2:=s1.trans s2
  walk_at"s"
  intro ld hld
  have eld:upd H2 ld (.lst [.ref p,.ref p']) ld=some (.lst [.ref p,.ref p']):=upd_same
  have s3:Same H2 _:=same_upd (o:=.lst [.ref p,.ref p']) hld
  have f3:ld≠ls/\ld≠ls':=⟨(ne_of_none W1.sl hld).symm,(ne_of_none W2.sl hld).symm⟩
  generalize upd H2 ld (.lst [.ref p,.ref p'])=H3 at *
  have W1:=W1.more s3
  have W2:=W2.more s3
  have S3:=S2.trans s3
  clear s1 s2 s3 S2 hld hp hdx hp2 hp' hdx' hp2' hls3 hne hne'
  walk_at"s"
  intro a1 ha1
  have ea1:upd H3 a1 (.lst []) a1=some (.lst (iL [])):=upd_same
  have s4:Same H3 _:=same_upd (o:=.lst []) ha1
  generalize upd H3 a1 (.lst [])=H4 at *
  walk_at"s"
  intro a2 ha2
  have ea2:upd H4 a2 (.lst []) a2=some (.lst (iL [])):=upd_same
  have s5:Same H4 _:=same_upd (o:=.lst []) ha2
  generalize upd H4 a2 (.lst [])=H5 at *
  walk_at"s"
  intro a3 ha3
  have ea3:upd H5 a3 (.lst []) a3=some (.lst (iL [])):=upd_same
  have s6:Same H5 _:=same_upd (o:=.lst []) ha3
  generalize upd H5 a3 (.lst [])=H6 at *
  walk_at"s"
  intro t0 ht0
  have et0:upd H6 t0 (.tup [.ref a1,.int 0,.ref a2,.ref a3]) t0=some (.tup [.ref a1,.int 0,.ref a2,.ref a3]):=upd_same
  have s7:Same H6 _:=same_upd (o:=.tup [.ref a1,.int 0,.ref a2,.ref a3]) ht0
  generalize upd H6 t0 (.tup [.ref a1,.int 0,.ref a2,.ref a3])=H7 at *
  have fr1:∀ x,H3 x=none->x≠ls/\x≠ls':=fun x hx=>⟨(ne_of_none W1.sl hx).symm,(ne_of_none W2.sl hx).symm⟩
  have Z0:E0s H7 [ls,ls'] t0:=⟨a1,a2,a3,et0,fun x hx=>by
   have g1:=s4.free ha2
   have g2:=s4.free (s5.free ha3)
   rcases hx with rfl | rfl | rfl
   ·exact⟨s7 _ _ (s6 _ _ (s5 _ _ ea1)),by simpa using fr1 _ ha1⟩
   ·exact⟨s7 _ _ (s6 _ _ ea2),by simpa using fr1 _ g1⟩
   ·exact⟨s7 _ _ ea3,by simpa using fr1 _ g2⟩⟩
  have s8:=s4.trans (s5.trans (s6.trans s7))
  have W1:=W1.more s8
  have W2:=W2.more s8
  have S7:=S3.trans s8
  replace eld:=s8 _ _ eld
  clear s4 s5 s6 s7 s8 ea1 ea2 ea3 et0 ha1 ha2 ha3 ht0 fr1 S3 a1 a2 a3
  walk_at"s"
  intro a1 ha1
  have ea1:upd H7 a1 (.lst []) a1=some (.lst (iL [])):=upd_same
  have s4:Same H7 _:=same_upd (o:=.lst []) ha1
  generalize upd H7 a1 (.lst [])=H4 at *
  walk_at"s"
  intro a2 ha2
  have ea2:upd H4 a2 (.lst []) a2=some (.lst (iL [])):=upd_same
  have s5:Same H4 _:=same_upd (o:=.lst []) ha2
  generalize upd H4 a2 (.lst [])=H5 at *
  walk_at"s"
  intro a3 ha3
  have ea3:upd H5 a3 (.lst []) a3=some (.lst (iL [])):=upd_same
  have s6:Same H5 _:=same_upd (o:=.lst []) ha3
  generalize upd H5 a3 (.lst [])=H6 at *
  walk_at"s"
  intro t0' ht0
  have et0:upd H6 t0' (.tup [.ref a1,.int 0,.ref a2,.ref a3]) t0'=some (.tup [.ref a1,.int 0,.ref a2,.ref a3]):=upd_same
  have s7:Same H6 _:=same_upd (o:=.tup [.ref a1,.int 0,.ref a2,.ref a3]) ht0
  generalize upd H6 t0' (.tup [.ref a1,.int 0,.ref a2,.ref a3])=H8 at *
  have fr1:∀ x,H7 x=none->x≠ls/\x≠ls':=fun x hx=>⟨(ne_of_none W1.sl hx).symm,(ne_of_none W2.sl hx).symm⟩
  have Z1:E0s H8 [ls,ls'] t0':=⟨a1,a2,a3,et0,fun x hx=>by
   have g1:=s4.free ha2
   have g2:=s4.free (s5.free ha3)
   rcases hx with rfl | rfl | rfl
   ·exact⟨s7 _ _ (s6 _ _ (s5 _ _ ea1)),by simpa using fr1 _ ha1⟩
   ·exact⟨s7 _ _ (s6 _ _ ea2),by simpa using fr1 _ g1⟩
   ·exact⟨s7 _ _ ea3,by simpa using fr1 _ g2⟩⟩
  have s8:=s4.trans (s5.trans (s6.trans s7))
  have W1:=W1.more s8
  have W2:=W2.more s8
  have S8:=S7.trans s8
  replace eld:=s8 _ _ eld
  replace Z0:=Z0.more s8
  clear s4 s5 s6 s7 s8 ea1 ea2 ea3 et0 ha1 ha2 ha3 ht0 fr1 S7 a1 a2 a3
  walk_at"s"
  intro lq hlq
  have elq:upd H8 lq (.lst [.ref t0,.ref t0']) lq=some (.lst [.ref t0,.ref t0']):=upd_same
  have s9:Same H8 _:=same_upd (o:=.lst [.ref t0,.ref t0']) hlq
  have fq:ls≠lq/\ls'≠lq/\ld≠lq:=⟨ne_of_none W1.sl hlq,ne_of_none W2.sl hlq,ne_of_none eld hlq⟩
  replace Z0:=Z0.add hlq
  replace Z1:=Z1.add hlq
  generalize upd H8 lq (.lst [.ref t0,.ref t0'])=H9 at *
  have W1:=W1.more s9
  have W2:=W2.more s9
  replace Z0:=Z0.more s9
  replace Z1:=Z1.more s9
  replace eld:=s9 _ _ eld
  have S9:=S8.trans s9
  clear s9 hlq S8
  walk_at"s"
  refine i_slTo (S9.seq hS) (by decide) (fun l10 h10=>?_)
  have hcl0:(ns.take (40:Int).toNat).length<=40:=by rw [List.length_take]; exact Nat.min_le_left _ _
  generalize ns.take (40:Int).toNat=cs0 at *
  have e10:upd H9 l10 (.lst (iL cs0)) l10=some (.lst (iL cs0)):=upd_same
  have s10:Same H9 _:=same_upd (o:=.lst (iL cs0)) h10
  have fc:l10≠ls/\l10≠ls'/\l10≠lq:=⟨(ne_of_none W1.sl h10).symm,(ne_of_none W2.sl h10).symm,(ne_of_none elq h10).symm⟩
  generalize upd H9 l10 (.lst (iL cs0))=H10 at *
  walk_at"s"
  refine⟨fun σ H11=>∃ (lc:Addr) (cs:List Int),σ = [some (.ref a),some (.ref ld),some (.ref lq),some (.ref lc),none,none,none,none,none,none,none,none,none,none]/\Same H9 H11/\H11 lc=some (.lst (iL cs))/\cs.length<=40/\lc≠ls/\lc≠ls'/\lc≠lq,?_,?_⟩
  ·walk_at"s"
   intro l11 h11
   have e11:upd H10 l11 (.lst []) l11=some (.lst (iL [])):=upd_same
   have s11:Same H10 _:=same_upd (o:=.lst []) h11
   generalize upd H10 l11 (.lst [])=H11 at *
   walk_at"s"
   refine i_eqL (SqL.of (s11 _ _ e10)) (SqL.of e11) ?_;walk_at"s"
   walk_at"z2"
   ·walk_at"s"
    intro l12 h12
    have S11:=s10.trans s11
    exact⟨l12,[0],rfl,S11.trans (same_upd h12),upd_same,by decide,(ne_of_none (S11 _ _ W1.sl) h12).symm,(ne_of_none (S11 _ _ W2.sl) h12).symm,(ne_of_none (S11 _ _ elq) h12).symm⟩
   ·walk_at"s"
    exact⟨l10,cs0,rfl,s10.trans s11,s11 _ _ e10,hcl0,fc⟩
  rintro σ H11 ⟨lc,cs,rfl,s11,elc,hcl,fc⟩
  have I0:Inv32 Y.jDe [lq,ls,ls'] ld lq lc (iL cs) 0 H11:=⟨p,ls,t0,[],[],p',ls',t0',[],[],⟨W1.more s11,W2.more s11,.inl ⟨rfl,Z0.more s11⟩,.inl ⟨rfl,Z1.more s11⟩,nls,fq.1,fq.2.1,fun x hx=>by
   rcases hx with rfl | rfl
   ·exact⟨f3.1,f3.2,fq.2.2⟩
   ·exact fc,by simp,by simp,by simp⟩,s11 _ _ eld,s11 _ _ elq,elc,fun s hs=>(by cases hs),fun s hs=>(by cases hs),Nat.le_refl _,Nat.le_refl _⟩
  generalize [lq,ls,ls']=FF at *
  clear W1 W2 Z0 Z1 elq eld s11 fc fq f3 nls s10 e10 h10 hcl0 S9 hS
  walk_at"s"
  refine⟨⟨_,SqL.of elc⟩,lp_ints (ns:=cs) (fun i σ H2=>∃ u4 u5 u6 u7 u8 u9 u10 u11 u12 u13:Option V,σ = [some (.ref a),some (.ref ld),some (.ref lq),some (.ref lc),u4,u5,u6,u7,u8,u9,u10,u11,u12,u13]/\Inv32 Y.jDe FF ld lq lc (iL cs) i H2) ?_ ?_ ?_ ?_⟩
  ·exact⟨_,_,_,_,_,_,_,_,_,_,rfl,I0⟩
  ·rintro i σ H2 _ ⟨u4,u5,u6,u7,u8,u9,u10,u11,u12,u13,rfl,I⟩
   obtain⟨_,_,_,_,_,_,_,_,_,_,_,_,_,e,_⟩:=I
   exact SqL.of e
  ·clear I0 elc
   rintro i x σ H2 hx ⟨u4,u5,u6,u7,u8,u9,u10,u11,u12,u13,rfl,I⟩
   have hil:i<cs.length:=(List.getElem?_eq_some_iff.mp hx).1
   have hi:i<=39:=by lia
   walk_at"s"
   refine⟨x,24,1000000,rfl,by decide,by decide,by decide,by decide,fun lk H3 pk N3 lk3 bk3=>?_⟩
   have hpk:pk.length=24:=by lia
   have I3:=I.more N3.sm
   have ek:=N3.at_
   clear N3 I
   walk_at"s"
   refine i_ixL (SqL.of ek) (by decide) (by lia) (fun v18 _ _=>?_);walk_at"s"
   have hk:v18 % 2=0\/v18 % 2=1:=by lia
   generalize v18 % 2=kk at *
   obtain⟨L1,L2,p,ls,t,ts,ss,p',ls',t',ts',ss',Pp,h1,h2,h3,h4,h5,hL2,h6,h7,hset,back⟩:=I3.at hk
   obtain⟨ps,hd,ws,gs,hSA,hcase⟩:=Pp.ha.at
   replace hcase:Case ss ps hd ws gs:=hcase
   obtain⟨c1,c2,c3,c4,c5⟩:=hcase.bd h6 (by lia)
   refine i_ixN (SqL.of h2) (by lia) h5 ?_;walk_at"s"
   refine⟨t,lk,ps,ws,gs,pk,hd,rfl,hSA,ek,hpk,bk3,c1,c2,c3,c4,c5,fun row H4 s4 hD=>?_⟩;walk_at"s"
   refine⟨fun σ H5=>∃ row,σ = [some (.ref a),some (.ref ld),some (.ref lq),some (.ref lc),some (.int x),some (.ref lk),some (.int kk),some (.str row),u8,u9,u10,u11,u12,u13]/\Same H3 H5/\RowCh row,?_,?_⟩
   ·walk_at"s"
    refine i_ixL (SqL.of (s4 _ _ ek)) (by decide) (by lia) (fun v19 _ _=>?_);walk_at"s"
    walk_at"z2"
    ·walk_at"s"
     refine i_slMid (SqL.of (s4 _ _ ek)) (by decide) (by decide) (fun l5 h5'=>?_)
     have hl4:((pk.drop (20:Int).toNat).take ((24:Int).toNat - (20:Int).toNat)).length=4:=by
      rw [List.length_take,List.length_drop,hpk]
      rfl
     have hn4:∀ p∈(pk.drop (20:Int).toNat).take ((24:Int).toNat - (20:Int).toNat),0<=p:=fun p hp=>(bk3 p (List.mem_of_mem_drop (List.mem_of_mem_take hp))).1
     generalize (pk.drop (20:Int).toNat).take ((24:Int).toNat - (20:Int).toNat)=pk4 at *
     walk_at"s"
     refine⟨row,l5,pk4,rfl,upd_same,hl4,hn4,hD,fun y H6 s6 hC=>?_⟩
     exact⟨y,rfl,s4.trans ((same_upd h5').trans s6),hC⟩
    ·walk_at"s"
     exact⟨s4,hD.row⟩
   rintro σ H5 ⟨row2,rfl,s5,hC⟩
   clear hD s4 row c1 c2 c3 c4 c5 bk3 ek
   have P5:=Pp.more s5
   have hSA5:=hSA.more s5
   replace h1:=s5 _ _ h1
   replace h2:=s5 _ _ h2
   replace h3:=s5 _ _ h3
   clear Pp hSA I3 s5
   have hls:∀ word ns,RowOk row2 word ns->(word ≠ "range" /\ word ≠ "grab" /\ word ≠ "back")/\SmallG ss word ns:=fun word ns hr2=>⟨hC.head (word:=word) (by obtain⟨rest,z,_⟩:=hr2; rw [z]; simp),say_small P5.da.ok h6 (by lia) hr2⟩
   walk_at"s"
   refine i_ixN (SqL.of h2) (by lia) h5 ?_;walk_at"s"
   refine read_one hSA5 hcase.two hC (fun fault word ns' q6 l6 H6 o6 s6 e6 n6=>?_)
   have P6:=P5.more s6
   replace h1:=s6 _ _ h1
   replace h2:=s6 _ _ h2
   replace h3:=s6 _ _ h3
   clear P5 hSA5 s6
   walk_at"s"
   refine⟨_,_,rfl,SqT.of e6,rfl,_,_,rfl,_,_,rfl,_,_,rfl,rfl,?_⟩
   clear e6
   walk_at"s"
   refine i_ixN (SqL.of h1) (by lia) h4 ?_;walk_at"s"
   refine said_one P6.da hC.asc (by have:=hC.len; lia) (by have:=P6.da.it.length; lia) hls (fun v bs ts2 ss2 q7 H7 o7 b7 W7 A7=>?_)
   have P7:=P6.said b7 W7
   have fr:=P6.f
   replace h1:=b7 _ _ h1 (fr ld (.inl rfl)).1
   replace h2:=b7 _ _ h2 P6.n2.symm
   replace h3:=b7 _ _ h3 (fr lc (.inr rfl)).1
   obtain⟨lk7,a7,k7⟩:=A7
   have ho:=out_both o6 o7
   clear o6 o7 W7
   walk_at"s"
   refine⟨_,_,rfl,SqT.of a7,rfl,_,_,rfl,_,_,rfl,rfl,?_⟩
   clear a7
   walk_at"s"
   refine⟨fun σ H8=>∃ w8 w9 w10 w11 w12 w13:Option V,σ = [some (.ref a),some (.ref ld),some (.ref lq),some (.ref lc),some (.int x),some (.ref lk),some (.int kk),some (.str row2),w8,w9,w10,w11,w12,w13]/\Inv32 Y.jDe FF ld lq lc (iL cs) (i+1) H8,?_,?_⟩
   ·walk_at"s"
    rcases ho with ⟨hn,hbs,hss⟩ | ⟨hf,hbs,hrow,hgood,hout⟩
    ·obtain⟨x1,x2⟩:=x_ne hn
     subst hss hbs
     have hI7:Inv32 Y.jDe FF ld lq lc (iL cs) (i+1) H7:=back H7 ts2 t ss2 P7 h1 (by rw [hset]; exact h2) h3 (fun s hs=>(h6 s hs).up) (by lia)
     clear back P7 P6 h1 h2 h3 n6 b7
     refine i_neS x2 (by decide+kernel) ?_
     rw [x1]
     walk_at"s"
     refine⟨fault,rfl,x2,fun l8 H8 s8 e8=>?_⟩;walk_at"s"
     refine i_neSame _ (pd_bls (s8 _ _ k7)) (pd_bls e8) ?_;walk_at"s"
     exact⟨_,_,_,_,_,_,rfl,hI7.more s8⟩
    ·subst hf hbs
     have hts:ts.length=ss.length:=P6.da.it.length
     have hl6:H7 l6=some (.lst (iL ns')):=b7 _ _ (n6 rfl) (num_ne (n6 rfl) P6.da.sl ((good_ne hgood).imp id fun z y=>z (List.length_eq_zero_iff.mp (by rw [<- hts,y]; rfl))))
     have hok:=P6.da.ok
     have hnl:ns'.length<=20000:=by have:=hC.few hrow; lia
     have hsmr:=(hls word ns' hrow).2
     have hbd:=both_bd hok h6 hC hrow hout
     clear P6 n6 b7 hls
     refine i_neS (by decide+kernel) (by decide+kernel) ?_
     rw [show (Str.ofString "" == Str.ofString "")=true from by decide+kernel]
     walk_at"s"
     refine i_ixN (SqL.of h2) (by lia) h5 ?_;walk_at"s"
     refine ans_one (P7.ha.sat hcase) hl6 hgood hok hsmr hout (fun y H8 hv hy s8=>?_)
     subst hv
     walk_at"s"
     intro l9 h9
     have S9:=s8.trans (same_upd (o:=.lst []) h9)
     have e9:upd H8 l9 (.lst []) l9=some (.lst (bL [])):=upd_same
     generalize upd H8 l9 (.lst [])=H9 at *
     walk_at"s"
     refine i_neSame _ (pd_bls (bs:=[]) (S9 _ _ k7)) (pd_bls (bs:=[]) e9) ?_;walk_at"s"
     refine i_isiSS ?_;walk_at"s"
     refine i_neS hy hy ?_
     rw [beq_self_eq_true]
     have P9:=P7.more S9
     replace h1:=S9 _ _ h1
     replace h2:=S9 _ _ h2
     replace h3:=S9 _ _ h3
     replace hl6:=S9 _ _ hl6
     clear P7 S9 s8 h9 e9 k7
     walk_at"s"
     refine i_ixN (SqL.of h2) (by lia) h5 ?_;walk_at"s"
     refine beh_one P9.ha hcase hl6 hnl hgood hok hout (fun t2 H10 s10 hH=>?_)
     have P10:=P9.more s10
     replace h1:=s10 _ _ h1
     replace h2:=s10 _ _ h2
     replace h3:=s10 _ _ h3
     clear P9 s10
     walk_at"s"
     have hix:ixN (L2.map V.ref).length kk=some kk.toNat:=by
      rw [List.length_map,hL2]
      rcases hk with rfl | rfl <;> rfl
     refine⟨lq,L2.map V.ref,kk,kk.toNat,rfl,rfl,h2,hix,?_⟩
     have bq:But lq H10 (upd H10 lq (.lst ((L2.map V.ref).set kk.toNat (.ref t2)))):=fun b o e n=>by rw [upd_ne n]; exact e
     have eq:(L2.map V.ref).set kk.toNat (.ref t2)=(L2.set kk.toNat t2).map V.ref:=by rw [List.map_set]
     refine⟨_,_,_,_,_,_,rfl,back _ ts2 t2 ss2 (P10.held bq h2 (hH.but bq h2 P10.m.2.2)) (bq _ _ h1 (fr ld (.inl rfl)).2.2) ?_ (bq _ _ h3 (fr lc (.inr rfl)).2.2) hbd.1 (by have:=hbd.2; lia)⟩
     rw [upd_same,eq]
   rintro σ H8 ⟨w8,w9,w10,w11,w12,w13,rfl,I8⟩
   clear ho hls back h1 h2 h3 P7 P6
   obtain⟨p,ls,t,ts,ss,p',ls',t',ts',ss',Pp,h1,h2,h3,h5,h6,h7,h8⟩:=id I8
   walk_at"s"
   refine i_ixN (SqL.of h1) (i:=0) (by decide) rfl ?_;walk_at"s"
   refine i_ixN (SqL.of h2) (i:=0) (by decide) rfl ?_;walk_at"s"
   refine stand_one Pp.da Pp.ha h5 (by lia) h7 (fun H9 s9=>?_);walk_at"s"
   refine i_ixN (SqL.of (s9 _ _ h1)) (i:=1) (by decide) rfl ?_;walk_at"s"
   refine i_ixN (SqL.of (s9 _ _ h2)) (i:=1) (by decide) rfl ?_;walk_at"s"
   refine stand_one (Pp.db.more s9) (Pp.hb.more s9) h6 (by lia) h8 (fun H10 s10=>?_);walk_at"s"
   exact⟨_,_,_,_,_,_,_,_,_,_,rfl,I8.more (s9.trans s10)⟩
  ·rintro σ H2 ⟨u4,u5,u6,u7,u8,u9,u10,u11,u12,u13,rfl,I⟩
   walk_at"s"
   exact k _
end
abbrev FL (K : PySem.W.Frag) (f : Addr) (q : Value) (o : Option Addr) (x y : Str) (z : Stmt) (k d p : Value) (n : Option Addr) (e t : Value) (s : Array (Option Value)) : Prop := K.lookup f = some ⟨q, o, .func (PySem.W.fnOf x y (defArgs z) (defBody z) (defScope z) .none k d p n e t), s⟩
theorem all_mk {l:PySem.W.OpenLaw} {w:World} {K:PySem.W.Frag} {h:Heap} {mg:Str->Option Value} {fa:Addr} (X:K.In h) (G:h.Ns mainGlobals mg) (hfa:mg "law" = some (.ref fa))
 {jDe:Addr}
 {f0 f1 f2 f3 f4 f5 f6 f7 f8 f9 f10 f11 f12 f13 f14 f15 f16 f17 f18 f19 f20 f21 f22 f23 f24 f25 f26 f27 f28 f29 f30 f31 f32 f33 f34 f35 f36 f37 f38 f39 f40 f41 f42 f43 f44 f45 f46 f47 f48 f49 f50 f51 f52 f53 f54 f55 f56 : Addr} {o0 n0 o1 n1 o2 n2 o3 n3 o4 n4 o5 n5 o6 n6 o7 n7 o8 n8 o9 n9 o10 n10 o11 n11 o12 n12 o13 n13 o14 n14 o15 n15 o16 n16 o17 n17 o18 n18 o19 n19 o20 n20 o21 n21 o22 n22 o23 n23 o24 n24 o25 n25 o26 n26 o27 n27 o28 n28 o29 n29 o30 n30 o31 n31 o32 n32 o33 n33 o34 n34 o35 n35 o36 n36 o37 n37 o38 n38 o39 n39 o40 n40 o41 n41 o42 n42 o43 n43 o44 n44 o45 n45 o46 n46 o47 n47 o48 n48 o49 n49 o50 n50 o51 n51 o52 n52 o53 n53 o54 n54 o55 n55 o56 n56 : Option Addr} {s0 s1 s2 s3 s4 s5 s6 s7 s8 s9 s10 s11 s12 s13 s14 s15 s16 s17 s18 s19 s20 s21 s22 s23 s24 s25 s26 s27 s28 s29 s30 s31 s32 s33 s34 s35 s36 s37 s38 s39 s40 s41 s42 s43 s44 s45 s46 s47 s48 s49 s50 s51 s52 s53 s54 s55 s56 : Array (Option Value)} {q0 k0 d0 p0 e0 t0 q1 k1 d1 p1 e1 t1 q2 k2 d2 p2 e2 t2 q3 k3 d3 p3 e3 t3 q4 k4 d4 p4 e4 t4 q5 k5 d5 p5 e5 t5 q6 k6 d6 p6 e6 t6 q7 k7 d7 p7 e7 t7 q8 k8 d8 p8 e8 t8 q9 k9 d9 p9 e9 t9 q10 k10 d10 p10 e10 t10 q11 k11 d11 p11 e11 t11 q12 k12 d12 p12 e12 t12 q13 k13 d13 p13 e13 t13 q14 k14 d14 p14 e14 t14 q15 k15 d15 p15 e15 t15 q16 k16 d16 p16 e16 t16 q17 k17 d17 p17 e17 t17 q18 k18 d18 p18 e18 t18 q19 k19 d19 p19 e19 t19 q20 k20 d20 p20 e20 t20 q21 k21 d21 p21 e21 t21 q22 k22 d22 p22 e22 t22 q23 k23 d23 p23 e23 t23 q24 k24 d24 p24 e24 t24 q25 k25 d25 p25 e25 t25 q26 k26 d26 p26 e26 t26 q27 k27 d27 p27 e27 t27 q28 k28 d28 p28 e28 t28 q29 k29 d29 p29 e29 t29 q30 k30 d30 p30 e30 t30 q31 k31 d31 p31 e31 t31 q32 k32 d32 p32 e32 t32 q33 k33 d33 p33 e33 t33 q34 k34 d34 p34 e34 t34 q35 k35 d35 p35 e35 t35 q36 k36 d36 p36 e36 t36 q37 k37 d37 p37 e37 t37 q38 k38 d38 p38 e38 t38 q39 k39 d39 p39 e39 t39 q40 k40 d40 p40 e40 t40 q41 k41 d41 p41 e41 t41 q42 k42 d42 p42 e42 t42 q43 k43 d43 p43 e43 t43 q44 k44 d44 p44 e44 t44 q45 k45 d45 p45 e45 t45 q46 k46 d46 p46 e46 t46 q47 k47 d47 p47 e47 t47 q48 k48 d48 p48 e48 t48 q49 k49 d49 p49 e49 t49 q50 k50 d50 p50 e50 t50 q51 k51 d51 p51 e51 t51 q52 k52 d52 p52 e52 t52 q53 k53 d53 p53 e53 t53 q54 k54 d54 p54 e54 t54 q55 k55 d55 p55 e55 t55 q56 k56 d56 p56 e56 t56 : Value}
 {t_FIGURES:Tok}
 {t_MOST_FIGURES:Tok}
 {t_MOST_PLAYS:Tok}
 {tb_FORMS:Addr} {es_FORMS:Array DictEntry} {dn_FORMS:Nat}
 {tf_FORMS_0:Addr} {td_FORMS_0:Option Addr} {ti_FORMS_0:Array Value} {tm_FORMS_0:Nat} {to_FORMS_0:Array (Option Value)}
 {tf_FORMS_1:Addr} {td_FORMS_1:Option Addr} {ti_FORMS_1:Array Value} {tm_FORMS_1:Nat} {to_FORMS_1:Array (Option Value)}
 {tf_FORMS_2:Addr} {td_FORMS_2:Option Addr} {ti_FORMS_2:Array Value} {tm_FORMS_2:Nat} {to_FORMS_2:Array (Option Value)}
 {tf_FORMS_3:Addr} {td_FORMS_3:Option Addr} {ti_FORMS_3:Array Value} {tm_FORMS_3:Nat} {to_FORMS_3:Array (Option Value)}
 {tf_FORMS_4:Addr} {td_FORMS_4:Option Addr} {ti_FORMS_4:Array Value} {tm_FORMS_4:Nat} {to_FORMS_4:Array (Option Value)}
 {tf_FORMS_5:Addr} {td_FORMS_5:Option Addr} {ti_FORMS_5:Array Value} {tm_FORMS_5:Nat} {to_FORMS_5:Array (Option Value)}
 {tf_FORMS_6:Addr} {td_FORMS_6:Option Addr} {ti_FORMS_6:Array Value} {tm_FORMS_6:Nat} {to_FORMS_6:Array (Option Value)}
 {tf_FORMS_7:Addr} {td_FORMS_7:Option Addr} {ti_FORMS_7:Array Value} {tm_FORMS_7:Nat} {to_FORMS_7:Array (Option Value)}
 {tf_FORMS_8:Addr} {td_FORMS_8:Option Addr} {ti_FORMS_8:Array Value} {tm_FORMS_8:Nat} {to_FORMS_8:Array (Option Value)}
 {tf_FORMS_9:Addr} {td_FORMS_9:Option Addr} {ti_FORMS_9:Array Value} {tm_FORMS_9:Nat} {to_FORMS_9:Array (Option Value)}
 {tb_DEEDS:Addr} {es_DEEDS:Array DictEntry} {dn_DEEDS:Nat}
 {fx_grabbed_at:Addr}
 {tb_ANSWERS:Addr} {es_ANSWERS:Array DictEntry} {dn_ANSWERS:Nat}
 {fx_range_text:Addr}
 {jAa:Addr}
 {jAb:Addr}
 {jAc:Addr}
 {jAd:Addr}
 {jAe:Addr}
 {jAf:Addr}
 {jAg:Addr}
 {jAh:Addr}
 {jAi:Addr}
 {jAj:Addr}
 {jAk:Addr}
 {jAl:Addr}
 {jAm:Addr}
 (a0:W.nsIn K mainGlobals "_law_a_kin" = some (some (.ref f0))) (l0:FL K f0 q0 o0 "_law_a_kin" "_law_a_kin" Gq18 k0 d0 p0 n0 e0 t0 s0) (c0:W.codeIn K e0 "_law_a_kin" = true) (b0:W.keepIn K (.ref f0)=true)
 (a1:W.nsIn K mainGlobals "_law_due_kin" = some (some (.ref f1))) (l1:FL K f1 q1 o1 "_law_due_kin" "_law_due_kin" Gq19 k1 d1 p1 n1 e1 t1 s1) (c1:W.codeIn K e1 "_law_due_kin" = true) (b1:W.keepIn K (.ref f1)=true)
 (a2:W.nsIn K mainGlobals "is_number" = some (some (.ref f2))) (l2:FL K f2 q2 o2 "is_number" "is_number" Gq0 k2 d2 p2 n2 e2 t2 s2) (c2:W.codeIn K e2 "is_number" = true) (b2:W.keepIn K (.ref f2)=true)
 (a3:W.nsIn K mainGlobals "are_numbers" = some (some (.ref f3))) (l3:FL K f3 q3 o3 "are_numbers" "are_numbers" Gq1 k3 d3 p3 n3 e3 t3 s3) (c3:W.codeIn K e3 "are_numbers" = true) (b3:W.keepIn K (.ref f3)=true)
 (a4:W.nsIn K mainGlobals "numbers_of" = some (some (.ref f4))) (l4:FL K f4 q4 o4 "numbers_of" "numbers_of" Gq2 k4 d4 p4 n4 e4 t4 s4) (c4:W.codeIn K e4 "numbers_of" = true) (b4:W.keepIn K (.ref f4)=true)
 (a5:W.nsIn K mainGlobals "written" = some (some (.ref f5))) (l5:FL K f5 q5 o5 "written" "written" Gq28 k5 d5 p5 n5 e5 t5 s5) (c5:W.codeIn K e5 "written" = true) (b5:W.keepIn K (.ref f5)=true)
 (a6:W.nsIn K mainGlobals "has_form" = some (some (.ref f6))) (l6:FL K f6 q6 o6 "has_form" "has_form" Gq3 k6 d6 p6 n6 e6 t6 s6) (c6:W.codeIn K e6 "has_form" = true) (b6:W.keepIn K (.ref f6)=true)
 (a7:W.nsIn K mainGlobals "parted" = some (some (.ref f7))) (l7:FL K f7 q7 o7 "parted" "parted" Gq4 k7 d7 p7 n7 e7 t7 s7) (c7:W.codeIn K e7 "parted" = true) (b7:W.keepIn K (.ref f7)=true)
 (a8:W.nsIn K mainGlobals "is_train" = some (some (.ref f8))) (l8:FL K f8 q8 o8 "is_train" "is_train" Gq29 k8 d8 p8 n8 e8 t8 s8) (c8:W.codeIn K e8 "is_train" = true) (b8:W.keepIn K (.ref f8)=true)
 (a9:W.nsIn K mainGlobals "keeps_plays" = some (some (.ref f9))) (l9:FL K f9 q9 o9 "keeps_plays" "keeps_plays" Gq30 k9 d9 p9 n9 e9 t9 s9) (c9:W.codeIn K e9 "keeps_plays" = true) (b9:W.keepIn K (.ref f9)=true)
 (a10:W.nsIn K mainGlobals "dragged" = some (some (.ref f10))) (l10:FL K f10 q10 o10 "dragged" "dragged" Gq31 k10 d10 p10 n10 e10 t10 s10) (c10:W.codeIn K e10 "dragged" = true) (b10:W.keepIn K (.ref f10)=true)
 (a11:W.nsIn K mainGlobals "all_dragged" = some (some (.ref f11))) (l11:FL K f11 q11 o11 "all_dragged" "all_dragged" Gq32 k11 d11 p11 n11 e11 t11 s11) (c11:W.codeIn K e11 "all_dragged" = true) (b11:W.keepIn K (.ref f11)=true)
 (a12:W.nsIn K mainGlobals "refuse_no_train" = some (some (.ref f12))) (l12:FL K f12 q12 o12 "refuse_no_train" "refuse_no_train" Gq33 k12 d12 p12 n12 e12 t12 s12) (c12:W.codeIn K e12 "refuse_no_train" = true) (b12:W.keepIn K (.ref f12)=true)
 (a13:W.nsIn K mainGlobals "is_stand" = some (some (.ref f13))) (l13:FL K f13 q13 o13 "is_stand" "is_stand" Gq34 k13 d13 p13 n13 e13 t13 s13) (c13:W.codeIn K e13 "is_stand" = true) (b13:W.keepIn K (.ref f13)=true)
 (a14:W.nsIn K mainGlobals "refuse_no_stand" = some (some (.ref f14))) (l14:FL K f14 q14 o14 "refuse_no_stand" "refuse_no_stand" Gq35 k14 d14 p14 n14 e14 t14 s14) (c14:W.codeIn K e14 "refuse_no_stand" = true) (b14:W.keepIn K (.ref f14)=true)
 (a15:W.nsIn K mainGlobals "farther" = some (some (.ref f15))) (l15:FL K f15 q15 o15 "farther" "farther" Gq36 k15 d15 p15 n15 e15 t15 s15) (c15:W.codeIn K e15 "farther" = true) (b15:W.keepIn K (.ref f15)=true)
 (a16:W.nsIn K mainGlobals "run_of" = some (some (.ref f16))) (l16:FL K f16 q16 o16 "run_of" "run_of" Gq37 k16 d16 p16 n16 e16 t16 s16) (c16:W.codeIn K e16 "run_of" = true) (b16:W.keepIn K (.ref f16)=true)
 (a17:W.nsIn K mainGlobals "new_train" = some (some (.ref f17))) (l17:FL K f17 q17 o17 "new_train" "new_train" Gq38 k17 d17 p17 n17 e17 t17 s17) (c17:W.codeIn K e17 "new_train" = true) (b17:W.keepIn K (.ref f17)=true)
 (a18:W.nsIn K mainGlobals "set_down" = some (some (.ref f18))) (l18:FL K f18 q18 o18 "set_down" "set_down" Gq39 k18 d18 p18 n18 e18 t18 s18) (c18:W.codeIn K e18 "set_down" = true) (b18:W.keepIn K (.ref f18)=true)
 (a19:W.nsIn K mainGlobals "where_text" = some (some (.ref f19))) (l19:FL K f19 q19 o19 "where_text" "where_text" Gq40 k19 d19 p19 n19 e19 t19 s19) (c19:W.codeIn K e19 "where_text" = true) (b19:W.keepIn K (.ref f19)=true)
 (a20:W.nsIn K mainGlobals "ways_text" = some (some (.ref f20))) (l20:FL K f20 q20 o20 "ways_text" "ways_text" Gq41 k20 d20 p20 n20 e20 t20 s20) (c20:W.codeIn K e20 "ways_text" = true) (b20:W.keepIn K (.ref f20)=true)
 (a21:W.nsIn K mainGlobals "turned_by" = some (some (.ref f21))) (l21:FL K f21 q21 o21 "turned_by" "turned_by" Gq42 k21 d21 p21 n21 e21 t21 s21) (c21:W.codeIn K e21 "turned_by" = true) (b21:W.keepIn K (.ref f21)=true)
 (a22:W.findIn K (.ref jDe) "state" = some (some (.ref f22))) (i22:W.isFn K (.ref f22)=true) (l22:FL K f22 q22 o22 "state" "Desk.state" Gq10 k22 d22 p22 n22 e22 t22 s22) (c22:W.codeIn K e22 "Desk.state" = true) (b22:W.keepIn K (.ref f22)=true)
 (a23:W.findIn K (.ref jDe) "take_back" = some (some (.ref f23))) (i23:W.isFn K (.ref f23)=true) (l23:FL K f23 q23 o23 "take_back" "Desk.take_back" Gq7 k23 d23 p23 n23 e23 t23 s23) (c23:W.codeIn K e23 "Desk.take_back" = true) (b23:W.keepIn K (.ref f23)=true)
 (a24:W.findIn K (.ref jDe) "do" = some (some (.ref f24))) (i24:W.isFn K (.ref f24)=true) (l24:FL K f24 q24 o24 "do" "Desk.do" Gq8 k24 d24 p24 n24 e24 t24 s24) (c24:W.codeIn K e24 "Desk.do" = true) (b24:W.keepIn K (.ref f24)=true)
 (a25:W.nsIn K mainGlobals "shown" = some (some (.ref f25))) (l25:FL K f25 q25 o25 "shown" "shown" Gq43 k25 d25 p25 n25 e25 t25 s25) (c25:W.codeIn K e25 "shown" = true) (b25:W.keepIn K (.ref f25)=true)
 (a26:W.nsIn K mainGlobals "depths_of" = some (some (.ref f26))) (l26:FL K f26 q26 o26 "depths_of" "depths_of" Gq44 k26 d26 p26 n26 e26 t26 s26) (c26:W.codeIn K e26 "depths_of" = true) (b26:W.keepIn K (.ref f26)=true)
 (a27:W.nsIn K mainGlobals "pieces_of" = some (some (.ref f27))) (l27:FL K f27 q27 o27 "pieces_of" "pieces_of" Gq45 k27 d27 p27 n27 e27 t27 s27) (c27:W.codeIn K e27 "pieces_of" = true) (b27:W.keepIn K (.ref f27)=true)
 (a28:W.nsIn K mainGlobals "must_place" = some (some (.ref f28))) (l28:FL K f28 q28 o28 "must_place" "must_place" Gq46 k28 d28 p28 n28 e28 t28 s28) (c28:W.codeIn K e28 "must_place" = true) (b28:W.keepIn K (.ref f28)=true)
 (a29:W.nsIn K mainGlobals "side_to_go" = some (some (.ref f29))) (l29:FL K f29 q29 o29 "side_to_go" "side_to_go" Gq47 k29 d29 p29 n29 e29 t29 s29) (c29:W.codeIn K e29 "side_to_go" = true) (b29:W.keepIn K (.ref f29)=true)
 (a30:W.nsIn K mainGlobals "is_beyond" = some (some (.ref f30))) (l30:FL K f30 q30 o30 "is_beyond" "is_beyond" Gq48 k30 d30 p30 n30 e30 t30 s30) (c30:W.codeIn K e30 "is_beyond" = true) (b30:W.keepIn K (.ref f30)=true)
 (a31:W.nsIn K mainGlobals "first_musts" = some (some (.ref f31))) (l31:FL K f31 q31 o31 "first_musts" "first_musts" Gq49 k31 d31 p31 n31 e31 t31 s31) (c31:W.codeIn K e31 "first_musts" = true) (b31:W.keepIn K (.ref f31)=true)
 (a32:W.nsIn K mainGlobals "way_of" = some (some (.ref f32))) (l32:FL K f32 q32 o32 "way_of" "way_of" Gq50 k32 d32 p32 n32 e32 t32 s32) (c32:W.codeIn K e32 "way_of" = true) (b32:W.keepIn K (.ref f32)=true)
 (a33:W.nsIn K mainGlobals "refuse_no_errand" = some (some (.ref f33))) (l33:FL K f33 q33 o33 "refuse_no_errand" "refuse_no_errand" Gq51 k33 d33 p33 n33 e33 t33 s33) (c33:W.codeIn K e33 "refuse_no_errand" = true) (b33:W.keepIn K (.ref f33)=true)
 (a34:W.nsIn K mainGlobals "paper_of" = some (some (.ref f34))) (l34:FL K f34 q34 o34 "paper_of" "paper_of" Gq52 k34 d34 p34 n34 e34 t34 s34) (c34:W.codeIn K e34 "paper_of" = true) (b34:W.keepIn K (.ref f34)=true)
 (a35:W.nsIn K mainGlobals "least_row" = some (some (.ref f35))) (l35:FL K f35 q35 o35 "least_row" "least_row" Gq53 k35 d35 p35 n35 e35 t35 s35) (c35:W.codeIn K e35 "least_row" = true) (b35:W.keepIn K (.ref f35)=true)
 (a36:W.nsIn K mainGlobals "least_of" = some (some (.ref f36))) (l36:FL K f36 q36 o36 "least_of" "least_of" Gq54 k36 d36 p36 n36 e36 t36 s36) (c36:W.codeIn K e36 "least_of" = true) (b36:W.keepIn K (.ref f36)=true)
 (a37:W.nsIn K mainGlobals "train_text" = some (some (.ref f37))) (l37:FL K f37 q37 o37 "train_text" "train_text" Gq55 k37 d37 p37 n37 e37 t37 s37) (c37:W.codeIn K e37 "train_text" = true) (b37:W.keepIn K (.ref f37)=true)
 (a38:W.nsIn K mainGlobals "least_text" = some (some (.ref f38))) (l38:FL K f38 q38 o38 "least_text" "least_text" Gq56 k38 d38 p38 n38 e38 t38 s38) (c38:W.codeIn K e38 "least_text" = true) (b38:W.keepIn K (.ref f38)=true)
 (a39:W.findIn K (.ref jDe) "tell" = some (some (.ref f39))) (i39:W.isFn K (.ref f39)=true) (l39:FL K f39 q39 o39 "tell" "Desk.tell" Gq9 k39 d39 p39 n39 e39 t39 s39) (c39:W.codeIn K e39 "Desk.tell" = true) (b39:W.keepIn K (.ref f39)=true)
 (a40:W.findIn K (.ref jDe) "say" = some (some (.ref f40))) (i40:W.isFn K (.ref f40)=true) (l40:FL K f40 q40 o40 "say" "Desk.say" Gq6 k40 d40 p40 n40 e40 t40 s40) (c40:W.codeIn K e40 "Desk.say" = true) (b40:W.keepIn K (.ref f40)=true)
 (a41:W.findIn K (.ref jDe) "__init__" = some (some (.ref f41))) (i41:W.isFn K (.ref f41)=true) (l41:FL K f41 q41 o41 "__init__" "Desk.__init__" Gq5 k41 d41 p41 n41 e41 t41 s41) (c41:W.codeIn K e41 "Desk.__init__" = true) (b41:W.keepIn K (.ref f41)=true)
 (a42:W.nsIn K mainGlobals "_law_said" = some (some (.ref f42))) (l42:FL K f42 q42 o42 "_law_said" "_law_said" Gq25 k42 d42 p42 n42 e42 t42 s42) (c42:W.codeIn K e42 "_law_said" = true) (b42:W.keepIn K (.ref f42)=true)
 (a43:W.nsIn K mainGlobals "_law_a_number" = some (some (.ref f43))) (l43:FL K f43 q43 o43 "_law_a_number" "_law_a_number" Gq13 k43 d43 p43 n43 e43 t43 s43) (c43:W.codeIn K e43 "_law_a_number" = true) (b43:W.keepIn K (.ref f43)=true)
 (a44:W.nsIn K mainGlobals "_law_a_words" = some (some (.ref f44))) (l44:FL K f44 q44 o44 "_law_a_words" "_law_a_words" Gq14 k44 d44 p44 n44 e44 t44 s44) (c44:W.codeIn K e44 "_law_a_words" = true) (b44:W.keepIn K (.ref f44)=true)
 (a45:W.nsIn K mainGlobals "_law_a_numbers" = some (some (.ref f45))) (l45:FL K f45 q45 o45 "_law_a_numbers" "_law_a_numbers" Gq15 k45 d45 p45 n45 e45 t45 s45) (c45:W.codeIn K e45 "_law_a_numbers" = true) (b45:W.keepIn K (.ref f45)=true)
 (a46:W.nsIn K mainGlobals "_law_keeps" = some (some (.ref f46))) (l46:FL K f46 q46 o46 "_law_keeps" "_law_keeps" Gq16 k46 d46 p46 n46 e46 t46 s46) (c46:W.codeIn K e46 "_law_keeps" = true) (b46:W.keepIn K (.ref f46)=true)
 (a47:W.nsIn K mainGlobals "_law_all" = some (some (.ref f47))) (l47:FL K f47 q47 o47 "_law_all" "_law_all" Gq12 k47 d47 p47 n47 e47 t47 s47) (c47:W.codeIn K e47 "_law_all" = true) (b47:W.keepIn K (.ref f47)=true)
 (a48:W.nsIn K mainGlobals "_law_a_behind" = some (some (.ref f48))) (l48:FL K f48 q48 o48 "_law_a_behind" "_law_a_behind" Gq22 k48 d48 p48 n48 e48 t48 s48) (c48:W.codeIn K e48 "_law_a_behind" = true) (b48:W.keepIn K (.ref f48)=true)
 (a49:W.nsIn K mainGlobals "_law_a_least" = some (some (.ref f49))) (l49:FL K f49 q49 o49 "_law_a_least" "_law_a_least" Gq20 k49 d49 p49 n49 e49 t49 s49) (c49:W.codeIn K e49 "_law_a_least" = true) (b49:W.keepIn K (.ref f49)=true)
 (a50:W.nsIn K mainGlobals "_law_spoilt" = some (some (.ref f50))) (l50:FL K f50 q50 o50 "_law_spoilt" "_law_spoilt" Gq17 k50 d50 p50 n50 e50 t50 s50) (c50:W.codeIn K e50 "_law_spoilt" = true) (b50:W.keepIn K (.ref f50)=true)
 (a51:W.nsIn K mainGlobals "_law_answer" = some (some (.ref f51))) (l51:FL K f51 q51 o51 "_law_answer" "_law_answer" Gq21 k51 d51 p51 n51 e51 t51 s51) (c51:W.codeIn K e51 "_law_answer" = true) (b51:W.keepIn K (.ref f51)=true)
 (a52:W.nsIn K mainGlobals "_law_read_row" = some (some (.ref f52))) (l52:FL K f52 q52 o52 "_law_read_row" "_law_read_row" Gq24 k52 d52 p52 n52 e52 t52 s52) (c52:W.codeIn K e52 "_law_read_row" = true) (b52:W.keepIn K (.ref f52)=true)
 (a53:W.nsIn K mainGlobals "_law_row_drawn" = some (some (.ref f53))) (l53:FL K f53 q53 o53 "_law_row_drawn" "_law_row_drawn" Gq23 k53 d53 p53 n53 e53 t53 s53) (c53:W.codeIn K e53 "_law_row_drawn" = true) (b53:W.keepIn K (.ref f53)=true)
 (a54:W.nsIn K mainGlobals "_law_stands" = some (some (.ref f54))) (l54:FL K f54 q54 o54 "_law_stands" "_law_stands" Gq26 k54 d54 p54 n54 e54 t54 s54) (c54:W.codeIn K e54 "_law_stands" = true) (b54:W.keepIn K (.ref f54)=true)
 (a55:W.nsIn K mainGlobals "_law_draws" = some (some (.ref f55))) (l55:FL K f55 q55 o55 "_law_draws" "_law_draws" Gq11 k55 d55 p55 n55 e55 t55 s55) (c55:W.codeIn K e55 "_law_draws" = true) (b55:W.keepIn K (.ref f55)=true)
 (a56:W.nsIn K mainGlobals "law" = some (some (.ref f56))) (l56:FL K f56 q56 o56 "law" "law" Gq27 k56 d56 p56 n56 e56 t56 s56) (c56:W.codeIn K e56 "law" = true) (b56:W.keepIn K (.ref f56)=true)
 (z_ValueError:PySem.W.nsIn K mainGlobals "ValueError" = some none)
 (z_abs:PySem.W.nsIn K mainGlobals "abs" = some none)
 (z_all:PySem.W.nsIn K mainGlobals "all" = some none)
 (z_enumerate:PySem.W.nsIn K mainGlobals "enumerate" = some none)
 (z_int:PySem.W.nsIn K mainGlobals "int" = some none)
 (z_isinstance:PySem.W.nsIn K mainGlobals "isinstance" = some none)
 (z_len:PySem.W.nsIn K mainGlobals "len" = some none)
 (z_max:PySem.W.nsIn K mainGlobals "max" = some none)
 (z_min:PySem.W.nsIn K mainGlobals "min" = some none)
 (z_range:PySem.W.nsIn K mainGlobals "range" = some none)
 (z_str:PySem.W.nsIn K mainGlobals "str" = some none)
 (z_sum:PySem.W.nsIn K mainGlobals "sum" = some none)
 (z_zip:PySem.W.nsIn K mainGlobals "zip" = some none)
 (g_FIGURES:PySem.W.nsIn K mainGlobals "FIGURES" = some (some (.str "0123456789" t_FIGURES)))
 (g_MOST_FIGURES:PySem.W.nsIn K mainGlobals "MOST_FIGURES" = some (some (.int 40 t_MOST_FIGURES)))
 (g_MOST_PLAYS:PySem.W.nsIn K mainGlobals "MOST_PLAYS" = some (some (.int 12 t_MOST_PLAYS)))
 (w_Desk:PySem.W.nsIn K mainGlobals "Desk" = some (some (.ref jDe)))
 (pg_Desk:PySem.W.plainGet K jDe Str.empty=true)
 (hd_Desk:PySem.W.hasDictIn K jDe=true)
 (po_Desk:PySem.W.plainOver K jDe=true)
 (sa_Desk:PySem.W.findIn K (.ref jDe) "__setattr__" = some (some (.builtin "object.__setattr__")))
 (mk_Desk:PySem.W.makesIn K jDe=true)
 (kc_Desk:PySem.W.keepIn K (.ref jDe)=true)
 (jDg:PySem.W.findIn K (.ref jDe) "states" = some none)
 (tn_FORMS:PySem.W.nsIn K mainGlobals "FORMS" = some (some (.ref tb_FORMS))) (tl_FORMS:K.lookup tb_FORMS=some ⟨.type "dict", none,.dict es_FORMS dn_FORMS,#[]⟩) (tk_FORMS:PySem.W.KeysLit w.params es_FORMS.toList) (ts_FORMS:(tb_FORMS == sysModules)=false)
 (tp_FORMS:Paired (fun (p:Str×V) (e:DictEntry)=>∃ t,e.key=.str p.1 t/\RelV p.2 e.val) [("plays", .ref tf_FORMS_0),("at", .ref tf_FORMS_1),("turn", .ref tf_FORMS_2),("where", .ref tf_FORMS_3),("ways", .ref tf_FORMS_4),("least", .ref tf_FORMS_5),("text", .ref tf_FORMS_6),("grab", .ref tf_FORMS_7),("range", .ref tf_FORMS_8),("back", .ref tf_FORMS_9)] es_FORMS.toList)
 (tt_FORMS_0:K.lookup tf_FORMS_0=some ⟨.type "tuple", td_FORMS_0,.seq ti_FORMS_0 tm_FORMS_0,to_FORMS_0⟩)
 (tv_FORMS_0:Vals [.int 1,.non] ti_FORMS_0.toList)
 (tt_FORMS_1:K.lookup tf_FORMS_1=some ⟨.type "tuple", td_FORMS_1,.seq ti_FORMS_1 tm_FORMS_1,to_FORMS_1⟩)
 (tv_FORMS_1:Vals [.int 2,.non] ti_FORMS_1.toList)
 (tt_FORMS_2:K.lookup tf_FORMS_2=some ⟨.type "tuple", td_FORMS_2,.seq ti_FORMS_2 tm_FORMS_2,to_FORMS_2⟩)
 (tv_FORMS_2:Vals [.int 1,.non] ti_FORMS_2.toList)
 (tt_FORMS_3:K.lookup tf_FORMS_3=some ⟨.type "tuple", td_FORMS_3,.seq ti_FORMS_3 tm_FORMS_3,to_FORMS_3⟩)
 (tv_FORMS_3:Vals [.int 0,.int 0] ti_FORMS_3.toList)
 (tt_FORMS_4:K.lookup tf_FORMS_4=some ⟨.type "tuple", td_FORMS_4,.seq ti_FORMS_4 tm_FORMS_4,to_FORMS_4⟩)
 (tv_FORMS_4:Vals [.int 0,.int 0] ti_FORMS_4.toList)
 (tt_FORMS_5:K.lookup tf_FORMS_5=some ⟨.type "tuple", td_FORMS_5,.seq ti_FORMS_5 tm_FORMS_5,to_FORMS_5⟩)
 (tv_FORMS_5:Vals [.int 2,.non] ti_FORMS_5.toList)
 (tt_FORMS_6:K.lookup tf_FORMS_6=some ⟨.type "tuple", td_FORMS_6,.seq ti_FORMS_6 tm_FORMS_6,to_FORMS_6⟩)
 (tv_FORMS_6:Vals [.int 0,.int 0] ti_FORMS_6.toList)
 (tt_FORMS_7:K.lookup tf_FORMS_7=some ⟨.type "tuple", td_FORMS_7,.seq ti_FORMS_7 tm_FORMS_7,to_FORMS_7⟩)
 (tv_FORMS_7:Vals [.int 2,.int 2] ti_FORMS_7.toList)
 (tt_FORMS_8:K.lookup tf_FORMS_8=some ⟨.type "tuple", td_FORMS_8,.seq ti_FORMS_8 tm_FORMS_8,to_FORMS_8⟩)
 (tv_FORMS_8:Vals [.int 2,.int 2] ti_FORMS_8.toList)
 (tt_FORMS_9:K.lookup tf_FORMS_9=some ⟨.type "tuple", td_FORMS_9,.seq ti_FORMS_9 tm_FORMS_9,to_FORMS_9⟩)
 (tv_FORMS_9:Vals [.int 0,.int 0] ti_FORMS_9.toList)
 (tn_DEEDS:PySem.W.nsIn K mainGlobals "DEEDS" = some (some (.ref tb_DEEDS))) (tl_DEEDS:K.lookup tb_DEEDS=some ⟨.type "dict", none,.dict es_DEEDS dn_DEEDS,#[]⟩) (tk_DEEDS:PySem.W.KeysLit w.params es_DEEDS.toList) (ts_DEEDS:(tb_DEEDS == sysModules)=false)
 (nx_grabbed_at:PySem.W.nsIn K mainGlobals "grabbed_at" = some (some (.ref fx_grabbed_at)))
 (tp_DEEDS:Paired (fun (p:Str×V) (e:DictEntry)=>∃ t,e.key=.str p.1 t/\RelV p.2 e.val) [("plays", .ref f17),("at", .ref f18),("turn", .ref f21),("grab", .ref fx_grabbed_at)] es_DEEDS.toList)
 (tn_ANSWERS:PySem.W.nsIn K mainGlobals "ANSWERS" = some (some (.ref tb_ANSWERS))) (tl_ANSWERS:K.lookup tb_ANSWERS=some ⟨.type "dict", none,.dict es_ANSWERS dn_ANSWERS,#[]⟩) (tk_ANSWERS:PySem.W.KeysLit w.params es_ANSWERS.toList) (ts_ANSWERS:(tb_ANSWERS == sysModules)=false)
 (nx_range_text:PySem.W.nsIn K mainGlobals "range_text" = some (some (.ref fx_range_text)))
 (tp_ANSWERS:Paired (fun (p:Str×V) (e:DictEntry)=>∃ t,e.key=.str p.1 t/\RelV p.2 e.val) [("where", .ref f19),("ways", .ref f20),("least", .ref f38),("text", .ref f37),("range", .ref fx_range_text)] es_ANSWERS.toList)
 (n_TrainError:PySem.W.nsIn K mainGlobals "TrainError" = some (some (.ref jAa)))
 (n_NoTrain:PySem.W.nsIn K mainGlobals "NoTrain" = some (some (.ref jAb)))
 (n_NoStand:PySem.W.nsIn K mainGlobals "NoStand" = some (some (.ref jAc)))
 (n_NoPaper:PySem.W.nsIn K mainGlobals "NoPaper" = some (some (.ref jAd)))
 (n_NoBox:PySem.W.nsIn K mainGlobals "NoBox" = some (some (.ref jAe)))
 (n_NoSwitch:PySem.W.nsIn K mainGlobals "NoSwitch" = some (some (.ref jAf)))
 (n_NoPlace:PySem.W.nsIn K mainGlobals "NoPlace" = some (some (.ref jAg)))
 (n_NoTable:PySem.W.nsIn K mainGlobals "NoTable" = some (some (.ref jAh)))
 (n_NoText:PySem.W.nsIn K mainGlobals "NoText" = some (some (.ref jAi)))
 (n_NoRow:PySem.W.nsIn K mainGlobals "NoRow" = some (some (.ref jAj)))
 (n_NoPiece:PySem.W.nsIn K mainGlobals "NoPiece" = some (some (.ref jAk)))
 (n_NothingLeft:PySem.W.nsIn K mainGlobals "NothingLeft" = some (some (.ref jAl)))
 (n_TooMany:PySem.W.nsIn K mainGlobals "TooMany" = some (some (.ref jAm)))
 (x_NoTrain:PySem.W.excIn K jAb [.type "ValueError", .type "Exception", .type "BaseException", .type "object"] "ValueError.__new__" = true)
 (jBa:PySem.W.exmOne K (.ref jAb) (.ref jAa)=some true)
 (i_NoTrain_ga:PySem.W.findIn K (.ref jAb) "__getattribute__" = some (some (.builtin "BaseException.__getattribute__")))
 (i_NoTrain_gt:PySem.W.findIn K (.ref jAb) "__getattr__" = some none)
 (i_NoTrain_mb:PySem.W.mroIn K jAb (.type "BaseException")=some true)
 (i_NoTrain_hd:PySem.W.hasDictIn K jAb=true)
 (i_NoTrain_ca:PySem.W.findIn K (.ref jAb) "__class__" = some (some (.builtin "object.__class__")))
 (i_NoTrain_sp:PySem.W.specialIn K (.builtin "object.__class__") "__get__" = some (some (.builtin "getset_descriptor.__get__")))
 (i_NoTrain_tk:PySem.W.takesIn K (.builtin "object.__class__")=some true)
 (i_NoTrain_mr:PySem.W.mroIn K jAb (.type "object")=some true)
 (jBb:PySem.W.kitOne K (.ref jAb) (.ref jAb)=some true)
 (jBc:PySem.W.kitOne K (.ref jAb) (.ref jAc)=some false)
 (jBd:PySem.W.kitOne K (.ref jAb) (.ref jAd)=some false)
 (jBe:PySem.W.kitOne K (.ref jAb) (.ref jAe)=some false)
 (jBf:PySem.W.kitOne K (.ref jAb) (.ref jAf)=some false)
 (jBg:PySem.W.kitOne K (.ref jAb) (.ref jAg)=some false)
 (jBh:PySem.W.kitOne K (.ref jAb) (.ref jAh)=some false)
 (jBi:PySem.W.kitOne K (.ref jAb) (.ref jAi)=some false)
 (jBj:PySem.W.kitOne K (.ref jAb) (.ref jAj)=some false)
 (jBk:PySem.W.kitOne K (.ref jAb) (.ref jAk)=some false)
 (jBl:PySem.W.kitOne K (.ref jAb) (.ref jAl)=some false)
 (jBm:PySem.W.kitOne K (.ref jAb) (.ref jAm)=some false)
 (jBn:PySem.W.kitOne K (.ref jAb) (.type "ValueError")=some true)
 (x_NoStand:PySem.W.excIn K jAc [.type "ValueError", .type "Exception", .type "BaseException", .type "object"] "ValueError.__new__" = true)
 (jBo:PySem.W.exmOne K (.ref jAc) (.ref jAa)=some true)
 (i_NoStand_ga:PySem.W.findIn K (.ref jAc) "__getattribute__" = some (some (.builtin "BaseException.__getattribute__")))
 (i_NoStand_gt:PySem.W.findIn K (.ref jAc) "__getattr__" = some none)
 (i_NoStand_mb:PySem.W.mroIn K jAc (.type "BaseException")=some true)
 (i_NoStand_hd:PySem.W.hasDictIn K jAc=true)
 (i_NoStand_ca:PySem.W.findIn K (.ref jAc) "__class__" = some (some (.builtin "object.__class__")))
 (i_NoStand_sp:PySem.W.specialIn K (.builtin "object.__class__") "__get__" = some (some (.builtin "getset_descriptor.__get__")))
 (i_NoStand_tk:PySem.W.takesIn K (.builtin "object.__class__")=some true)
 (i_NoStand_mr:PySem.W.mroIn K jAc (.type "object")=some true)
 (jBp:PySem.W.kitOne K (.ref jAc) (.ref jAb)=some false)
 (jBq:PySem.W.kitOne K (.ref jAc) (.ref jAc)=some true)
 (jBr:PySem.W.kitOne K (.ref jAc) (.ref jAd)=some false)
 (jBs:PySem.W.kitOne K (.ref jAc) (.ref jAe)=some false)
 (jBt:PySem.W.kitOne K (.ref jAc) (.ref jAf)=some false)
 (jBu:PySem.W.kitOne K (.ref jAc) (.ref jAg)=some false)
 (jBv:PySem.W.kitOne K (.ref jAc) (.ref jAh)=some false)
 (jBw:PySem.W.kitOne K (.ref jAc) (.ref jAi)=some false)
 (jBx:PySem.W.kitOne K (.ref jAc) (.ref jAj)=some false)
 (jBy:PySem.W.kitOne K (.ref jAc) (.ref jAk)=some false)
 (jBz:PySem.W.kitOne K (.ref jAc) (.ref jAl)=some false)
 (jCa:PySem.W.kitOne K (.ref jAc) (.ref jAm)=some false)
 (jCb:PySem.W.kitOne K (.ref jAc) (.type "ValueError")=some true)
 (x_NoRow:PySem.W.excIn K jAj [.type "ValueError", .type "Exception", .type "BaseException", .type "object"] "ValueError.__new__" = true)
 (jCc:PySem.W.exmOne K (.ref jAj) (.ref jAa)=some true)
 (i_NoRow_ga:PySem.W.findIn K (.ref jAj) "__getattribute__" = some (some (.builtin "BaseException.__getattribute__")))
 (i_NoRow_gt:PySem.W.findIn K (.ref jAj) "__getattr__" = some none)
 (i_NoRow_mb:PySem.W.mroIn K jAj (.type "BaseException")=some true)
 (i_NoRow_hd:PySem.W.hasDictIn K jAj=true)
 (i_NoRow_ca:PySem.W.findIn K (.ref jAj) "__class__" = some (some (.builtin "object.__class__")))
 (i_NoRow_sp:PySem.W.specialIn K (.builtin "object.__class__") "__get__" = some (some (.builtin "getset_descriptor.__get__")))
 (i_NoRow_tk:PySem.W.takesIn K (.builtin "object.__class__")=some true)
 (i_NoRow_mr:PySem.W.mroIn K jAj (.type "object")=some true)
 (jCd:PySem.W.kitOne K (.ref jAj) (.ref jAb)=some false)
 (jCe:PySem.W.kitOne K (.ref jAj) (.ref jAc)=some false)
 (jCf:PySem.W.kitOne K (.ref jAj) (.ref jAd)=some false)
 (jCg:PySem.W.kitOne K (.ref jAj) (.ref jAe)=some false)
 (jCh:PySem.W.kitOne K (.ref jAj) (.ref jAf)=some false)
 (jCi:PySem.W.kitOne K (.ref jAj) (.ref jAg)=some false)
 (jCj:PySem.W.kitOne K (.ref jAj) (.ref jAh)=some false)
 (jCk:PySem.W.kitOne K (.ref jAj) (.ref jAi)=some false)
 (jCl:PySem.W.kitOne K (.ref jAj) (.ref jAj)=some true)
 (jCm:PySem.W.kitOne K (.ref jAj) (.ref jAk)=some false)
 (jCn:PySem.W.kitOne K (.ref jAj) (.ref jAl)=some false)
 (jCo:PySem.W.kitOne K (.ref jAj) (.ref jAm)=some false)
 (jCp:PySem.W.kitOne K (.ref jAj) (.type "ValueError")=some true)
 (x_NothingLeft:PySem.W.excIn K jAl [.type "ValueError", .type "Exception", .type "BaseException", .type "object"] "ValueError.__new__" = true)
 (jCq:PySem.W.exmOne K (.ref jAl) (.ref jAa)=some true)
 (i_NothingLeft_ga:PySem.W.findIn K (.ref jAl) "__getattribute__" = some (some (.builtin "BaseException.__getattribute__")))
 (i_NothingLeft_gt:PySem.W.findIn K (.ref jAl) "__getattr__" = some none)
 (i_NothingLeft_mb:PySem.W.mroIn K jAl (.type "BaseException")=some true)
 (i_NothingLeft_hd:PySem.W.hasDictIn K jAl=true)
 (i_NothingLeft_ca:PySem.W.findIn K (.ref jAl) "__class__" = some (some (.builtin "object.__class__")))
 (i_NothingLeft_sp:PySem.W.specialIn K (.builtin "object.__class__") "__get__" = some (some (.builtin "getset_descriptor.__get__")))
 (i_NothingLeft_tk:PySem.W.takesIn K (.builtin "object.__class__")=some true)
 (i_NothingLeft_mr:PySem.W.mroIn K jAl (.type "object")=some true)
 (jCr:PySem.W.kitOne K (.ref jAl) (.ref jAb)=some false)
 (jCs:PySem.W.kitOne K (.ref jAl) (.ref jAc)=some false)
 (jCt:PySem.W.kitOne K (.ref jAl) (.ref jAd)=some false)
 (jCu:PySem.W.kitOne K (.ref jAl) (.ref jAe)=some false)
 (jCv:PySem.W.kitOne K (.ref jAl) (.ref jAf)=some false)
 (jCw:PySem.W.kitOne K (.ref jAl) (.ref jAg)=some false)
 (jCx:PySem.W.kitOne K (.ref jAl) (.ref jAh)=some false)
 (jCy:PySem.W.kitOne K (.ref jAl) (.ref jAi)=some false)
 (jCz:PySem.W.kitOne K (.ref jAl) (.ref jAj)=some false)
 (jDa:PySem.W.kitOne K (.ref jAl) (.ref jAk)=some false)
 (jDb:PySem.W.kitOne K (.ref jAl) (.ref jAl)=some true)
 (jDc:PySem.W.kitOne K (.ref jAl) (.ref jAm)=some false)
 (jDd:PySem.W.kitOne K (.ref jAl) (.type "ValueError")=some true) :
 ∃ fd:FuncData,(∀ (s:Shared) (v:Value),BindsTo s fd ⟨[v],[]⟩ [("script", v)])/\∀ base:Heap,K.In base->base.Ns mainGlobals mg->FnOk l.prog w K mg base CX0 15 fa fd ["script"] (spLaw K):=by
 have e:=hfa.symm.trans (PySem.W.mg_of X G a56)
 cases e
 have T:Txt mg:=⟨PySem.W.mg_none_of X G z_ValueError,PySem.W.mg_none_of X G z_abs,PySem.W.mg_none_of X G z_all,PySem.W.mg_none_of X G z_enumerate,PySem.W.mg_none_of X G z_int,PySem.W.mg_none_of X G z_isinstance,PySem.W.mg_none_of X G z_len,PySem.W.mg_none_of X G z_max,PySem.W.mg_none_of X G z_min,PySem.W.mg_none_of X G z_range,PySem.W.mg_none_of X G z_str,PySem.W.mg_none_of X G z_sum,PySem.W.mg_none_of X G z_zip,⟨_,PySem.W.mg_of X G g_FIGURES⟩,⟨_,PySem.W.mg_of X G g_MOST_FIGURES⟩,⟨_,PySem.W.mg_of X G g_MOST_PLAYS⟩⟩
 let Z:Cls K mg:=⟨jAa,jAb,jAc,jAd,jAe,jAf,jAg,jAh,jAi,jAj,jAk,jAl,jAm,PySem.W.mg_of X G n_TrainError,PySem.W.mg_of X G n_NoTrain,PySem.W.mg_of X G n_NoStand,PySem.W.mg_of X G n_NoPaper,PySem.W.mg_of X G n_NoBox,PySem.W.mg_of X G n_NoSwitch,PySem.W.mg_of X G n_NoPlace,PySem.W.mg_of X G n_NoTable,PySem.W.mg_of X G n_NoText,PySem.W.mg_of X G n_NoRow,PySem.W.mg_of X G n_NoPiece,PySem.W.mg_of X G n_NothingLeft,PySem.W.mg_of X G n_TooMany,x_NoTrain,jBa,i_NoTrain_ga,i_NoTrain_gt,i_NoTrain_mb,i_NoTrain_hd,i_NoTrain_ca,i_NoTrain_sp,i_NoTrain_tk,i_NoTrain_mr,jBb,jBc,jBd,jBe,jBf,jBg,jBh,jBi,jBj,jBk,jBl,jBm,jBn,x_NoStand,jBo,i_NoStand_ga,i_NoStand_gt,i_NoStand_mb,i_NoStand_hd,i_NoStand_ca,i_NoStand_sp,i_NoStand_tk,i_NoStand_mr,jBp,jBq,jBr,jBs,jBt,jBu,jBv,jBw,jBx,jBy,jBz,jCa,jCb,x_NoRow,jCc,i_NoRow_ga,i_NoRow_gt,i_NoRow_mb,i_NoRow_hd,i_NoRow_ca,i_NoRow_sp,i_NoRow_tk,i_NoRow_mr,jCd,jCe,jCf,jCg,jCh,jCi,jCj,jCk,jCl,jCm,jCn,jCo,jCp,x_NothingLeft,jCq,i_NothingLeft_ga,i_NothingLeft_gt,i_NothingLeft_mb,i_NothingLeft_hd,i_NothingLeft_ca,i_NothingLeft_sp,i_NothingLeft_tk,i_NothingLeft_mr,jCr,jCs,jCt,jCu,jCv,jCw,jCx,jCy,jCz,jDa,jDb,jDc,jDd⟩
 let M:Tabs w K mg:=⟨tb_FORMS,[("plays", .ref tf_FORMS_0),("at", .ref tf_FORMS_1),("turn", .ref tf_FORMS_2),("where", .ref tf_FORMS_3),("ways", .ref tf_FORMS_4),("least", .ref tf_FORMS_5),("text", .ref tf_FORMS_6),("grab", .ref tf_FORMS_7),("range", .ref tf_FORMS_8),("back", .ref tf_FORMS_9)],PySem.W.mg_of X G tn_FORMS,⟨es_FORMS,dn_FORMS,tl_FORMS,tk_FORMS,ts_FORMS,tp_FORMS⟩,.cons ⟨rfl,_,rfl,sqt_K tt_FORMS_0 tv_FORMS_0 (by decide)⟩ (.cons ⟨rfl,_,rfl,sqt_K tt_FORMS_1 tv_FORMS_1 (by decide)⟩ (.cons ⟨rfl,_,rfl,sqt_K tt_FORMS_2 tv_FORMS_2 (by decide)⟩ (.cons ⟨rfl,_,rfl,sqt_K tt_FORMS_3 tv_FORMS_3 (by decide)⟩ (.cons ⟨rfl,_,rfl,sqt_K tt_FORMS_4 tv_FORMS_4 (by decide)⟩ (.cons ⟨rfl,_,rfl,sqt_K tt_FORMS_5 tv_FORMS_5 (by decide)⟩ (.cons ⟨rfl,_,rfl,sqt_K tt_FORMS_6 tv_FORMS_6 (by decide)⟩ (.cons ⟨rfl,_,rfl,sqt_K tt_FORMS_7 tv_FORMS_7 (by decide)⟩ (.cons ⟨rfl,_,rfl,sqt_K tt_FORMS_8 tv_FORMS_8 (by decide)⟩ (.cons ⟨rfl,_,rfl,sqt_K tt_FORMS_9 tv_FORMS_9 (by decide)⟩ (.nil)))))))))),tb_DEEDS,[("plays", .ref f17),("at", .ref f18),("turn", .ref f21),("grab", .ref fx_grabbed_at)],PySem.W.mg_of X G tn_DEEDS,⟨es_DEEDS,dn_DEEDS,tl_DEEDS,tk_DEEDS,ts_DEEDS,tp_DEEDS⟩,.cons ⟨rfl,_,rfl,PySem.W.mg_of X G a17⟩ (.cons ⟨rfl,_,rfl,PySem.W.mg_of X G a18⟩ (.cons ⟨rfl,_,rfl,PySem.W.mg_of X G a21⟩ (.cons ⟨rfl,_,rfl,PySem.W.mg_of X G nx_grabbed_at⟩ (.nil)))),tb_ANSWERS,[("where", .ref f19),("ways", .ref f20),("least", .ref f38),("text", .ref f37),("range", .ref fx_range_text)],PySem.W.mg_of X G tn_ANSWERS,⟨es_ANSWERS,dn_ANSWERS,tl_ANSWERS,tk_ANSWERS,ts_ANSWERS,tp_ANSWERS⟩,.cons ⟨rfl,_,rfl,PySem.W.mg_of X G a19⟩ (.cons ⟨rfl,_,rfl,PySem.W.mg_of X G a20⟩ (.cons ⟨rfl,_,rfl,PySem.W.mg_of X G a38⟩ (.cons ⟨rfl,_,rfl,PySem.W.mg_of X G a37⟩ (.cons ⟨rfl,_,rfl,PySem.W.mg_of X G nx_range_text⟩ (.nil)))))⟩
 let Y:Own K mg:=⟨jDe,PySem.W.mg_of X G w_Desk,pg_Desk,hd_Desk,po_Desk,sa_Desk,mk_Desk,kc_Desk,jDg⟩
 have F_law_a_kin:=fun_mk (st:=Gq18) l0 c0 b0
 have D_law_a_kin:Def K mg "_law_a_kin" Gq18:=⟨_,_,F_law_a_kin,W.mg_of X G a0⟩
 have F_law_due_kin:=fun_mk (st:=Gq19) l1 c1 b1
 have D_law_due_kin:Def K mg "_law_due_kin" Gq19:=⟨_,_,F_law_due_kin,W.mg_of X G a1⟩
 have F_is_number:=fun_mk (st:=Gq0) l2 c2 b2
 have D_is_number:Def K mg "is_number" Gq0:=⟨_,_,F_is_number,W.mg_of X G a2⟩
 have F_are_numbers:=fun_mk (st:=Gq1) l3 c3 b3
 have D_are_numbers:Def K mg "are_numbers" Gq1:=⟨_,_,F_are_numbers,W.mg_of X G a3⟩
 have F_numbers_of:=fun_mk (st:=Gq2) l4 c4 b4
 have D_numbers_of:Def K mg "numbers_of" Gq2:=⟨_,_,F_numbers_of,W.mg_of X G a4⟩
 have F_written:=fun_mk (st:=Gq28) l5 c5 b5
 have D_written:Def K mg "written" Gq28:=⟨_,_,F_written,W.mg_of X G a5⟩
 have F_has_form:=fun_mk (st:=Gq3) l6 c6 b6
 have D_has_form:Def K mg "has_form" Gq3:=⟨_,_,F_has_form,W.mg_of X G a6⟩
 have F_parted:=fun_mk (st:=Gq4) l7 c7 b7
 have D_parted:Def K mg "parted" Gq4:=⟨_,_,F_parted,W.mg_of X G a7⟩
 have F_is_train:=fun_mk (st:=Gq29) l8 c8 b8
 have D_is_train:Def K mg "is_train" Gq29:=⟨_,_,F_is_train,W.mg_of X G a8⟩
 have F_keeps_plays:=fun_mk (st:=Gq30) l9 c9 b9
 have D_keeps_plays:Def K mg "keeps_plays" Gq30:=⟨_,_,F_keeps_plays,W.mg_of X G a9⟩
 have F_dragged:=fun_mk (st:=Gq31) l10 c10 b10
 have D_dragged:Def K mg "dragged" Gq31:=⟨_,_,F_dragged,W.mg_of X G a10⟩
 have F_all_dragged:=fun_mk (st:=Gq32) l11 c11 b11
 have D_all_dragged:Def K mg "all_dragged" Gq32:=⟨_,_,F_all_dragged,W.mg_of X G a11⟩
 have F_refuse_no_train:=fun_mk (st:=Gq33) l12 c12 b12
 have D_refuse_no_train:Def K mg "refuse_no_train" Gq33:=⟨_,_,F_refuse_no_train,W.mg_of X G a12⟩
 have F_is_stand:=fun_mk (st:=Gq34) l13 c13 b13
 have D_is_stand:Def K mg "is_stand" Gq34:=⟨_,_,F_is_stand,W.mg_of X G a13⟩
 have F_refuse_no_stand:=fun_mk (st:=Gq35) l14 c14 b14
 have D_refuse_no_stand:Def K mg "refuse_no_stand" Gq35:=⟨_,_,F_refuse_no_stand,W.mg_of X G a14⟩
 have F_farther:=fun_mk (st:=Gq36) l15 c15 b15
 have D_farther:Def K mg "farther" Gq36:=⟨_,_,F_farther,W.mg_of X G a15⟩
 have F_run_of:=fun_mk (st:=Gq37) l16 c16 b16
 have D_run_of:Def K mg "run_of" Gq37:=⟨_,_,F_run_of,W.mg_of X G a16⟩
 have F_new_train:=fun_mk (st:=Gq38) l17 c17 b17
 have D_new_train:Def K mg "new_train" Gq38:=⟨_,_,F_new_train,W.mg_of X G a17⟩
 have F_set_down:=fun_mk (st:=Gq39) l18 c18 b18
 have D_set_down:Def K mg "set_down" Gq39:=⟨_,_,F_set_down,W.mg_of X G a18⟩
 have F_where_text:=fun_mk (st:=Gq40) l19 c19 b19
 have D_where_text:Def K mg "where_text" Gq40:=⟨_,_,F_where_text,W.mg_of X G a19⟩
 have F_ways_text:=fun_mk (st:=Gq41) l20 c20 b20
 have D_ways_text:Def K mg "ways_text" Gq41:=⟨_,_,F_ways_text,W.mg_of X G a20⟩
 have F_turned_by:=fun_mk (st:=Gq42) l21 c21 b21
 have D_turned_by:Def K mg "turned_by" Gq42:=⟨_,_,F_turned_by,W.mg_of X G a21⟩
 have F_Desk_state:=fun_mk (st:=Gq10) l22 c22 b22
 have D_Desk_state:DefM K Y.jDe "state" "Desk.state" Gq10:=⟨_,_,F_Desk_state,⟨a22,i22,b22⟩⟩
 have F_Desk_take_back:=fun_mk (st:=Gq7) l23 c23 b23
 have D_Desk_take_back:DefM K Y.jDe "take_back" "Desk.take_back" Gq7:=⟨_,_,F_Desk_take_back,⟨a23,i23,b23⟩⟩
 have F_Desk_do:=fun_mk (st:=Gq8) l24 c24 b24
 have D_Desk_do:DefM K Y.jDe "do" "Desk.do" Gq8:=⟨_,_,F_Desk_do,⟨a24,i24,b24⟩⟩
 have F_shown:=fun_mk (st:=Gq43) l25 c25 b25
 have D_shown:Def K mg "shown" Gq43:=⟨_,_,F_shown,W.mg_of X G a25⟩
 have F_depths_of:=fun_mk (st:=Gq44) l26 c26 b26
 have D_depths_of:Def K mg "depths_of" Gq44:=⟨_,_,F_depths_of,W.mg_of X G a26⟩
 have F_pieces_of:=fun_mk (st:=Gq45) l27 c27 b27
 have D_pieces_of:Def K mg "pieces_of" Gq45:=⟨_,_,F_pieces_of,W.mg_of X G a27⟩
 have F_must_place:=fun_mk (st:=Gq46) l28 c28 b28
 have D_must_place:Def K mg "must_place" Gq46:=⟨_,_,F_must_place,W.mg_of X G a28⟩
 have F_side_to_go:=fun_mk (st:=Gq47) l29 c29 b29
 have D_side_to_go:Def K mg "side_to_go" Gq47:=⟨_,_,F_side_to_go,W.mg_of X G a29⟩
 have F_is_beyond:=fun_mk (st:=Gq48) l30 c30 b30
 have D_is_beyond:Def K mg "is_beyond" Gq48:=⟨_,_,F_is_beyond,W.mg_of X G a30⟩
 have F_first_musts:=fun_mk (st:=Gq49) l31 c31 b31
 have D_first_musts:Def K mg "first_musts" Gq49:=⟨_,_,F_first_musts,W.mg_of X G a31⟩
 have F_way_of:=fun_mk (st:=Gq50) l32 c32 b32
 have D_way_of:Def K mg "way_of" Gq50:=⟨_,_,F_way_of,W.mg_of X G a32⟩
 have F_refuse_no_errand:=fun_mk (st:=Gq51) l33 c33 b33
 have D_refuse_no_errand:Def K mg "refuse_no_errand" Gq51:=⟨_,_,F_refuse_no_errand,W.mg_of X G a33⟩
 have F_paper_of:=fun_mk (st:=Gq52) l34 c34 b34
 have D_paper_of:Def K mg "paper_of" Gq52:=⟨_,_,F_paper_of,W.mg_of X G a34⟩
 have F_least_row:=fun_mk (st:=Gq53) l35 c35 b35
 have D_least_row:Def K mg "least_row" Gq53:=⟨_,_,F_least_row,W.mg_of X G a35⟩
 have F_least_of:=fun_mk (st:=Gq54) l36 c36 b36
 have D_least_of:Def K mg "least_of" Gq54:=⟨_,_,F_least_of,W.mg_of X G a36⟩
 have F_train_text:=fun_mk (st:=Gq55) l37 c37 b37
 have D_train_text:Def K mg "train_text" Gq55:=⟨_,_,F_train_text,W.mg_of X G a37⟩
 have F_least_text:=fun_mk (st:=Gq56) l38 c38 b38
 have D_least_text:Def K mg "least_text" Gq56:=⟨_,_,F_least_text,W.mg_of X G a38⟩
 have F_Desk_tell:=fun_mk (st:=Gq9) l39 c39 b39
 have D_Desk_tell:DefM K Y.jDe "tell" "Desk.tell" Gq9:=⟨_,_,F_Desk_tell,⟨a39,i39,b39⟩⟩
 have F_Desk_say:=fun_mk (st:=Gq6) l40 c40 b40
 have D_Desk_say:DefM K Y.jDe "say" "Desk.say" Gq6:=⟨_,_,F_Desk_say,⟨a40,i40,b40⟩⟩
 have F_Desk___init__:=fun_mk (st:=Gq5) l41 c41 b41
 have D_Desk___init__:DefM K Y.jDe "__init__" "Desk.__init__" Gq5:=⟨_,_,F_Desk___init__,⟨a41,i41,b41⟩⟩
 have F_law_said:=fun_mk (st:=Gq25) l42 c42 b42
 have D_law_said:Def K mg "_law_said" Gq25:=⟨_,_,F_law_said,W.mg_of X G a42⟩
 have F_law_a_number:=fun_mk (st:=Gq13) l43 c43 b43
 have D_law_a_number:Def K mg "_law_a_number" Gq13:=⟨_,_,F_law_a_number,W.mg_of X G a43⟩
 have F_law_a_words:=fun_mk (st:=Gq14) l44 c44 b44
 have D_law_a_words:Def K mg "_law_a_words" Gq14:=⟨_,_,F_law_a_words,W.mg_of X G a44⟩
 have F_law_a_numbers:=fun_mk (st:=Gq15) l45 c45 b45
 have D_law_a_numbers:Def K mg "_law_a_numbers" Gq15:=⟨_,_,F_law_a_numbers,W.mg_of X G a45⟩
 have F_law_keeps:=fun_mk (st:=Gq16) l46 c46 b46
 have D_law_keeps:Def K mg "_law_keeps" Gq16:=⟨_,_,F_law_keeps,W.mg_of X G a46⟩
 have F_law_all:=fun_mk (st:=Gq12) l47 c47 b47
 have D_law_all:Def K mg "_law_all" Gq12:=⟨_,_,F_law_all,W.mg_of X G a47⟩
 have F_law_a_behind:=fun_mk (st:=Gq22) l48 c48 b48
 have D_law_a_behind:Def K mg "_law_a_behind" Gq22:=⟨_,_,F_law_a_behind,W.mg_of X G a48⟩
 have F_law_a_least:=fun_mk (st:=Gq20) l49 c49 b49
 have D_law_a_least:Def K mg "_law_a_least" Gq20:=⟨_,_,F_law_a_least,W.mg_of X G a49⟩
 have F_law_spoilt:=fun_mk (st:=Gq17) l50 c50 b50
 have D_law_spoilt:Def K mg "_law_spoilt" Gq17:=⟨_,_,F_law_spoilt,W.mg_of X G a50⟩
 have F_law_answer:=fun_mk (st:=Gq21) l51 c51 b51
 have D_law_answer:Def K mg "_law_answer" Gq21:=⟨_,_,F_law_answer,W.mg_of X G a51⟩
 have F_law_read_row:=fun_mk (st:=Gq24) l52 c52 b52
 have D_law_read_row:Def K mg "_law_read_row" Gq24:=⟨_,_,F_law_read_row,W.mg_of X G a52⟩
 have F_law_row_drawn:=fun_mk (st:=Gq23) l53 c53 b53
 have D_law_row_drawn:Def K mg "_law_row_drawn" Gq23:=⟨_,_,F_law_row_drawn,W.mg_of X G a53⟩
 have F_law_stands:=fun_mk (st:=Gq26) l54 c54 b54
 have D_law_stands:Def K mg "_law_stands" Gq26:=⟨_,_,F_law_stands,W.mg_of X G a54⟩
 have F_law_draws:=fun_mk (st:=Gq11) l55 c55 b55
 have D_law_draws:Def K mg "_law_draws" Gq11:=⟨_,_,F_law_draws,W.mg_of X G a55⟩
 have F_law:=fun_mk (st:=Gq27) l56 c56 b56
 have D_law:Def K mg "law" Gq27:=⟨_,_,F_law,W.mg_of X G a56⟩
 refine⟨PySem.W.fnOf "law" "law" (defArgs Gq27) (defBody Gq27) (defScope Gq27) .none k56 d56 p56 n56 e56 t56,fun s v=>.of_eq rfl,fun base _ _=>?_⟩
 have Cq18:=Oq18 (P:=l.prog) (w:=w) (base:=base) T Z D_law_a_kin
 have Cq19:=Oq19 (P:=l.prog) (w:=w) (base:=base) T D_law_due_kin
 have Cq0:=Oq0 (P:=l.prog) (w:=w) (base:=base) T D_is_number
 have Cq1:=Oq1 (P:=l.prog) (w:=w) (base:=base) T D_are_numbers (Cq0:=Cq0)
 have Cq2:=Oq2 (P:=l.prog) (w:=w) (base:=base) T D_numbers_of
 have Cq28:=Oq28 (P:=l.prog) (w:=w) (base:=base) T D_written
 have Cq3:=Oq3 (P:=l.prog) (w:=w) (base:=base) T M D_has_form (Cq1:=Cq1)
 have Cq4:=Oq4 (P:=l.prog) (w:=w) (base:=base) T Z D_parted (Cq3:=Cq3) (Cq2:=Cq2)
 have Cq29:=Oq29 (P:=l.prog) (w:=w) (base:=base) T D_is_train
 have Cq30:=Oq30 (P:=l.prog) (w:=w) (base:=base) T D_keeps_plays
 have Cq31:=Oq31 (P:=l.prog) (w:=w) (base:=base) T D_dragged
 have Cq32:=Oq32 (P:=l.prog) (w:=w) (base:=base) T D_all_dragged (Cq31:=Cq31)
 have Cq33:=Oq33 (P:=l.prog) (w:=w) (base:=base) T Z D_refuse_no_train (Cq29:=Cq29)
 have Cq34:=Oq34 (P:=l.prog) (w:=w) (base:=base) T Z D_is_stand (Cq33:=Cq33) (Cq30:=Cq30)
 have Cq35:=Oq35 (P:=l.prog) (w:=w) (base:=base) T Z D_refuse_no_stand (Cq34:=Cq34)
 have C0_refuse_no_stand:=calm_refuse_no_stand Cq35
 have Cq36:=Oq36 (P:=l.prog) (w:=w) (base:=base) T D_farther
 have Cq37:=Oq37 (P:=l.prog) (w:=w) (base:=base) T D_run_of (Cq35:=C0_refuse_no_stand) (Cq32:=Cq32)
 have Cq38:=Oq38 (P:=l.prog) (w:=w) (base:=base) T Z D_new_train (Cq33:=Cq33)
 have Cq39:=Oq39 (P:=l.prog) (w:=w) (base:=base) T Z D_set_down (Cq35:=Cq35)
 have Cq40:=Oq40 (P:=l.prog) (w:=w) (base:=base) T D_where_text (Cq28:=Cq28)
 have Cq41:=Oq41 (P:=l.prog) (w:=w) (base:=base) T D_ways_text (Cq28:=Cq28)
 have Cq42:=Oq42 (P:=l.prog) (w:=w) (base:=base) T D_turned_by (Cq37:=Cq37) (Cq36:=Cq36)
 have Cq10:=Oq10 (P:=l.prog) (w:=w) (base:=base) T Z Y D_Desk_state
 have Cq7:=Oq7 (P:=l.prog) (w:=w) (base:=base) T Z Y D_Desk_take_back
 have Cq8:=Oq8 (P:=l.prog) (w:=w) (base:=base) T Z Y M D_Desk_do (Cq10:=Cq10) (Cq38:=Cq38) (Cq39:=Cq39) (Cq42:=Cq42)
 have Cq43:=Oq43 (P:=l.prog) (w:=w) (base:=base) T Z D_shown (Cq35:=Cq35) (Cq28:=Cq28)
 have Cq44:=Oq44 (P:=l.prog) (w:=w) (base:=base) T Z D_depths_of (Cq33:=Cq33)
 have C0_depths_of:=calm_depths_of Cq44
 have Cq45:=Oq45 (P:=l.prog) (w:=w) (base:=base) T D_pieces_of
 have Cq46:=Oq46 (P:=l.prog) (w:=w) (base:=base) T D_must_place (Cq35:=C0_refuse_no_stand) (Cq45:=Cq45) (Cq44:=C0_depths_of)
 have Cq47:=Oq47 (P:=l.prog) (w:=w) (base:=base) T D_side_to_go (Cq45:=Cq45)
 have Cq48:=Oq48 (P:=l.prog) (w:=w) (base:=base) T D_is_beyond (Cq45:=Cq45) (Cq44:=C0_depths_of) (Cq46:=Cq46)
 have Cq49:=Oq49 (P:=l.prog) (w:=w) (base:=base) T D_first_musts (Cq47:=Cq47)
 have Cq50:=Oq50 (P:=l.prog) (w:=w) (base:=base) T D_way_of
 have Cq51:=Oq51 (P:=l.prog) (w:=w) (base:=base) T Z D_refuse_no_errand (Cq35:=Cq35)
 have Cq52:=Oq52 (P:=l.prog) (w:=w) (base:=base) T Z D_paper_of (Cq51:=Cq51) (Cq49:=Cq49) (Cq48:=Cq48)
 have Cq53:=Oq53 (P:=l.prog) (w:=w) (base:=base) T Z D_least_row (Cq52:=Cq52) (Cq46:=Cq46)
 have Cq54:=Oq54 (P:=l.prog) (w:=w) (base:=base) T Z D_least_of (Cq50:=Cq50) (Cq53:=Cq53)
 have Cq55:=Oq55 (P:=l.prog) (w:=w) (base:=base) T Z D_train_text (Cq43:=Cq43)
 have Cq56:=Oq56 (P:=l.prog) (w:=w) (base:=base) T Z D_least_text (Cq53:=Cq53) (Cq28:=Cq28) (Cq54:=Cq54)
 have Cq9:=Oq9 (P:=l.prog) (w:=w) (base:=base) T Z Y M D_Desk_tell (Cq40:=Cq40) (Cq41:=Cq41) (Cq55:=Cq55) (Cq56:=Cq56) (Cq10:=Cq10)
 have Cq6:=Oq6 (P:=l.prog) (w:=w) (base:=base) T Z Y M D_Desk_say (Cq4:=Cq4) (Cq7:=Cq7) (Cq8:=Cq8) (Cq9:=Cq9)
 have Cq5:=Oq5 (P:=l.prog) (w:=w) (base:=base) T Y D_Desk___init__
 have Cq340:=CalleeM.made (x := "Desk") Cq5 Y.mk_Desk Y.kc_Desk Y.jDf
 have Cq25:=Oq25 (P:=l.prog) (w:=w) (base:=base) T Z Y D_law_said (Cq6:=Cq6) (Cq18:=Cq18)
 have Cq13:=Oq13 (P:=l.prog) (w:=w) (base:=base) T D_law_a_number
 have Cq14:=Oq14 (P:=l.prog) (w:=w) (base:=base) T D_law_a_words
 have Cq15:=Oq15 (P:=l.prog) (w:=w) (base:=base) T D_law_a_numbers (Cq13:=Cq13)
 have Cq16:=Oq16 (P:=l.prog) (w:=w) (base:=base) T D_law_keeps
 have Cq12:=Oq12 (P:=l.prog) (w:=w) (base:=base) T D_law_all
 have Cq22:=Oq22 (P:=l.prog) (w:=w) (base:=base) T D_law_a_behind (Cq12:=Cq12)
 have Cq20:=Oq20 (P:=l.prog) (w:=w) (base:=base) T D_law_a_least
 have Cq17:=Oq17 (P:=l.prog) (w:=w) (base:=base) T D_law_spoilt
 have Cq21:=Oq21 (P:=l.prog) (w:=w) (base:=base) T D_law_answer (Cq14:=Cq14) (Cq20:=Cq20)
 have Cq24:=Oq24 (P:=l.prog) (w:=w) (base:=base) T D_law_read_row (Cq15:=Cq15) (Cq16:=Cq16)
 have Cq23:=Oq23 (P:=l.prog) (w:=w) (base:=base) T D_law_row_drawn (Cq14:=Cq14)
 have Cq26:=Oq26 (P:=l.prog) (w:=w) (base:=base) T Z Y D_law_stands (Cq25:=Cq25) (Cq19:=Cq19) (Cq21:=Cq21)
 have Cq11:=Oq11 (P:=l.prog) (w:=w) (base:=base) T D_law_draws
 exact Oq27 F_law T Z Y (Cq340:=Cq340) (Cq11:=Cq11) (Cq23:=Cq23) (Cq17:=Cq17) (Cq24:=Cq24) (Cq25:=Cq25) (Cq19:=Cq19) (Cq21:=Cq21) (Cq22:=Cq22) (Cq26:=Cq26)
theorem walk {l:PySem.W.OpenLaw} {q:Program} {loose:List Str} {XP:(Str->Option Value)->Heap->Prop} {YP:World->Heap->Prop} {d:DefRec} {K:Params->PySem.W.Frag} (hn:l.most=some 63) (hdf:d.params.defaults=[])
 (hY:∀ (w:World) (h:Heap),YP w h->(K w.params).In h)
 (F:∀ (w:World) (mg:Str->Option Value) (fa:Addr) (h:Heap),(K w.params).In h->h.Ns mainGlobals mg->mg d.name=some (.ref fa) ->
  ∃ fd:FuncData,(∀ (s:Shared) (u:Value),BindsTo s fd ⟨[u],[]⟩ [("script", u)])/\∀ base:Heap,(K w.params).In base->base.Ns mainGlobals mg->FnOk l.prog w (K w.params) mg base CX0 15 fa fd ["script"] (spLaw (K w.params))) :
 PySem.W.WalkO q loose XP YP l.row.toRowW d [] (fun f vs=>PySem.call f vs) :=
 L2.walk_of (n:=63) (k:=15) (x := "script") (CX:=fun _=>CX0) (sp:=fun w=>spLaw (K w.params)) hn (by decide) hdf ⟨rfl,by decide,by decide⟩ hY F (fun _ _ a ns hl _ hS=>⟨a,ns,rfl,hS,hl,fun _=>rfl⟩) fun _ _ _ _ _ z=>z
end My
structure PySem.W.Fast:Prop where (tw6604044467652556311 tw4832790215541276186 tw813804946870342049 tw5560609405812468946 tw10656497882408346893 tw3075012994879019576 tw10414552580747383509 tw16678684925364656861 tw13355444198233826703 tw14446294447278490843 tw11371932144762595431 tw603777991767280069 tw16421108209635413449 tw33817056117834827 tw517519929877942419 tw8904384245669008636 tw3607147802227725490 tw1773895208904627005 tw6615776431152978539 tw12005344065081960505 tw15329807823800960976 tw512005401578795496 tw9562723294104634053 tw2167767278027197654 tw7871298320399976931 tw4184810784762886325 tw6409547889079495403 tw9891748920343716134 tw8731568179532147936 tw7800660237467738306 tw9823175984462416615 tw2484432379317127836 tw17365266000837420609 tw10179078460222083842 tw8317389785246331195 tw14172878792822214444 tw9249255170133201347 tw8397523950990329470 tw9859676016230228738 tw12973306438868890978 tw6019153133359140354 tw1739149679704775512 tw12437395169868420917 tw4228357734539632418 tw5684461937822076835 tw6846693013781744818 tw14725884654986786696 tw1795410279873913058 tw9463223491916634296 tw18209556886535521606 tw14386296565875576785 tw714647503484245613 tw14367303236615926600 tw1538378891132726458 tw4671424878786879198 tw14145320643731485714 tw3315208473377836503 tw14179497365322174539 tw11873197308676548646 tw9649943053081048640 tw17402933748633986063 tw8115171953095415652 tw2074785002169687278 tw8278108279076956618 tw4938264797871326542 tw11046950608288186362 tw9241646835509522283 tw12448738531482883416 tw6013610025960118373 tw15625884573213460290 tw291605599644625027 tw6184960479700663534 tw2583015344935269750 tw1539272540431644251 tw16351153540403060992 tw3774923649686863600 tw1147830234234846078 tw1583537071525529114 tw15902284113277038440 tw10268578512987798198 tw8417783340942604899 tw4795826639865163546 tw7805047658623944543 tw14212729768464998907 tw16861598230347805044 tw13955414621535752995 tw2653989132457753368 tw5598529588206480546 tw11793527743951864619 tw12795920725582969597 tw4318963126814825850 tw14551030389424349572 tw8706370647537269650 tw14894314388988920911 tw6135168854162666954 tw3665485367082241907 tw7525024669386257308 tw1232716231682269175 tw9002217531850564008 tw10042860803434389183 tw9904396086856829013 tw10463888770024369259 tw17455527692521002085 tw2127211535207766766 tw16447583997706375660 tw7731098639369087346 tw9329277633730997581 tw2319024953882600449 tw5772130538525763250 tw6580529516926469539 tw5610692258066991901 tw978530347258283391 tw15460876964634140577 tw3065954561484993908 tw14007808886761341205 tw13507380516645020556 tw9181543521167078163 tw8859029067515551939 tw5291249876683736635 tw15979072493463871654 tw9529914639855576477 tw11919832569767170622 tw17366253155845732952 tw5570543618157747889 tw7334008265099484821 tw849219114943773354 tw7375483622591276654 tw6503584825630202749 tw9401886292567381005 tw2859975027740553057 tw17950803514993926436 tw7792042758896375677 tw9102469276091305414 tw3418339177355444199 tw8042080922909648301 tw1431675334947452754 tw7872699045281936139 tw9673000529222523563 tw14931261237294702009 tw271676891130814497 tw14386936366884724298 tw15494419700493580247 tw15522951600013813006 tw14346263970435239542 tw6873959914733553809 tw12959649127836057554 tw16332882659311527474 tw17492262815987433154 tw10811602085782314539 tw404176016933246980 tw10038871623491108486 tw2116095197107377315 tw5177023824243014760 tw14508628289105188233 tw15933861447656849203 tw132764661898289859 tw14097649072031473632 tw3888093540239640836 tw6592612448884552177 tw4385688865165601228 tw12701402702399678138 tw1989195333853349056 tw14944029356484976582 tw1925742587773981075 tw12187217542165021023 tw9939754247570112817 tw17437784565413902472 tw10975464590531150131 tw6055548944167343570 tw15807535502885104479 tw15427754527044843157 tw10268097028163848229 tw9301777964618473079 tw1871955185411489787 tw18007015593592494735 tw14460796082408157969 tw9684025825060330898 tw3767507501283261261 tw16296107560023217892 tw4436810644032606334 tw18110931555006895446 tw840049020223972139 tw9372226254090812233 tw7976624067922232006 tw7407100408925634172 tw404969516747261559 tw5143965359868544056 tw16766945728737127495 tw8199219123369828140 tw12905771654230376985 tw18099746821148584172 tw13796057388135635944 tw4686757445770087527 tw377481812862071677 tw6713367354921376421 tw9341834493279378222 tw16639238919862656237 tw10989576117157605785 tw3052763181459024034 tw6250734149642719834 tw11521892117801036091 tw14207695164345778636 tw6021955926002528279 tw10097470118184952999 tw3663684435695153588 tw18343366276847084969 tw10601842236561874328 tw13472389700587101181 tw17783817608026007836 tw2680216090720594870 tw448240849727200406 tw7679367613282672918 tw8284764278749630931 tw16246705918870463161 tw4304797034535045891 tw18132214875348241869 tw7906493716211004179 tw3532953081062243743 tw10394885541133409124 tw1922536953146379127 tw15953694706654423741 tw10578992553028320236 tw2119091981797174767 tw13310745454309916161 tw4397220869044704188 tw1450685849514827124 tw18231091034218923908 tw8367551724984854532 tw14287332229832655528 tw7144408433362242580 tw13381980804136510870 tw16543700021426113787 tw1458055803161473105 tw3483073045828822058 tw5552626004558369760 tw3889344878591383507 tw10736565286102986563 tw17078338561432726371 tw7243148766913869826 tw281879916712641801 tw10259374301262313245 tw1467748851794698513 tw7162386772131981577 tw3909615153681594724 tw2996366801131432581 tw3595082851176830495 tw13270315327879330664 tw17535444749775072817 tw12567891877877650551 tw17373942360845137563 tw160115528382722259 tw16774538977648932457 tw15078247435580371702 tw16345143300614676919 tw3609467465555846543 tw12495987791883894470 tw12361844151843423840 tw1305461268022958372 tw8380067790127244490 tw4591557418608035605 tw17480788330212706242 tw14563669788726549633 tw13805469891220814928 tw5719838530345264476 tw9239034046230493294 tw15167513014073348457 tw2656333131339213158 tw746077313614550143 tw11606083179895788775 tw2661033820387315068 tw3497695912230623862 tw8579050886916064748 tw18387093318162417088 tw3737861937856102795 tw3741176763565147548 tw18100430381714610108 tw6439676879806241214 tw7270251912904404988 tw11762051408833448085 tw16970603149983168030 tw2225854011011021331 tw4613099642252241525 tw1241775217021318205 tw6314982052082180553 tw1754824169733872441 tw14040492618244745518 tw9727680253158387597 tw2604173387017454551 tw894505613384538764 tw13896846882517576956 tw11497326603645639472 tw14177483390574133919 tw6068986380873879798 tw1913599998606922799 tw5841140949362422038 tw5415458548470907664 tw11830077597880618977 tw3438576028709836274 tw10066498283915971973 tw10772999826796278600 tw11075977432181627886 tw13739994644409145630 tw6982555573594968073 tw3894572560828701947 tw7940237347494723774 tw9290131262298906834 tw9409057491600673404 tw3405155376912327962 tw14318610683287167629 tw4413049719792675059 tw5427101261050911711 tw4034672565154277250 tw5861936671074269186 tw16945324725593620487 tw12705117963047467634 tw4599110597685082058 tw11073609860791582752 tw2647532173492421072 tw10689233943631510701 tw8088691610881890493 tw4552053225680419691 tw16060974177461475634 tw9164209033761697867 tw13081382656489083910 tw5207239519874273980 tw6354104223395664303 tw6499778467637515534 tw9850722503798895550 tw10969582910652423188 tw16824822493955295744 tw5003648156236871691 tw8479040154234373592 tw8991331470343054520 tw9825957359412108253 tw4471222502479101261 tw5672499639046694835 tw2301261031074857702 tw14752789133136952387 tw12435150636964503039 tw16939402601717394072 tw2526013874391998195 tw1355560816569044072 tw15301497014424998329 tw1566718767421257163 tw3548277533583835285 tw2700854750349443617 tw7508145493812974860 tw15501121552561333604 tw11443033759012761535 tw11847868127891511028 tw6207461894167134127 tw15701263800932324068 tw8765033273538463764 tw3940846740532660801 tw17649778698642032279 tw6105374592153825089 tw9869790625649665163 tw4555101488695510090 tw6058180640512731206 tw2697450518589542678 tw13298570360538447827 tw14283856622994520452 tw10132293741647798420 tw9701663774242211855 tw3907292887456821378 tw5437823109174133394 tw4766493635691203386 tw9940706620764873357 tw13589491251610999526 tw8311584645978704586 tw16940977606598290955 tw13753509025097359220 tw4923119297698953947 tw9384608308158450744 tw4420017712003981753 tw14170745274059586455 tw2316773202348720654 tw15789652993148129624 tw12311862203419396697 tw6893234543782734984 tw8145515871140500422 tw11643015577391338921 tw10015900420954002925 tw6754832957116165491 tw11380293044774237704 tw2435343974381307770 tw12677958149336760059 tw6746348464757288693 tw1814189114640594709 tw2544490725645257828 tw2393981798875247812 tw6593757121948250418 tw833727656835180438 tw12091658724307789071 tw5811309110458938487 tw3871530322003044287 tw14000790553486862272 tw11654834239401030824 tw2221029339097727992 tw7118242807114394427 tw9440503761996750019 tw8993438861068971890 tw8258610911191807675 tw10026308015432981914 tw3208623196100734830 tw2963915734539491731 tw14649952657658245766 tw7082680469831226058 tw11385085952149699926 tw10013050184735795339 tw5470727296900044195 tw2686868190531011968 tw954283063582430038 tw11250716689569489862 tw8173247908893930457 tw16416791557564031750 tw1903452142911306771 tw13798624285553980776 tw905066132682889136 tw7362647754101157503 tw12140363426762630053 tw282300204500807556 tw9519858925492697417 tw14941397316755119862 tw5657890591480279256 tw14925205793254321575 tw9634280141709588050 tw6432866461215961911 tw16804113429264383089 tw16638220101811650793 tw492829482788281027 tw12728962651448617608 tw9454494703943681243 tw11870306499660109804 tw14128788968474485606 tw6887058632282126960 tw106031363862261175 tw10209421143657525640 tw11291652342970894496 tw11257551153290937881 tw17766594781425558230 tw1486575941969690665 tw13396218248531958333 tw10862396825867958488 tw12218653376717183147 tw2576215233786015964 tw9481467575562030585 tw12874806218370129609 tw12478221337947531028 tw7760411517616403970 tw10293266437919379391 tw15604271735476951516 tw132788780737033304 tw7808716136004602109 tw18011602166410122764 tw6336961323655128222 tw6940790293579237595 tw14877056568128184781 tw8854224324951580898 tw7692624670098000914 tw17251879545789583010 tw7709606094436090663 tw4225107816618278129 tw5382292478147385171 tw17770020499142829260 tw5170697662518764653 tw15354171252392018957 tw12198178063095721501 tw4850007212624755653 tw17245382034687503495 tw10646995787806758787 tw9678571459383100717 tw8427697817937451728 tw15008269352514785159 tw11305132815939731194 tw14070860859834039700 tw2341602593292554149 tw9289755558485106225 tw11370538668397625062 tw13666373741889856821 tw9278860426722582115 tw12315246954316633469 tw12805629324072532324 tw11958555852133602161 tw133859460410217649 tw193632572599339714 tw8530167997399784524 tw5284340497292441011 tw826697615482639523 tw9804475432074895061 tw9377688067927179581 tw2750648409927205340 tw15445387526292798754 tw3346087232802175137 tw17886681323851002067 tw13850801527767783971 tw5581287573163371775 tw8247185754629563823 tw9592637554072679595 tw15287957108123678078 tw15608582349629786072 tw11879092894239933984 tw7578656120229590847 tw11613956503252077826 tw1518101053395725440 tw9452347907138913835 tw3530985197968422299 tw10001443711771588485 tw7519512799883028072 tw1857628773341969414 tw8191568739722447466 tw3301418207264828215 tw299068910602027704 tw16056525279617792638 tw477884047208112380 tw14858392730641715912 tw2487019184793220916 tw11520810298617162703 tw3331741206794746153 tw13457979301175528756 tw13920650131135409782 tw7175310798431609890 tw10151052669062900843 tw6126540599918021670 tw16691539326522591476 tw18169683832767924702 tw15488634371034083531 tw13818401162173642841 tw13967242640382083824 tw5566432811611474180 tw13341190183826411763 tw6938877209701271143 tw2115395781299638070 tw4901812084326785056 tw4702951428468828134 tw12879516326149056085 tw13186652262870712427 tw7334110526220198061 tw12064376062921279415 tw7797975523050024787 tw15821222190486304513 tw163475152891403318 tw10898000673471879059 tw2440982590404495136 tw14903419352791784483 tw14694075312897678472 tw6999456311777333131 tw1287778033426582653 tw1511228086309881249 tw13238167433125557696 tw685879236749874277 tw5470546718392579226 tw10080573496923296357 tw1035331834221839658 tw18236154096312415028 tw11398262914563898599 tw9487116352300925765 tw17922103666729672485 tw5004660348002742263 tw11715770162277428225 tw12606344118924460910 tw10698886769108011042 tw13585021011547345527 tw15380397104077903568 tw10200054776143624572 tw1769915885591887825 tw2315310152869070084 tw16867156808337284098 tw5242139389547326582 tw11965856887817771662 tw10455743180376916773 tw16964719171277546743 tw10244289760115829917 tw11006583357510882411 tw16185717748789988916 tw3878471954663109274 tw13424767367208571883 tw15608577633181381309 tw7248823697420225547 tw10270342074151854204 tw13071986941357838479 tw17681000208857946814 tw10295079881653614603 tw384506608389555126 tw2213234882037946185 tw4078367448252226598 tw15690079972409981244 tw14564516669043735013 tw9969454605659426088 tw6084952080066208772 tw4729925639564314075 tw4375055016732056692 tw17571477159270969382 tw18012235873096652251 tw7186917517490071754 tw9603363355021399707 tw2172940784628576721 tw2569511057738447872 tw4056923847805161878 tw16126934940597482118 tw10187058850047585743 tw16026688726969127638 tw12589405577340922249 tw6192740383617268256 tw3526661188087400969 tw12100570151314185840 tw9838132743690652223 tw7058873883281642221 tw13166372988348343044 tw9490382693832991901 tw6231470268034528068 tw14870087026655552147 tw18030392893625927951 tw13641538578012170483 tw2138775345506057594 tw17158766075729417301 tw1630438371789073160 tw14919376369626727669 tw15592056314324856256 tw10286550613322072372:True)
open PySem PySem.W PyProof.Rows
set_option maxRecDepth 100000 in
set_option maxHeartbeats 0 in
theorem PySem.Challenge.cw_lugtrain_k32_whole_desk_rows_holds : PySem.Challenge.rw_lugtrain_k32_whole_desk_rows.Holds := by
 w_on; o_law; k_head; (case hw=>w_witness2)
 k_fill
 refine My.walk (l:=PySem.Challenge.rw_lugtrain_k32_whole_desk_rows) rfl rfl (fun w h Y=>PySem.W.kIn_of Y) ?F
 case F =>
  intro w mg fa h KX G hmg
  refine' My.all_mk KX G hmg ?a0 ?l0 ?c0 ?b0 ?a1 ?l1 ?c1 ?b1 ?a2 ?l2 ?c2 ?b2 ?a3 ?l3 ?c3 ?b3 ?a4 ?l4 ?c4 ?b4 ?a5 ?l5 ?c5 ?b5 ?a6 ?l6 ?c6 ?b6 ?a7 ?l7 ?c7 ?b7 ?a8 ?l8 ?c8 ?b8 ?a9 ?l9 ?c9 ?b9 ?a10 ?l10 ?c10 ?b10 ?a11 ?l11 ?c11 ?b11 ?a12 ?l12 ?c12 ?b12 ?a13 ?l13 ?c13 ?b13 ?a14 ?l14 ?c14 ?b14 ?a15 ?l15 ?c15 ?b15 ?a16 ?l16 ?c16 ?b16 ?a17 ?l17 ?c17 ?b17 ?a18 ?l18 ?c18 ?b18 ?a19 ?l19 ?c19 ?b19 ?a20 ?l20 ?c20 ?b20 ?a21 ?l21 ?c21 ?b21 ?a22 ?i22 ?l22 ?c22 ?b22 ?a23 ?i23 ?l23 ?c23 ?b23 ?a24 ?i24 ?l24 ?c24 ?b24 ?a25 ?l25 ?c25 ?b25 ?a26 ?l26 ?c26 ?b26 ?a27 ?l27 ?c27 ?b27 ?a28 ?l28 ?c28 ?b28 ?a29 ?l29 ?c29 ?b29 ?a30 ?l30 ?c30 ?b30 ?a31 ?l31 ?c31 ?b31 ?a32 ?l32 ?c32 ?b32 ?a33 ?l33 ?c33 ?b33 ?a34 ?l34 ?c34 ?b34 ?a35 ?l35 ?c35 ?b35 ?a36 ?l36 ?c36 ?b36 ?a37 ?l37 ?c37 ?b37 ?a38 ?l38 ?c38 ?b38 ?a39 ?i39 ?l39 ?c39 ?b39 ?a40 ?i40 ?l40 ?c40 ?b40 ?a41 ?i41 ?l41 ?c41 ?b41 ?a42 ?l42 ?c42 ?b42 ?a43 ?l43 ?c43 ?b43 ?a44 ?l44 ?c44 ?b44 ?a45 ?l45 ?c45 ?b45 ?a46 ?l46 ?c46 ?b46 ?a47 ?l47 ?c47 ?b47 ?a48 ?l48 ?c48 ?b48 ?a49 ?l49 ?c49 ?b49 ?a50 ?l50 ?c50 ?b50 ?a51 ?l51 ?c51 ?b51 ?a52 ?l52 ?c52 ?b52 ?a53 ?l53 ?c53 ?b53 ?a54 ?l54 ?c54 ?b54 ?a55 ?l55 ?c55 ?b55 ?a56 ?l56 ?c56 ?b56 ?z_ValueError ?z_abs ?z_all ?z_enumerate ?z_int ?z_isinstance ?z_len ?z_max ?z_min ?z_range ?z_str ?z_sum ?z_zip ?g_FIGURES ?g_MOST_FIGURES ?g_MOST_PLAYS ?w_Desk ?pg_Desk ?hd_Desk ?po_Desk ?sa_Desk ?mk_Desk ?kc_Desk ?jDg ?tn_FORMS ?tl_FORMS ?tk_FORMS ?ts_FORMS ?tp_FORMS ?tt_FORMS_0 ?tv_FORMS_0 ?tt_FORMS_1 ?tv_FORMS_1 ?tt_FORMS_2 ?tv_FORMS_2 ?tt_FORMS_3 ?tv_FORMS_3 ?tt_FORMS_4 ?tv_FORMS_4 ?tt_FORMS_5 ?tv_FORMS_5 ?tt_FORMS_6 ?tv_FORMS_6 ?tt_FORMS_7 ?tv_FORMS_7 ?tt_FORMS_8 ?tv_FORMS_8 ?tt_FORMS_9 ?tv_FORMS_9 ?tn_DEEDS ?tl_DEEDS ?tk_DEEDS ?ts_DEEDS ?nx_grabbed_at ?tp_DEEDS ?tn_ANSWERS ?tl_ANSWERS ?tk_ANSWERS ?ts_ANSWERS ?nx_range_text ?tp_ANSWERS ?n_TrainError ?n_NoTrain ?n_NoStand ?n_NoPaper ?n_NoBox ?n_NoSwitch ?n_NoPlace ?n_NoTable ?n_NoText ?n_NoRow ?n_NoPiece ?n_NothingLeft ?n_TooMany ?x_NoTrain ?jBa ?i_NoTrain_ga ?i_NoTrain_gt ?i_NoTrain_mb ?i_NoTrain_hd ?i_NoTrain_ca ?i_NoTrain_sp ?i_NoTrain_tk ?i_NoTrain_mr ?jBb ?jBc ?jBd ?jBe ?jBf ?jBg ?jBh ?jBi ?jBj ?jBk ?jBl ?jBm ?jBn ?x_NoStand ?jBo ?i_NoStand_ga ?i_NoStand_gt ?i_NoStand_mb ?i_NoStand_hd ?i_NoStand_ca ?i_NoStand_sp ?i_NoStand_tk ?i_NoStand_mr ?jBp ?jBq ?jBr ?jBs ?jBt ?jBu ?jBv ?jBw ?jBx ?jBy ?jBz ?jCa ?jCb ?x_NoRow ?jCc ?i_NoRow_ga ?i_NoRow_gt ?i_NoRow_mb ?i_NoRow_hd ?i_NoRow_ca ?i_NoRow_sp ?i_NoRow_tk ?i_NoRow_mr ?jCd ?jCe ?jCf ?jCg ?jCh ?jCi ?jCj ?jCk ?jCl ?jCm ?jCn ?jCo ?jCp ?x_NothingLeft ?jCq ?i_NothingLeft_ga ?i_NothingLeft_gt ?i_NothingLeft_mb ?i_NothingLeft_hd ?i_NothingLeft_ca ?i_NothingLeft_sp ?i_NothingLeft_tk ?i_NothingLeft_mr ?jCr ?jCs ?jCt ?jCu ?jCv ?jCw ?jCx ?jCy ?jCz ?jDa ?jDb ?jDc ?jDd
  (case w_Desk|a0|l0|c0|b0|a1|l1|c1|b1|a2|l2|c2|b2|a3|l3|c3|b3|a4|l4|c4|b4|a5|l5|c5|b5|a6|l6|c6|b6|a7|l7|c7|b7|a8|l8|c8|b8|a9|l9|c9|b9|a10|l10|c10|b10|a11|l11|c11|b11|a12|l12|c12|b12|a13|l13|c13|b13|a14|l14|c14|b14|a15|l15|c15|b15|a16|l16|c16|b16|a17|l17|c17|b17|a18|l18|c18|b18|a19|l19|c19|b19|a20|l20|c20|b20|a21|l21|c21|b21|a22|i22|l22|c22|b22|a23|i23|l23|c23|b23|a24|i24|l24|c24|b24|a25|l25|c25|b25|a26|l26|c26|b26|a27|l27|c27|b27|a28|l28|c28|b28|a29|l29|c29|b29|a30|l30|c30|b30|a31|l31|c31|b31|a32|l32|c32|b32|a33|l33|c33|b33|a34|l34|c34|b34|a35|l35|c35|b35|a36|l36|c36|b36|a37|l37|c37|b37|a38|l38|c38|b38|a39|i39|l39|c39|b39|a40|i40|l40|c40|b40|a41|i41|l41|c41|b41|a42|l42|c42|b42|a43|l43|c43|b43|a44|l44|c44|b44|a45|l45|c45|b45|a46|l46|c46|b46|a47|l47|c47|b47|a48|l48|c48|b48|a49|l49|c49|b49|a50|l50|c50|b50|a51|l51|c51|b51|a52|l52|c52|b52|a53|l53|c53|b53|a54|l54|c54|b54|a55|l55|c55|b55|a56|l56|c56|b56|z_ValueError|z_abs|z_all|z_enumerate|z_int|z_isinstance|z_len|z_max|z_min|z_range|z_str|z_sum|z_zip|g_FIGURES|g_MOST_FIGURES|g_MOST_PLAYS|pg_Desk|hd_Desk|po_Desk|sa_Desk|mk_Desk|kc_Desk|jDg|tn_FORMS|tl_FORMS=>first | k_is | (unfold My.FL;k_is))
  (case tk_FORMS=>k_keys)
  (case ts_FORMS=>decide)
  (case tp_FORMS=>exact .cons ⟨_,rfl,rfl⟩ (.cons ⟨_,rfl,rfl⟩ (.cons ⟨_,rfl,rfl⟩ (.cons ⟨_,rfl,rfl⟩ (.cons ⟨_,rfl,rfl⟩ (.cons ⟨_,rfl,rfl⟩ (.cons ⟨_,rfl,rfl⟩ (.cons ⟨_,rfl,rfl⟩ (.cons ⟨_,rfl,rfl⟩ (.cons ⟨_,rfl,rfl⟩ (.nil)))))))))))
  (case tt_FORMS_0=>k_is)
  (case tv_FORMS_0=>exact .cons ⟨_,rfl⟩ (.cons rfl (.nil)))
  (case tt_FORMS_1=>k_is)
  (case tv_FORMS_1=>exact .cons ⟨_,rfl⟩ (.cons rfl (.nil)))
  (case tt_FORMS_2=>k_is)
  (case tv_FORMS_2=>exact .cons ⟨_,rfl⟩ (.cons rfl (.nil)))
  (case tt_FORMS_3=>k_is)
  (case tv_FORMS_3=>exact .cons ⟨_,rfl⟩ (.cons ⟨_,rfl⟩ (.nil)))
  (case tt_FORMS_4=>k_is)
  (case tv_FORMS_4=>exact .cons ⟨_,rfl⟩ (.cons ⟨_,rfl⟩ (.nil)))
  (case tt_FORMS_5=>k_is)
  (case tv_FORMS_5=>exact .cons ⟨_,rfl⟩ (.cons rfl (.nil)))
  (case tt_FORMS_6=>k_is)
  (case tv_FORMS_6=>exact .cons ⟨_,rfl⟩ (.cons ⟨_,rfl⟩ (.nil)))
  (case tt_FORMS_7=>k_is)
  (case tv_FORMS_7=>exact .cons ⟨_,rfl⟩ (.cons ⟨_,rfl⟩ (.nil)))
  (case tt_FORMS_8=>k_is)
  (case tv_FORMS_8=>exact .cons ⟨_,rfl⟩ (.cons ⟨_,rfl⟩ (.nil)))
  (case tt_FORMS_9=>k_is)
  (case tv_FORMS_9=>exact .cons ⟨_,rfl⟩ (.cons ⟨_,rfl⟩ (.nil)))
  (case tn_DEEDS|tl_DEEDS=>first | k_is | (unfold My.FL;k_is))
  (case tk_DEEDS=>k_keys)
  (case ts_DEEDS=>decide)
  (case nx_grabbed_at=>k_is)
  (case tp_DEEDS=>exact .cons ⟨_,rfl,rfl⟩ (.cons ⟨_,rfl,rfl⟩ (.cons ⟨_,rfl,rfl⟩ (.cons ⟨_,rfl,rfl⟩ (.nil)))))
  (case tn_ANSWERS|tl_ANSWERS=>first | k_is | (unfold My.FL;k_is))
  (case tk_ANSWERS=>k_keys)
  (case ts_ANSWERS=>decide)
  (case nx_range_text=>k_is)
  (case tp_ANSWERS=>exact .cons ⟨_,rfl,rfl⟩ (.cons ⟨_,rfl,rfl⟩ (.cons ⟨_,rfl,rfl⟩ (.cons ⟨_,rfl,rfl⟩ (.cons ⟨_,rfl,rfl⟩ (.nil))))))
  (case n_TrainError|n_NoTrain|n_NoStand|n_NoPaper|n_NoBox|n_NoSwitch|n_NoPlace|n_NoTable|n_NoText|n_NoRow|n_NoPiece|n_NothingLeft|n_TooMany=>first | k_is | (unfold My.FL;k_is))
  (case x_NoTrain=>k_exc)
  (case jBa=>kts_exm)
  (case i_NoTrain_ga|i_NoTrain_gt|i_NoTrain_mb|i_NoTrain_hd|i_NoTrain_ca|i_NoTrain_sp|i_NoTrain_tk|i_NoTrain_mr=>first | k_is | (unfold My.FL;k_is))
  (case jBb=>kit_is)
  (case jBc=>kit_is)
  (case jBd=>kit_is)
  (case jBe=>kit_is)
  (case jBf=>kit_is)
  (case jBg=>kit_is)
  (case jBh=>kit_is)
  (case jBi=>kit_is)
  (case jBj=>kit_is)
  (case jBk=>kit_is)
  (case jBl=>kit_is)
  (case jBm=>kit_is)
  (case jBn=>kit_is)
  (case x_NoStand=>k_exc)
  (case jBo=>kts_exm)
  (case i_NoStand_ga|i_NoStand_gt|i_NoStand_mb|i_NoStand_hd|i_NoStand_ca|i_NoStand_sp|i_NoStand_tk|i_NoStand_mr=>first | k_is | (unfold My.FL;k_is))
  (case jBp=>kit_is)
  (case jBq=>kit_is)
  (case jBr=>kit_is)
  (case jBs=>kit_is)
  (case jBt=>kit_is)
  (case jBu=>kit_is)
  (case jBv=>kit_is)
  (case jBw=>kit_is)
  (case jBx=>kit_is)
  (case jBy=>kit_is)
  (case jBz=>kit_is)
  (case jCa=>kit_is)
  (case jCb=>kit_is)
  (case x_NoRow=>k_exc)
  (case jCc=>kts_exm)
  (case i_NoRow_ga|i_NoRow_gt|i_NoRow_mb|i_NoRow_hd|i_NoRow_ca|i_NoRow_sp|i_NoRow_tk|i_NoRow_mr=>first | k_is | (unfold My.FL;k_is))
  (case jCd=>kit_is)
  (case jCe=>kit_is)
  (case jCf=>kit_is)
  (case jCg=>kit_is)
  (case jCh=>kit_is)
  (case jCi=>kit_is)
  (case jCj=>kit_is)
  (case jCk=>kit_is)
  (case jCl=>kit_is)
  (case jCm=>kit_is)
  (case jCn=>kit_is)
  (case jCo=>kit_is)
  (case jCp=>kit_is)
  (case x_NothingLeft=>k_exc)
  (case jCq=>kts_exm)
  (case i_NothingLeft_ga|i_NothingLeft_gt|i_NothingLeft_mb|i_NothingLeft_hd|i_NothingLeft_ca|i_NothingLeft_sp|i_NothingLeft_tk|i_NothingLeft_mr=>first | k_is | (unfold My.FL;k_is))
  (case jCr=>kit_is)
  (case jCs=>kit_is)
  (case jCt=>kit_is)
  (case jCu=>kit_is)
  (case jCv=>kit_is)
  (case jCw=>kit_is)
  (case jCx=>kit_is)
  (case jCy=>kit_is)
  (case jCz=>kit_is)
  (case jDa=>kit_is)
  (case jDb=>kit_is)
  (case jDc=>kit_is)
  (case jDd=>kit_is)
