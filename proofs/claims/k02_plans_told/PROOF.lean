import PyProof.Rows.All
import Wide.All
import OpenK.AllK
import Wide.FinOn
import Lean
import PyProof.EqAt
import PyProof.EqKinds
import PyProof.TupleCall
import KE.KNest
import KE.KNestM
import PySem.Challenge.RW_cardlanes_k02_plans_told
set_option Elab.async false
set_option linter.all false
set_option maxRecDepth 100000
section
set_option Elab.async false
set_option linter.all false
set_option maxRecDepth 100000
namespace L2
open PySem PySem.Spec PyProof.Rows
abbrev Key:=Sum Int Str
def keyIs : Key->Value->Bool
 | .inl k,v=>Value.isInt k v
 | .inr x,v=>Value.isStrOf x v
def keyH (w : World) : Key->Int
 | .inl k=>hashInt k
 | .inr x=>hashStr w x
theorem keyIs_shape : ∀ {k : Key} {v : Value},keyIs k v = true->(∃ i t,k = Sum.inl i/\v = Value.int i t)\/(∃ x t,k = Sum.inr x/\v = Value.str x t)
 | .inl i,v,h=>by
  obtain ⟨t,e⟩:=Value.isInt_shape (k:=i) (v:=v) h
  exact .inl ⟨i,t,rfl,e⟩
 | .inr x,v,h=>by
  obtain ⟨t,e⟩:=Value.isStrOf_shape (x:=x) (v:=v) h
  exact .inr ⟨x,t,rfl,e⟩
theorem key_ll (a b : Int) : decide ((Sum.inl a : Key) = Sum.inl b) = (a == b):=by
 by_cases e : a = b
 ·subst e;simp
 ·have h : ¬ (Sum.inl a : Key) = Sum.inl b:=fun q=>e (Sum.inl.inj q)
  rw [decide_eq_false h]
  exact (beq_eq_false_iff_ne.mpr e).symm
theorem key_rr (a b : Str) : decide ((Sum.inr a : Key) = Sum.inr b) = decide (a = b):=by
 by_cases e : a = b
 ·subst e;simp
 ·have h : ¬ (Sum.inr a : Key) = Sum.inr b:=fun q=>e (Sum.inr.inj q)
  rw [decide_eq_false h,decide_eq_false e]
theorem key_lr (a : Int) (b : Str) : decide ((Sum.inl a : Key) = Sum.inr b) = false:=decide_eq_false (fun q=>nomatch q)
theorem key_rl (a : Str) (b : Int) : decide ((Sum.inr a : Key) = Sum.inl b) = false:=decide_eq_false (fun q=>nomatch q)
def mixKind (prog : Program) (w : World) : PySem.KeyKind prog w Key where
 is:=keyIs
 hash:=keyH w
 inj:=fun v a b ha hb=>by
  rcases keyIs_shape ha with ⟨i,t,rfl,rfl⟩ | ⟨x,t,rfl,rfl⟩
  ·rcases keyIs_shape hb with ⟨j,u,rfl,e⟩ | ⟨y,u,rfl,e⟩
   ·injection e with e1 _;rw [e1]
   ·exact nomatch e
  ·rcases keyIs_shape hb with ⟨j,u,rfl,e⟩ | ⟨y,u,rfl,e⟩
   ·exact nomatch e
   ·injection e with e1 _;rw [e1]
 byValue:=fun k v h=>by
  rcases keyIs_shape h with ⟨i,t,rfl,rfl⟩ | ⟨x,t,rfl,rfl⟩ <;> rfl
 pyHash:=fun hv h=>by
  rcases keyIs_shape hv with ⟨i,t,rfl,rfl⟩ | ⟨x,t,rfl,rfl⟩
  ·exact wpAny_pyHash_int h
  ·exact wpAny_pyHash_str h
 eqBool:=fun hu hv h=>by
  rcases keyIs_shape hu with ⟨i,t,rfl,rfl⟩ | ⟨x,t,rfl,rfl⟩
  ·rcases keyIs_shape hv with ⟨j,u,rfl,rfl⟩ | ⟨y,u,rfl,rfl⟩
   ·rw [key_ll] at h;exact wpAny_eqBool_int h
   ·rw [key_lr] at h;exact SeqAt.EqAt.int_str i t y u _ _ _ _ h
  ·rcases keyIs_shape hv with ⟨j,u,rfl,rfl⟩ | ⟨y,u,rfl,rfl⟩
   ·rw [key_rl] at h;exact SeqAt.EqAt.str_int x t j u _ _ _ _ h
   ·rw [key_rr] at h;exact wpAny_eqBool_str h
 «strs» := fun k x t v h=>by
  rcases keyIs_shape h with ⟨i,u,rfl,e⟩ | ⟨y,u,rfl,e⟩
  ·exact nomatch e
  ·injection e with e1 _
   subst e1
   cases v <;> rfl
end L2
namespace L2
open PySem PySem.Spec PyProof.Rows
inductive V where
 | non | bl (b : Bool) | int (i : Int) | str (x : Str) | byt (b : Array UInt8) | flt (b : UInt64) | ref (a : Addr) | ty (n : String)
 deriving DecidableEq
def RelV : V->Value->Prop
 | .non,u=>u = Value.none
 | .bl b,u=>u = Value.bool b
 | .int i,u=>∃ t,u = Value.int i t
 | .str x,u=>∃ t,u = Value.str x t
 | .byt b,u=>∃ t,u = Value.bytes b t
 | .flt b,u=>∃ t,u = Value.float b t
 | .ref a,u=>u = Value.ref a
 | .ty n,u=>u = Value.type n
abbrev Vals : List V->List Value->Prop:=Paired RelV
theorem Vals.length {xs : List V} {us : List Value} (r : Vals xs us) : xs.length = us.length:=Paired.length r
theorem Vals.get : ∀ {xs : List V} {us : List Value} {i : Nat} {x : V},Vals xs us->xs[i]? = some x->∃ u,us[i]? = some u/\RelV x u
 | _,_,_,_,.nil,e=>by simp at e
 | _,_,0,_,.cons r _,e=>by simp at e;subst e;exact ⟨_,rfl,r⟩
 | _,_,i + 1,x,.cons _ t,e=>by
  obtain ⟨u,h1,h2⟩:=Vals.get (i:=i) (x:=x) t (by simpa using e)
  exact ⟨u,by simpa using h1,h2⟩
theorem Vals.set {x : V} {u : Value} (r : RelV x u) : ∀ {xs : List V} {us : List Value} (i : Nat),Vals xs us->Vals (xs.set i x) (us.set i u)
 | _,_,_,.nil=>.nil
 | _,_,0,.cons _ t=>.cons r t
 | _,_,i + 1,.cons q t=>.cons q (Vals.set r i t)
theorem Vals.append : ∀ {xs ys : List V} {us ws : List Value},Vals xs us->Vals ys ws->Vals (xs ++ ys) (us ++ ws)
 | _,_,_,_,.nil,s=>s
 | _,_,_,_,.cons r t,s=>.cons r (Vals.append t s)
theorem Vals.take : ∀ {xs : List V} {us : List Value} (n : Nat),Vals xs us->Vals (xs.take n) (us.take n)
 | _,_,0,_=>.nil
 | _,_,_ + 1,.nil=>.nil
 | _,_,n + 1,.cons r t=>.cons r (Vals.take n t)
theorem Vals.drop : ∀ {xs : List V} {us : List Value} (n : Nat),Vals xs us->Vals (xs.drop n) (us.drop n)
 | _,_,0,r=>r
 | _,_,_ + 1,.nil=>.nil
 | _,_,n + 1,.cons _ t=>Vals.drop n t
def RelO : Option V->Option Value->Prop
 | some v,some u=>RelV v u
 | none,none=>True
 | _,_=>False
def KV {κ : Type} : List (κ × V)->List (κ × Value)->Prop:=Paired fun (p : κ × V) (q : κ × Value)=>p.1 = q.1/\RelV p.2 q.2
def kV : Key->V
 | .inl i=>.int i
 | .inr x=>.str x
inductive HO where
 | lst (xs : List V)
 | tup (xs : List V)
 | dK (kvs : List (Key × V)) | dT (kvs : List (List Key × V))
 | set (S : Int->Bool) (n : Nat)
 | ins (C dx : Addr) (fs : List (Str × V))
 | own (x : Addr)
 | xd (fs : List (Str × V))
 | met (f x : Addr)
 | rng (lo hi : Int)
 | frz (o : Obj) (u : HO)
 | tbl (ps : Array Value)
 | ext (φ : Heap->Prop)
abbrev Hp:=Addr->Option HO
def upd (H : Hp) (a : Addr) (o : HO) : Hp:=fun b=>if b = a then some o else H b
theorem upd_same {H : Hp} {a : Addr} {o : HO} : upd H a o a = some o:=by unfold upd;rw [if_pos rfl]
theorem upd_ne {H : Hp} {a b : Addr} {o : HO} (h : b ≠ a) : upd H a o b = H b:=by unfold upd;rw [if_neg h]
theorem upd_upd {H : Hp} {a : Addr} {o u : HO} : upd (upd H a o) a u = upd H a u:=by
 funext b;unfold upd;split <;> rfl
theorem ne_of_none {H : Hp} {a b : Addr} {o : HO} (h : H a = some o) (h' : H b = none) : a ≠ b:=by
 intro e;subst e;rw [h] at h';cases h'
section
variable (P : Program) (w : World)
def ObjOk (H : Hp) (h : Heap) (a : Addr) : HO->Prop
 | .lst xs=>xs.length <= sizeLine/\∃ (its : List Value) (n : Nat),Vals xs its/\h.get? a = some { cls:=.type "list",data:=.seq its.toArray n }
 | .tup xs=>xs.length <= sizeLine/\∃ its : List Value,Vals xs its/\IsTup h a its.toArray
 | .dK kvs=>kvs.length <= sizeLine/\(a == sysModules) = false/\∃ vs,KV kvs vs/\h.DictOf (mixKind P w) a vs
 | .dT kvs=>kvs.length <= sizeLine/\(a == sysModules) = false/\∃ xs : List (List Key × Addr × Value),
   Paired (fun (p : List Key × V) (q : List Key × Addr × Value)=>p.1 = q.1/\H q.2.1 = some (.tup (p.1.map kV))/\RelV p.2 q.2.2) kvs xs /\
   ∃ o es ep,h.get? a = some o/\o.ExactDict/\o.data = .dict es ep/\es.toList = xs.map (entryOfKey (tupleKind (mixKind P w)))/\(xs.map (·.1)).Nodup
 | .set S n=>h.SetOf (intKind P w) a S n
 | .ins C dx fs=>H dx = some (.own a)/\fs.length <= 1000/\dx ≠ a/\h.get? a = some (PySem.W.instObj C dx) /\
   ∃ mA,h.Ns1 dx mA/\(∀ f,RelO (fs.lookup f) (mA f))/\PySem.Within mA (fs.map (·.1))
 | .own _=>∃ o,h.get? a = some o
 | .xd fs=>∃ mA,h.Ns1 a mA/\∀ f,RelO (fs.lookup f) (mA f)
 | .rng lo hi=>∃ t u v,h.get? a = some { cls:=.type "range",data:=.fields #[.int lo t,.int hi u,.int 1 v] }
 | .frz o u=>h.get? a = some o/\ObjOk H h a u
 | .tbl ps=>h.get? a = some { cls:=.none,data:=.fields ps }
 | .met f x=>h.get? a = some (PySem.W.methodObj (.ref f) (.ref x))
 | .ext φ=>φ h/\(∃ o,h.get? a = some o)/\∀ h1 h2 : Heap,φ h1->(∀ o,h1.get? a = some o->h2.get? a = some o)->φ h2
def HOk (H : Hp) (h : Heap) : Prop := ∀ a o,H a = some o->ObjOk P w H h a o
end
section
variable {P : Program} {w : World} {H H' : Hp} {h h' : Heap} {a : Addr} {o : HO}
theorem ObjOk.lt (x : ObjOk P w H h a o) : a < h.objs.size:=by
 cases o with
 | lst xs=>obtain ⟨_,_,_,_,e⟩:=x;exact Heap.lt_size e
 | tup xs=>obtain ⟨_,_,_,p⟩:=x;exact p.lt
 | dK kvs=>obtain ⟨_,_,_,_,o,_,_,e,_⟩:=x;exact Heap.lt_size e
 | dT kvs=>obtain ⟨_,_,_,_,o,_,_,e,_⟩:=x;exact Heap.lt_size e
 | set S n=>obtain ⟨o,_,_,_,e,_⟩:=x;exact Heap.lt_size e
 | ins C dx fs=>obtain ⟨_,_,_,e,_⟩:=x;exact Heap.lt_size e
 | own y=>obtain ⟨_,e⟩:=x;exact Heap.lt_size e
 | xd fs=>obtain ⟨_,⟨_,_,_,e,_⟩,_⟩:=x;exact Heap.lt_size e
 | rng lo hi=>obtain ⟨_,_,_,e⟩:=x;exact Heap.lt_size e
 | frz ob u=>obtain ⟨e,_⟩:=x;exact Heap.lt_size e
 | tbl ps=>exact Heap.lt_size (show h.get? a = some _ from x)
 | met f y=>exact Heap.lt_size (show h.get? a = some _ from x)
 | ext φ=>obtain ⟨_,⟨_,e⟩,_⟩:=x;exact Heap.lt_size e
theorem Paired.mapP {α β : Type} {F G : α->β->Prop} : ∀ {l₁ : List α} {l₂ : List β},Paired F l₁ l₂->(∀ a b,F a b->G a b)->Paired G l₁ l₂
 | _,_,.nil,_=>.nil
 | _,_,.cons r t,f=>.cons (f _ _ r) (Paired.mapP t f)
theorem ObjOk.stay (x : ObjOk P w H h a o) (k : ∀ b u,(b = a\/H b = some (.own a))->h.get? b = some u->h'.get? b = some u)
  (ho : ∀ b,H b = some (.own a)->H' b = some (.own a)) (ht : ∀ b xs,H b = some (.tup xs)->H' b = some (.tup xs)) : ObjOk P w H' h' a o:=by
 induction o with
 | lst xs=>obtain ⟨z,its,n,r,e⟩:=x;exact ⟨z,its,n,r,k _ _ (.inl rfl) e⟩
 | tup xs=>obtain ⟨z,its,r,ob,e,c⟩:=x;exact ⟨z,its,r,ob,k _ _ (.inl rfl) e,c⟩
 | dK kvs=>obtain ⟨z,y,vs,r,ob,es,ep,e,c⟩:=x;exact ⟨z,y,vs,r,ob,es,ep,k _ _ (.inl rfl) e,c⟩
 | dT kvs =>
  obtain ⟨z,y,xs,r,ob,es,ep,e,c⟩:=x
  exact ⟨z,y,xs,Paired.mapP r fun p q z=>⟨z.1,ht _ _ z.2.1,z.2.2⟩,ob,es,ep,k _ _ (.inl rfl) e,c⟩
 | set S n=>obtain ⟨ob,es,ep,t,e,c⟩:=x;exact ⟨ob,es,ep,t,k _ _ (.inl rfl) e,c⟩
 | ins C dx fs =>
  obtain ⟨d,z,ne,e,mA,⟨od,es,ep,e2,c⟩,r⟩:=x
  exact ⟨ho _ d,z,ne,k _ _ (.inl rfl) e,mA,⟨od,es,ep,k _ _ (.inr d) e2,c⟩,r⟩
 | own y=>obtain ⟨ob,e⟩:=x;exact ⟨ob,k _ _ (.inl rfl) e⟩
 | xd fs=>obtain ⟨mA,⟨od,es,ep,e,c⟩,r⟩:=x;exact ⟨mA,⟨od,es,ep,k _ _ (.inl rfl) e,c⟩,r⟩
 | rng lo hi=>obtain ⟨t,u,v,e⟩:=x;exact ⟨t,u,v,k _ _ (.inl rfl) e⟩
 | frz ob u ih=>obtain ⟨e,q⟩:=x;exact ⟨k _ _ (.inl rfl) e,ih q⟩
 | tbl ps =>
  have e : h.get? a = some { cls:=.none,data:=.fields ps }:=x
  show h'.get? a = some { cls:=.none,data:=.fields ps }
  exact k a _ (.inl rfl) e
 | met f y =>
  have e : h.get? a = some (PySem.W.methodObj (.ref f) (.ref y)):=x
  show h'.get? a = some (PySem.W.methodObj (.ref f) (.ref y))
  exact k a _ (.inl rfl) e
 | ext φ=>obtain ⟨p,⟨o,e⟩,st⟩:=x;exact ⟨st _ _ p fun o q=>k _ _ (.inl rfl) q,⟨o,k _ _ (.inl rfl) e⟩,st⟩
theorem HOk.lt (x : HOk P w H h) (e : H a = some o) : a < h.objs.size:=(x a o e).lt
theorem HOk.fresh (x : HOk P w H h) (e : h.objs.size <= a) : H a = none:=by
 cases q : H a with
 | none=>rfl
 | some u=>exact absurd (Nat.lt_of_lt_of_le (x.lt q) e) (Nat.lt_irrefl _)
theorem HOk.kept (x : HOk P w H h) (k : ∀ b u,h.get? b = some u->h'.get? b = some u) : HOk P w H h':=fun a o e =>
 (x a o e).stay (fun b u _ q=>k b u q) (fun _ q=>q) fun _ _ q=>q
theorem HOk.laid (x : HOk P w H h) (k : ∀ b u,h.get? b = some u->h'.get? b = some u) (hp : h.objs.size <= a) (new : ObjOk P w (upd H a o) h' a o) : HOk P w (upd H a o) h':=fun b u e=>by
 have hn:=x.fresh hp
 by_cases hb : b = a
 ·subst hb;rw [upd_same] at e;cases e;exact new
 ·rw [upd_ne hb] at e
  exact (x b u e).stay (fun c v _ q=>k c v q) (fun c q=>by rw [upd_ne (ne_of_none q hn)];exact q) fun c xs q=>by rw [upd_ne (ne_of_none q hn)];exact q
end
def Rd (H : Hp) (a : Addr) (u : HO) : Prop:=H a = some u\/∃ o,H a = some (.frz o u)
theorem Rd.of {H : Hp} {a : Addr} {u : HO} (h : H a = some u) : Rd H a u:=.inl h
theorem Rd.ok {P : Program} {w : World} {H : Hp} {h : Heap} {a : Addr} {u : HO} (r : Rd H a u) (x : HOk P w H h) : ObjOk P w H h a u:=by
 rcases r with r | ⟨o,r⟩
 ·exact x a u r
 ·obtain ⟨_,q⟩:=x a _ r
  exact q
def Mut : Option HO->Prop
 | some (.lst _)=>True
 | some (.dK _)=>True
 | some (.dT _)=>True
 | some (.set _ _)=>True
 | some (.ins _ _ _)=>True
 | some (.ext _)=>True
 | _=>False
section
variable {P : Program} {w : World} {H : Hp} {h h' : Heap} {x e : Addr} {o' : HO}
theorem HOk.write (ok : HOk P w H h) (mu : Mut (H x)) (he : e = x\/H e = some (.own x)) (k : ∀ b u,b ≠ e->h.get? b = some u->h'.get? b = some u) (heo : ∃ u,h'.get? e = some u)
  (new : ObjOk P w (upd H x o') h' x o') : HOk P w (upd H x o') h':=fun b u q=>by
 have nown : ∀ c y,H c = some (.own y)->c ≠ x:=fun c y r z=>by subst z;rw [r] at mu;exact mu
 have ntup : ∀ c xs,H c = some (.tup xs)->c ≠ x:=fun c xs r z=>by subst z;rw [r] at mu;exact mu
 by_cases hb : b = x
 ·subst hb;rw [upd_same] at q;cases q;exact new
 ·rw [upd_ne hb] at q
  by_cases hbe : b = e
  ·have q' : H b = some (.own x):=by
    rcases he with z | z
    ·exact absurd (hbe.trans z) hb
    ·rw [hbe];exact z
   rw [q] at q';cases q'
   obtain ⟨v,hv⟩:=heo
   exact ⟨v,by rw [hbe];exact hv⟩
  ·refine (ok b u q).stay (fun c v hc r=>k c v ?_ r) (fun c r=>by rw [upd_ne (nown c b r)];exact r) fun c xs r=>by rw [upd_ne (ntup c xs r)];exact r
   rcases hc with rfl | hc
   ·exact hbe
   ·rintro rfl
    rcases he with z | z
    ·exact nown c b hc z
    ·rw [hc] at z;cases z;exact hb rfl
end
structure Un (fs ex : List Addr) (H H' : Hp) (h h' : Heap) : Prop where
 keep : ∀ b o,h.get? b = some o->H b = none->b ∉ fs->b ∉ ex->h'.get? b = some o
 slot : ∀ b o,h.get? b = some o->H b = none->b ∈ fs->b ∉ ex->∃ sl,h'.get? b = some { o with slots:=sl }
 free : ∀ b o,h.get? b = some o->H b = none->b ∉ ex->H' b = none
 there : ∀ b o,h.get? b = some o->b ∉ ex->∃ o',h'.get? b = some o'
 tups : ∀ b xs,H b = some (.tup xs)->H' b = some (.tup xs)
 frzs : ∀ b o u,H b = some (.frz o u)->H' b = some (.frz o u)
 tbls : ∀ b ps,H b = some (.tbl ps)->∃ more,H' b = some (.tbl (ps ++ more))
section
variable {fs fs' ex ex' : List Addr} {H H1 H2 : Hp} {h h1 h2 h' : Heap} {a x e : Addr} {o : HO}
theorem Un.any (u : Un fs ex H H1 h h1) {b : Addr} {ob : Obj} (q : h.get? b = some ob) (n : H b = none) (hx : b ∉ ex) : ∃ sl,h1.get? b = some { ob with slots:=sl }:=by
 by_cases hb : b ∈ fs
 ·exact u.slot b ob q n hb hx
 ·exact ⟨ob.slots,u.keep b ob q n hb hx⟩
theorem Un.trans (a : Un fs ex H H1 h h1) (b : Un fs ex H1 H2 h1 h2) : Un fs ex H H2 h h2 where
 keep:=fun c ob q n hc hx=>b.keep c ob (a.keep c ob q n hc hx) (a.free c ob q n hx) hc hx
 slot:=fun c ob q n hc hx=>by
  obtain ⟨sl,e1⟩:=a.slot c ob q n hc hx
  obtain ⟨sl',e2⟩:=b.slot c _ e1 (a.free c ob q n hx) hc hx
  exact ⟨sl',e2⟩
 free:=fun c ob q n hx=>by
  obtain ⟨o',e1⟩:=a.there c ob q hx
  exact b.free c o' e1 (a.free c ob q n hx) hx
 there:=fun c ob q hx=>by
  obtain ⟨o',e1⟩:=a.there c ob q hx
  exact b.there c o' e1 hx
 tups:=fun c xs q=>b.tups c xs (a.tups c xs q)
 frzs:=fun c ob xs q=>b.frzs c ob xs (a.frzs c ob xs q)
 tbls:=fun c ps q=>by
  obtain ⟨m1,e1⟩:=a.tbls c ps q
  obtain ⟨m2,e2⟩:=b.tbls c _ e1
  exact ⟨m1 ++ m2,by rw [e2,Array.append_assoc]⟩
theorem Un.kept (k : ∀ b u,h.get? b = some u->h'.get? b = some u) : Un fs ex H H h h' :=
 ⟨fun b ob q _ _ _=>k b ob q,fun b ob q _ _ _=>⟨ob.slots,k b ob q⟩,fun _ _ _ n _=>n,fun b ob q _=>⟨ob,k b ob q⟩,fun _ _ q=>q,fun _ _ _ q=>q,fun _ ps q=>⟨#[],by rw [q];simp⟩⟩
theorem Un.refl : Un fs ex H H h h:=Un.kept fun _ _ q=>q
theorem Un.laid (k : ∀ b u,h.get? b = some u->h'.get? b = some u) (hp : h.objs.size <= a) (hn : H a = none) : Un fs ex H (upd H a o) h h' where
 keep:=fun b u q _ _ _=>k b u q
 slot:=fun b u q _ _ _=>⟨u.slots,k b u q⟩
 free:=fun b u q n _=>by rw [upd_ne (Nat.ne_of_lt (Nat.lt_of_lt_of_le (Heap.lt_size q) hp))];exact n
 there:=fun b u q _=>⟨u,k b u q⟩
 tups:=fun b xs q=>by rw [upd_ne (ne_of_none q hn)];exact q
 frzs:=fun b u xs q=>by rw [upd_ne (ne_of_none q hn)];exact q
 tbls:=fun b ps q=>⟨#[],by rw [upd_ne (ne_of_none q hn),q];simp⟩
theorem Un.write (mu : Mut (H x)) (he : e = x\/H e = some (.own x)) (k : ∀ b u,b ≠ e->h.get? b = some u->h'.get? b = some u) (heo : ∃ u,h'.get? e = some u) : Un fs ex H (upd H x o) h h':=by
 have hx : ∀ b,H b = none->b ≠ x:=fun b n z=>by subst z;rw [n] at mu;exact mu
 have hb : ∀ b,H b = none->b ≠ e:=fun b n z=>by
  subst z
  rcases he with r | r
  ·exact hx b n r
  ·rw [n] at r;cases r
 have hm : ∀ b u,H b = some u->¬ Mut (some u)->b ≠ x:=fun b u q nm z=>by subst z;rw [q] at mu;exact nm mu
 refine ⟨fun b u q n _ _=>k b u (hb b n) q,fun b u q n _ _=>⟨u.slots,k b u (hb b n) q⟩,fun b u q n _=>by rw [upd_ne (hx b n)];exact n,fun b u q _=>?_,
  fun b xs q=>by rw [upd_ne (hm b _ q fun z=>z)];exact q,fun b u xs q=>by rw [upd_ne (hm b _ q fun z=>z)];exact q,fun b ps q=>⟨#[],by rw [upd_ne (hm b _ q fun z=>z),q];simp⟩⟩
 by_cases hbe : b = e
 ·subst hbe;exact heo
 ·exact ⟨u,k b u hbe q⟩
theorem Un.mono (u : Un fs ex H H1 h h1) (hs : ∀ b ∈ fs,b ∈ fs') (hx : ∀ b ∈ ex,b ∈ ex') : Un fs' ex' H H1 h h1 :=
 ⟨fun b ob q n hb he=>u.keep b ob q n (fun z=>hb (hs b z)) fun z=>he (hx b z),fun _ _ q n _ he=>u.any q n fun z=>he (hx _ z),fun b ob q n he=>u.free b ob q n fun z=>he (hx b z),fun b ob q he=>u.there b ob q fun z=>he (hx b z),u.tups,u.frzs,u.tbls⟩
end
def trk (h : Heap) (H : Hp) : List Addr:=(List.range h.objs.size).filter fun a=>(H a).isSome
def hidT (h : Heap) (H : Hp) : Heap:=PySem.W.hideAll h (trk h H)
theorem hidT_size (h : Heap) (H : Hp) : (hidT h H).objs.size = h.objs.size:=PySem.W.hideAll_size _ _
theorem hidT_get {h : Heap} {H : Hp} {b : Addr} {o : Obj} (e : h.get? b = some o) (n : H b = none) : (hidT h H).get? b = some o :=
 PySem.W.hideAll_get _ e fun hm=>by
  have q : (H b).isSome = true:=(List.mem_filter.mp hm).2
  rw [n] at q;simp at q
theorem of_hidT {h : Heap} {H : Hp} {b : Addr} {o : Obj} (e : (hidT h H).get? b = some o) : h.get? b = some o/\H b = none:=by
 have e' : h.get? b = some o:=PySem.W.of_hideAll (trk h H) e
 refine ⟨e',?_⟩
 cases q : H b with
 | none=>rfl
 | some x =>
  have hm : b ∈ trk h H:=List.mem_filter.mpr ⟨List.mem_range.mpr (Heap.lt_size e'),by simp [q]⟩
  have z : (hidT h H).get? b = none:=PySem.W.hideAll_none (trk h H) hm
  rw [z] at e;cases e
def allNews (g h : Heap) (L : Addr) : List (Addr × Obj):=(List.range h.objs.size).filterMap fun a=>if a = L\/(g.get? a).isSome = true then none else (h.get? a).map fun o=>(a,o)
def rest (g h : Heap) (L d : Addr) : List (Addr × Obj):=(allNews g h L).filter fun p=>decide (p.1 ≠ d)
end L2
namespace L2
open PySem PySem.Spec PyProof.Rows
structure Mod (K : PySem.W.Frag) (mg : Str->Option Value) (base : Heap) : Prop where
 kin : K.In base
 glob : base.Ns mainGlobals mg
 blt : ∃ mb,base.Ns builtinsNs mb/\∀ x : Str,x ≠ "__name__"->mb x = bootBuiltins x
 nolimit : base.NoLimit
structure Cx where
 prog : Program
 w : World
 K : PySem.W.Frag
 mg : Str->Option Value
 base : Heap
 A : Around
 N : List Str
 s₀ : Shared
 H₀ : Hp
 env : Env
 outer : List Env
 stack : List Env
 ex : List Addr
 fn : Str->Bool
 calm : Bool
 pn : List (Addr × Obj)
 xe : Value->Shared->Prop
def frs (l : List Env) : List Addr:=l.filterMap (·.frame)
abbrev Cx.fs (X : Cx) : List Addr:=frs X.outer
def Vis (sc : Scope) (x : Str) : Prop:=sc.names.lookup x = some .local\/sc.names.lookup x = some .cell\/sc.names.lookup x = some .free
def Loc (sc : Scope) (x : Str) : Prop:=sc.names.lookup x = some .local\/sc.names.lookup x = some .cell
def Look (env : Env) (h : Heap) (m : Str->Option Value) (x : Str) (u : Value) : Prop :=
 (env.kindOf x = some .local/\m x = some u)\/((env.kindOf x = some .cell\/env.kindOf x = some .free)/\∃ c,env.cells.lookup x = some c/\h.IsCell c (some u))
structure Cx.Ok (X : Cx) : Prop where
 mod : Mod X.K X.mg X.base
 kind : X.env.scope.kind = .function
 glob : X.env.globals = mainGlobals
 blt : X.env.builtins = builtinsNs
 above : X.s₀.heap.objs.size <= X.env.locals
 inj : ∀ x y c,X.env.cells.lookup x = some c->X.env.cells.lookup y = some c->x = y
 has : ∀ x,(X.env.kindOf x = some .cell\/X.env.kindOf x = some .free)->∃ c,X.env.cells.lookup x = some c
 cab : ∀ x c,X.fn x = true->X.env.cells.lookup x = some c->X.s₀.heap.objs.size <= c
 hd : X.calm = true->X.A.handled = none
 frames : X.A.frames = some X.stack
 stk : X.stack = X.outer\/(X.stack = X.env :: X.outer/\X.env.frame = some X.env.locals)
 exf : ∀ b ∈ X.ex,b ≠ X.env.locals/\∀ x c,X.env.cells.lookup x = some c->c ≠ b
 bs : ∀ b o,X.base.get? b = some o->X.s₀.heap.get? b = some o/\X.H₀ b = none
 bsz : X.base.objs.size <= X.s₀.heap.objs.size
 noex : ∀ b o,X.base.get? b = some o->b ∉ X.ex
 exfs : ∀ b ∈ X.ex,b ∉ X.fs
 funs : X.s₀.heap.FunFrames X.base X.outer
 frf : ∀ b ∈ X.fs,X.H₀ b = none
def GOk (g₀ g : Array GenState) : Prop:=AllBare g/\g₀.size <= g.size
structure Inv (X : Cx) (pins : List (Addr × Obj)) (σ : List (Option V)) (H : Hp) (s : Shared) : Prop where
 ok : X.Ok
 os : s.os = X.s₀.os
 bare : GOk X.s₀.gens s.gens
 base : Un X.fs X.ex X.H₀ H X.s₀.heap s.heap
 loc : ∃ m,s.heap.Ns X.env.locals m/\∀ (i : Nat) (x : Str) (v : V),X.N[i]? = some x->σ[i]? = some (some v)->Vis X.env.scope x->∃ u,RelV v u/\Look X.env s.heap m x u
 cell : ∀ x c,X.env.cells.lookup x = some c->∃ v,s.heap.IsCell c v
 free : H X.env.locals = none
 freeC : ∀ x c,X.env.cells.lookup x = some c->H c = none
 pin : ∀ p ∈ X.pn ++ pins,s.heap.get? p.1 = some p.2/\H p.1 = none/\p.1 ≠ X.env.locals/\p.1 ∉ X.fs/\∀ v,p.2.data ≠ .cell v
 hok : HOk X.prog X.w H s.heap
 len : σ.length = X.N.length
section
variable {X : Cx} {pins : List (Addr × Obj)} {σ : List (Option V)} {H H' : Hp} {s : Shared} {h' : Heap}
theorem Cx.Ok.nofr (ok : X.Ok) {b : Addr} {o : Obj} (e : X.base.get? b = some o) : b ∉ X.fs:=fun hb=>by
 have:=(ok.funs.mem hb).1
 rw [e] at this;cases this
theorem Inv.bs (I : Inv X pins σ H s) : ∀ b o,X.base.get? b = some o->s.heap.get? b = some o/\H b = none:=fun b o e =>
 ⟨I.base.keep b o (I.ok.bs b o e).1 (I.ok.bs b o e).2 (I.ok.nofr e) (I.ok.noex b o e),I.base.free b o (I.ok.bs b o e).1 (I.ok.bs b o e).2 (I.ok.noex b o e)⟩
theorem Inv.bk (I : Inv X pins σ H s) : ∀ b o,X.base.get? b = some o->s.heap.get? b = some o:=fun b o e=>(I.bs b o e).1
theorem Inv.mod (I : Inv X pins σ H s) : Mod X.K X.mg X.base:=I.ok.mod
theorem Inv.kIn (I : Inv X pins σ H s) : X.K.In s.heap:=I.ok.mod.kin.keeps I.bk
theorem Inv.nolimit (I : Inv X pins σ H s) : s.heap.NoLimit:=I.ok.mod.nolimit.keeps I.bk
theorem Inv.fr (I : Inv X pins σ H s) : ∃ m,Fr X.base X.env.locals s.heap m :=
 let ⟨m,hn,_⟩:=I.loc
 ⟨m,hn,I.bk,Nat.le_trans I.ok.bsz I.ok.above⟩
theorem Inv.lt (I : Inv X pins σ H s) : X.env.locals < s.heap.objs.size:=let ⟨_,hn,_⟩:=I.loc;hn.lt
theorem Inv.sz (I : Inv X pins σ H s) : X.s₀.heap.objs.size <= s.heap.objs.size:=Nat.le_trans I.ok.above (Nat.le_of_lt I.lt)
theorem Inv.nofs (I : Inv X pins σ H s) {a : Addr} (h : s.heap.objs.size <= a) : a ∉ X.fs:=fun hb=>by
 obtain ⟨_,o,ho,_⟩:=I.ok.funs.mem hb
 exact absurd (Nat.lt_of_lt_of_le (Heap.lt_size ho) (Nat.le_trans I.sz h)) (Nat.lt_irrefl _)
theorem Inv.cne (I : Inv X pins σ H s) : ∀ x c,X.env.cells.lookup x = some c->c ≠ X.env.locals:=fun x c e z=>by
 obtain ⟨v,o,ho,hd⟩:=I.cell x c e
 obtain ⟨m,⟨o',es,ep,ho',hd',_⟩,_⟩:=I.loc
 rw [z,ho'] at ho;cases ho;rw [hd'] at hd;cases hd
theorem Inv.funs (I : Inv X pins σ H s) : s.heap.FunFrames X.base X.outer:=by
 have all : ∀ (l : List Env),(∀ b ∈ frs l,b ∈ X.fs)->X.s₀.heap.FunFrames X.base l->s.heap.FunFrames X.base l:=by
  intro l
  induction l with
  | nil=>intro _ _;trivial
  | cons env r ih =>
   intro hs hl
   obtain ⟨hk,⟨L,o,hf,hn,ho,hd⟩,hr⟩:=hl
   have hL : L ∈ X.fs:=hs L (by unfold frs;rw [List.filterMap_cons,hf];exact List.mem_cons_self)
   obtain ⟨sl,e⟩:=I.base.slot L o ho (I.ok.frf L hL) hL fun z=>I.ok.exfs L z hL
   exact ⟨hk,⟨L,_,hf,hn,e,hd⟩,ih (fun b hb=>hs b (by unfold frs;rw [List.filterMap_cons,hf];exact List.mem_cons_of_mem _ hb)) hr⟩
 exact all X.outer (fun _ hb=>hb) I.ok.funs
theorem Inv.stack (I : Inv X pins σ H s) : s.heap.FunFrames X.base X.stack:=by
 rcases I.ok.stk with e | ⟨e,hf⟩
 ·rw [e];exact I.funs
 ·rw [e]
  obtain ⟨m,hn,_⟩:=I.loc
  refine .cons (by rw [I.ok.kind];decide) hf hn ?_ I.funs
  exact Heap.get?_none_of_le (Nat.le_trans I.ok.bsz I.ok.above)
theorem Inv.stkSub (I : Inv X pins σ H s) : ∀ b ∈ frs X.stack,b ∈ X.env.locals :: X.fs:=fun b hb=>by
 rcases I.ok.stk with e | ⟨e,hf⟩
 ·rw [e] at hb;exact List.mem_cons_of_mem _ hb
 ·rw [e] at hb
  unfold frs at hb
  rw [List.filterMap_cons,hf] at hb
  exact hb
theorem Inv.stkFree (I : Inv X pins σ H s) : ∀ b ∈ frs X.stack,H b = none:=fun b hb=>by
 rcases List.mem_cons.mp (I.stkSub b hb) with e | hb
 ·rw [e];exact I.free
 ·obtain ⟨_,o,ho,_⟩:=I.ok.funs.mem hb
  exact I.base.free b o ho (I.ok.frf b hb) fun z=>I.ok.exfs b z hb
theorem Inv.step {g' : Array GenState} {t' : Nat} {d' : Drawn} {ch : List Addr} (I : Inv X pins σ H s)
  (hch : ∀ b ∈ ch,(b ∈ X.ex\/X.s₀.heap.objs.size <= b)/\b ≠ X.env.locals/\(∀ x c,X.env.cells.lookup x = some c->c ≠ b)/\∀ p ∈ X.pn ++ pins,p.1 ≠ b)
  (keep : ∀ b o,b ≠ X.env.locals->b ∉ X.fs->b ∉ ch->s.heap.get? b = some o->H b = none->h'.get? b = some o)
  (slot : ∀ b o,b ≠ X.env.locals->b ∈ X.fs->b ∉ ch->s.heap.get? b = some o->H b = none->∃ sl,h'.get? b = some { o with slots:=sl }) (free : ∀ b o,b ∉ ch->s.heap.get? b = some o->H b = none->H' b = none)
  (there : ∀ b o,b ∉ ch->s.heap.get? b = some o->∃ o',h'.get? b = some o')
  (tups : ∀ b xs,H b = some (.tup xs)->H' b = some (.tup xs)) (frzs : ∀ b o u,H b = some (.frz o u)->H' b = some (.frz o u)) (tbls : ∀ b ps,H b = some (.tbl ps)->∃ more,H' b = some (.tbl (ps ++ more)))
  (ns : ∀ m,s.heap.Ns X.env.locals m->h'.Ns X.env.locals m) (hok : HOk X.prog X.w H' h') (hg : GOk s.gens g') :
  Inv X pins σ H' { s with heap:=h',gens:=g',drawn:=d',toks:=t' }:=by
 have neL : ∀ b o,X.s₀.heap.get? b = some o->b ≠ X.env.locals:=fun b o e=>Nat.ne_of_lt (Nat.lt_of_lt_of_le (Heap.lt_size e) I.ok.above)
 have neC : ∀ b o,X.s₀.heap.get? b = some o->b ∉ X.ex->b ∉ ch:=fun b o e hx hb=>by
  rcases (hch b hb).1 with z | z
  ·exact hx z
  ·exact absurd (Nat.lt_of_lt_of_le (Heap.lt_size e) z) (Nat.lt_irrefl _)
 have cellK : ∀ x c,X.env.cells.lookup x = some c->∀ v,s.heap.IsCell c v->h'.IsCell c v:=fun x c e v ⟨o,ho,hd⟩=>by
  have nch : c ∉ ch:=fun z=>(hch c z).2.2.1 x c e rfl
  by_cases hc : c ∈ X.fs
  ·obtain ⟨sl,q⟩:=slot c o (I.cne x c e) hc nch ho (I.freeC x c e)
   exact ⟨_,q,hd⟩
  ·exact ⟨o,keep c o (I.cne x c e) hc nch ho (I.freeC x c e),hd⟩
 refine ⟨I.ok,I.os,⟨hg.1,Nat.le_trans I.bare.2 hg.2⟩,⟨fun b o e n hb hx=>?_,fun b o e n hb hx=>?_,fun b o e n hx=>?_,fun b o e hx=>?_,fun b xs e=>tups b xs (I.base.tups b xs e),fun b o xs e=>frzs b o xs (I.base.frzs b o xs e),fun b ps e=>?_⟩,?_,fun x c e=>?_,?_,fun x c e=>?_,fun p hp=>?_,hok,I.len⟩
 ·exact keep b o (neL b o e) hb (neC b o e hx) (I.base.keep b o e n hb hx) (I.base.free b o e n hx)
 ·obtain ⟨sl,e1⟩:=I.base.slot b o e n hb hx
  obtain ⟨sl',e2⟩:=slot b _ (neL b o e) hb (neC b o e hx) e1 (I.base.free b o e n hx)
  exact ⟨sl',e2⟩
 ·obtain ⟨o',e1⟩:=I.base.there b o e hx
  exact free b o' (neC b o e hx) e1 (I.base.free b o e n hx)
 ·obtain ⟨o',e1⟩:=I.base.there b o e hx
  exact there b o' (neC b o e hx) e1
 ·obtain ⟨m1,e1⟩:=I.base.tbls b ps e
  obtain ⟨m2,e2⟩:=tbls b _ e1
  exact ⟨m1 ++ m2,by rw [e2,Array.append_assoc]⟩
 ·obtain ⟨m,hn,hl⟩:=I.loc
  refine ⟨m,ns m hn,fun i x v e1 e2 e3=>?_⟩
  obtain ⟨u,r,l⟩:=hl i x v e1 e2 e3
  refine ⟨u,r,?_⟩
  rcases l with l | ⟨k,c,e,z⟩
  ·exact .inl l
  ·exact .inr ⟨k,c,e,cellK x c e _ z⟩
 ·obtain ⟨v,z⟩:=I.cell x c e
  exact ⟨v,cellK x c e v z⟩
 ·obtain ⟨m,⟨o,_,_,ho,_⟩,_⟩:=I.loc
  exact free _ o (fun z=>(hch _ z).2.1 rfl) ho I.free
 ·obtain ⟨v,o,ho,hd⟩:=I.cell x c e
  exact free c o (fun z=>(hch c z).2.2.1 x c e rfl) ho (I.freeC x c e)
 ·obtain ⟨e,n,ne,nf,d⟩:=I.pin p hp
  have nch : p.1 ∉ ch:=fun z=>(hch p.1 z).2.2.2 p hp rfl
  exact ⟨keep p.1 p.2 ne nf nch e n,free p.1 p.2 nch e n,ne,nf,d⟩
theorem Inv.un {t' : Nat} (I : Inv X pins σ H s) (u : Un X.fs [] H H' s.heap h') (hok : HOk X.prog X.w H' h') : Inv X pins σ H' { s with heap:=h',toks:=t' }:=by
 obtain ⟨m,⟨o,es,ep,ho,r⟩,_⟩:=id I.loc
 obtain ⟨sl,hL⟩:=u.any ho I.free (by simp)
 exact I.step (g':=s.gens) (d':=s.drawn) (ch:=[]) (fun _ z=>nomatch z) (fun b o _ hb _ e n=>u.keep b o e n hb (by simp)) (fun b o _ hb _ e n=>u.slot b o e n hb (by simp)) (fun b o _ e n=>u.free b o e n (by simp)) (fun b o _ e=>u.there b o e (by simp)) u.tups u.frzs u.tbls (fun m' hm=>by
  obtain ⟨o',es',ep',ho',r'⟩:=hm
  rw [ho] at ho';cases ho'
  exact ⟨_,es',ep',hL,r'⟩) hok ⟨I.bare.1,Nat.le_refl _⟩
theorem Inv.call {g' : Array GenState} {t' : Nat} {d' : Drawn} {ch : List Addr} (I : Inv X pins σ H s) (u : Un (frs X.stack) ch H H' s.heap h') (hok : HOk X.prog X.w H' h') (hg : GOk s.gens g')
  (hch : ∀ b ∈ ch,(b ∈ X.ex\/X.s₀.heap.objs.size <= b)/\b ≠ X.env.locals/\(∀ x c,X.env.cells.lookup x = some c->c ≠ b)/\∀ p ∈ X.pn ++ pins,p.1 ≠ b) :
  Inv X pins σ H' { s with heap:=h',gens:=g',drawn:=d',toks:=t' }:=by
 obtain ⟨m,⟨o,es,ep,ho,r⟩,_⟩:=id I.loc
 obtain ⟨sl,hL⟩:=u.any ho I.free fun z=>(hch _ z).2.1 rfl
 exact I.step (ch:=ch) hch (fun b o hL hb hc e n=>u.keep b o e n (fun z=>(List.mem_cons.mp (I.stkSub b z)).elim hL hb) hc) (fun b o _ _ hc e n=>u.any e n hc) (fun b o hc e n=>u.free b o e n hc) (fun b o hc e=>u.there b o e hc) u.tups u.frzs u.tbls (fun m' hm=>by
  obtain ⟨o',es',ep',ho',r'⟩:=hm
  rw [ho] at ho';cases ho'
  exact ⟨_,es',ep',hL,r'⟩) hok hg
theorem Inv.turned {t' : Nat} {it : Addr} (I : Inv X pins σ H s) (k : ∀ b o,b ≠ it->s.heap.get? b = some o->h'.get? b = some o) (hn : H it = none) (hL : it ≠ X.env.locals)
  (h1 : it ∈ X.ex\/X.s₀.heap.objs.size <= it) (h2 : ∀ x c,X.env.cells.lookup x = some c->c ≠ it) (h3 : ∀ p ∈ X.pn ++ pins,p.1 ≠ it) : Inv X pins σ H { s with heap:=h',toks:=t' }:=by
 have nit : ∀ b u,H b = some u->b ≠ it:=fun b u e z=>by rw [z,hn] at e;cases e
 refine I.step (g':=s.gens) (d':=s.drawn) (ch:=[it]) (fun b hb=>?_) (fun b o _ _ hc e _=>k b o (fun z=>hc (by simp [z])) e) (fun b o _ _ hc e _=>⟨o.slots,k b o (fun z=>hc (by simp [z])) e⟩) (fun _ _ _ _ n=>n)
  (fun b o hc e=>⟨o,k b o (fun z=>hc (by simp [z])) e⟩) (fun _ _ e=>e) (fun _ _ _ e=>e) (fun b ps e=>⟨#[],by rw [e];simp⟩) (fun m hm=>?_) (fun b u e=>?_) ⟨I.bare.1,Nat.le_refl _⟩
 ·have e : b = it:=by simpa using hb
  subst e
  exact ⟨h1,hL,h2,h3⟩
 ·obtain ⟨o,es,ep,ho,r⟩:=hm
  exact ⟨o,es,ep,k _ o (Ne.symm hL) ho,r⟩
 ·refine (I.hok b u e).stay (fun c v hc q=>k c v ?_ q) (fun _ q=>q) fun _ _ q=>q
  rcases hc with z | z
  ·rw [z];exact nit b u e
  ·exact nit c _ z
theorem Inv.tok (I : Inv X pins σ H s) (t : Nat) : Inv X pins σ H { s with toks:=t }:=I.un (h':=s.heap) (t':=t) Un.refl I.hok
theorem Inv.kept {t' : Nat} (I : Inv X pins σ H s) (k : ∀ b u,s.heap.get? b = some u->h'.get? b = some u) : Inv X pins σ H { s with heap:=h',toks:=t' }:=I.un (Un.kept k) (I.hok.kept k)
theorem Inv.laid {a : Addr} {o : HO} {t' : Nat} (I : Inv X pins σ H s) (k : ∀ b u,s.heap.get? b = some u->h'.get? b = some u) (hp : s.heap.objs.size <= a) (new : ObjOk X.prog X.w (upd H a o) h' a o) :
  Inv X pins σ (upd H a o) { s with heap:=h',toks:=t' }:=I.un (Un.laid k hp (I.hok.fresh hp)) (I.hok.laid k hp new)
theorem Inv.write {x e : Addr} {o : HO} {t' : Nat} (I : Inv X pins σ H s) (mu : Mut (H x)) (he : e = x\/H e = some (.own x)) (k : ∀ b u,b ≠ e->s.heap.get? b = some u->h'.get? b = some u) (heo : ∃ u,h'.get? e = some u)
  (new : ObjOk X.prog X.w (upd H x o) h' x o) : Inv X pins σ (upd H x o) { s with heap:=h',toks:=t' }:=I.un (Un.write mu he k heo) (I.hok.write mu he k heo new)
theorem Inv.weak {σ' : List (Option V)} (I : Inv X pins σ H s) (hl : σ'.length = σ.length) (w : ∀ (i : Nat) v,σ'[i]? = some (some v)->σ[i]? = some (some v)) : Inv X pins σ' H s :=
 ⟨I.ok,I.os,I.bare,I.base,let ⟨m,hn,hl'⟩:=I.loc;⟨m,hn,fun i x v e1 e2 e3=>hl' i x v e1 (w i v e2) e3⟩,I.cell,I.free,I.freeC,I.pin,I.hok,hl.trans I.len⟩
theorem Inv.pins_of {pins' : List (Addr × Obj)} (I : Inv X pins σ H s) (h : ∀ p ∈ pins',s.heap.get? p.1 = some p.2/\H p.1 = none/\p.1 ≠ X.env.locals/\p.1 ∉ X.fs/\∀ v,p.2.data ≠ .cell v) : Inv X pins' σ H s :=
 ⟨I.ok,I.os,I.bare,I.base,I.loc,I.cell,I.free,I.freeC,fun p hp=>(List.mem_append.mp hp).elim (fun z=>I.pin p (List.mem_append_left _ z)) (h p),I.hok,I.len⟩
theorem nodup_ix {N : List Str} (hN : N.Nodup) {i j : Nat} {x : Str} (a : N[i]? = some x) (b : N[j]? = some x) : i = j:=by
 obtain ⟨h1,e1⟩:=List.getElem?_eq_some_iff.mp a
 obtain ⟨h2,e2⟩:=List.getElem?_eq_some_iff.mp b
 exact (List.getElem_inj hN).mp (e1.trans e2.symm)
theorem store_ok2 {M : Model} {A : Around} {E : Value->Shared->Prop} {i : Nat} {x : Str} {v : V} {u : Value} {Q : Unit->Shared->Prop} (I : Inv X pins σ H s) (hN : X.N.Nodup) (hi : X.N[i]? = some x) (hx : Loc X.env.scope x) (r : RelV v u)
  (h : ∀ s',Inv X pins (σ.set i (some v)) H s'->(∃ a,Heap.SameBut a s.heap s'.heap/\(a = X.env.locals\/X.env.cells.lookup x = some a))->Q () s') (hf : X.fn x = true\/X.env.scope.names.lookup x = some .local:=by first | exact .inl rfl | exact .inr rfl | assumption) : wpAny M A (storeName X.env x u) Q E s:=by
 obtain ⟨m,hn,hl⟩:=id I.loc
 have hcls : (X.env.scope.kind == .class || (X.env.scope.kind == .module && X.env.locals != X.env.globals)) = false:=by rw [I.ok.kind];rfl
 have hiσ : i < σ.length:=by rw [I.len];exact (List.getElem?_eq_some_iff.mp hi).1
 have cne:=I.cne
 have tracked : ∀ {a : Addr} {h' : Heap},(∃ o,s.heap.get? a = some o/\H a = none)->Heap.SameBut a s.heap h'->HOk X.prog X.w H h':=fun {a h'} ha hs b ob e=>by
  obtain ⟨_,_,hfree⟩:=ha
  refine (I.hok b ob e).stay (fun c w' hc q=>(hs.2 c ?_).trans q) (fun _ q=>q) fun _ _ q=>q
  rintro rfl
  rcases hc with rfl | hc
  ·rw [hfree] at e;cases e
  ·rw [hfree] at hc;cases hc
 rcases hx with hk | hk
 ·refine wpAny_storeName_local hk hn (fun h' hn' hs=>?_) hcls
  obtain ⟨oL,_,_,hoL,_⟩:=id hn
  refine h _ ⟨I.ok,I.os,I.bare,⟨fun b o e n hb hx=>?_,fun b o e n hb hx=>?_,I.base.free,fun b o e hx=>?_,I.base.tups,I.base.frzs,I.base.tbls⟩,⟨_,hn',fun j y v' e1 e2 e3=>?_⟩,fun y c e=>?_,I.free,I.freeC,fun p hp=>?_,tracked ⟨oL,hoL,I.free⟩ hs,by simpa using I.len⟩ ⟨_,hs,.inl rfl⟩
  ·exact (hs.2 b (Nat.ne_of_lt (Nat.lt_of_lt_of_le (Heap.lt_size e) I.ok.above))).trans (I.base.keep b o e n hb hx)
  ·obtain ⟨sl,e1⟩:=I.base.slot b o e n hb hx
   exact ⟨sl,(hs.2 b (Nat.ne_of_lt (Nat.lt_of_lt_of_le (Heap.lt_size e) I.ok.above))).trans e1⟩
  ·obtain ⟨o',e1⟩:=I.base.there b o e hx
   exact ⟨o',(hs.2 b (Nat.ne_of_lt (Nat.lt_of_lt_of_le (Heap.lt_size e) I.ok.above))).trans e1⟩
  ·by_cases hj : j = i
   ·subst hj
    rw [hi] at e1;cases e1
    rw [List.getElem?_set_self hiσ] at e2
    cases e2
    exact ⟨u,r,.inl ⟨hk,by simp⟩⟩
   ·rw [List.getElem?_set_ne (Ne.symm hj)] at e2
    obtain ⟨u',r',q⟩:=hl j y v' e1 e2 e3
    refine ⟨u',r',?_⟩
    rcases q with ⟨k,e⟩ | ⟨k,c,e,z⟩
    ·refine .inl ⟨k,?_⟩
     have : y ≠ x:=fun e=>hj (nodup_ix hN e1 (e ▸ hi))
     simp [this,e]
    ·exact .inr ⟨k,c,e,z.sameBut hs (cne y c e)⟩
  ·obtain ⟨w',z⟩:=I.cell y c e
   exact ⟨w',z.sameBut hs (cne y c e)⟩
  ·obtain ⟨e,n,ne,nf,d⟩:=I.pin p hp
   exact ⟨(hs.2 p.1 ne).trans e,n,ne,nf,d⟩
 ·have hfn : X.fn x = true:=by
   rcases hf with z | z
   ·exact z
   ·rw [z] at hk;cases hk
  obtain ⟨c,hc⟩:=I.ok.has x (.inl hk)
  obtain ⟨w',z⟩:=I.cell x c hc
  refine wpAny_storeName_cell I.ok.kind hk hc z (fun h' hc' hs=>?_)
  obtain ⟨oc,hoc,hocd⟩:=id z
  refine h { s with heap:=h' } ⟨I.ok,I.os,I.bare,⟨fun b o e n hb hx=>?_,fun b o e n hb hx=>?_,I.base.free,fun b o e hx=>?_,I.base.tups,I.base.frzs,I.base.tbls⟩,⟨m,hn.sameBut hs (Ne.symm (cne x c hc)),fun j y v' e1 e2 e3=>?_⟩,fun y c' e=>?_,I.free,I.freeC,fun p hp=>?_,tracked ⟨oc,hoc,I.freeC x c hc⟩ hs,by simpa using I.len⟩ ⟨c,hs,.inr hc⟩
  ·exact (hs.2 b (Nat.ne_of_lt (Nat.lt_of_lt_of_le (Heap.lt_size e) (I.ok.cab x c hfn hc)))).trans (I.base.keep b o e n hb hx)
  ·obtain ⟨sl,e1⟩:=I.base.slot b o e n hb hx
   exact ⟨sl,(hs.2 b (Nat.ne_of_lt (Nat.lt_of_lt_of_le (Heap.lt_size e) (I.ok.cab x c hfn hc)))).trans e1⟩
  ·obtain ⟨o',e1⟩:=I.base.there b o e hx
   exact ⟨o',(hs.2 b (Nat.ne_of_lt (Nat.lt_of_lt_of_le (Heap.lt_size e) (I.ok.cab x c hfn hc)))).trans e1⟩
  ·by_cases hj : j = i
   ·subst hj
    rw [hi] at e1;cases e1
    rw [List.getElem?_set_self hiσ] at e2
    cases e2
    exact ⟨u,r,.inr ⟨.inl hk,c,hc,hc'⟩⟩
   ·rw [List.getElem?_set_ne (Ne.symm hj)] at e2
    obtain ⟨u',r',q⟩:=hl j y v' e1 e2 e3
    refine ⟨u',r',?_⟩
    rcases q with q | ⟨k,c',e,z'⟩
    ·exact .inl q
    ·refine .inr ⟨k,c',e,z'.sameBut hs ?_⟩
     rintro rfl
     exact hj (nodup_ix hN e1 (I.ok.inj _ _ _ e hc ▸ hi))
  ·by_cases hcc : c' = c
   ·subst hcc;exact ⟨_,hc'⟩
   ·obtain ⟨w2,z2⟩:=I.cell y c' e
    exact ⟨w2,z2.sameBut hs hcc⟩
  ·obtain ⟨e,n,ne,nf,d⟩:=I.pin p hp
   refine ⟨(hs.2 p.1 ?_).trans e,n,ne,nf,d⟩
   intro q
   rw [q,hoc] at e
   have q' : oc = p.2:=Option.some.inj e
   exact d w' (by rw [<- q'];exact hocd)
theorem store_ok {M : Model} {A : Around} {E : Value->Shared->Prop} {i : Nat} {x : Str} {v : V} {u : Value} {Q : Unit->Shared->Prop} (I : Inv X pins σ H s) (hN : X.N.Nodup) (hi : X.N[i]? = some x) (hx : Loc X.env.scope x) (r : RelV v u)
  (h : ∀ s',Inv X pins (σ.set i (some v)) H s'->Q () s') (hf : X.fn x = true\/X.env.scope.names.lookup x = some .local:=by first | exact .inl rfl | exact .inr rfl | assumption) : wpAny M A (storeName X.env x u) Q E s :=
 store_ok2 I hN hi hx r (fun s' I' _=>h s' I') hf
theorem Inv.call' {s' : Shared} {ch : List Addr} (I : Inv X pins σ H s) (ho : s'.os = s.os) (u : Un (frs X.stack) ch H H' s.heap s'.heap) (hok : HOk X.prog X.w H' s'.heap) (hg : GOk s.gens s'.gens)
  (hch : ∀ b ∈ ch,(b ∈ X.ex\/X.s₀.heap.objs.size <= b)/\b ≠ X.env.locals/\(∀ x c,X.env.cells.lookup x = some c->c ≠ b)/\∀ p ∈ X.pn ++ pins,p.1 ≠ b) : Inv X pins σ H' s':=by
 obtain ⟨h',g',d',t',o'⟩:=s'
 have e : o' = s.os:=ho
 subst e
 exact I.call (g':=g') (t':=t') (d':=d') u hok hg hch
end
abbrev XK:=Value->Option Addr->Hp->Prop
abbrev St:=List (Option V)
abbrev VK:=V->Hp->Prop
abbrev TE:=St->Hp->VK->Prop
abbrev TT:=St->Hp->(Bool->Hp->Prop)->Prop
abbrev TA:=St->Hp->(List V->Hp->Prop)->Prop
structure Ends where
 nx : St->Hp->Prop
 rt : VK
 bk : St->Hp->Prop:=fun _ _=>False
 ct : St->Hp->Prop:=fun _ _=>False
abbrev TS:=Ends->St->Hp->Prop
def EP (X : Cx) (pins : List (Addr × Obj)) (σ : St) (Q : VK) (u : Value) (s' : Shared) : Prop := ∃ v H',Inv X pins σ H' s'/\RelV v u/\Q v H'
def TP (X : Cx) (pins : List (Addr × Obj)) (σ : St) (Q : Bool->Hp->Prop) (b : Bool) (s' : Shared) : Prop := ∃ H',Inv X pins σ H' s'/\Q b H'
def AP (X : Cx) (pins : List (Addr × Obj)) (σ : St) (Q : List V->Hp->Prop) (us : List Value) (s' : Shared) : Prop := ∃ vs H',Inv X pins σ H' s'/\Vals vs us/\Q vs H'
def SP (X : Cx) (pins : List (Addr × Obj)) (D : Ends) (f : Flow) (s' : Shared) : Prop :=
 match f with
 | .next=>∃ σ' H',Inv X pins σ' H' s'/\D.nx σ' H'
 | .brk=>∃ σ' H',Inv X pins σ' H' s'/\D.bk σ' H'
 | .cont=>∃ σ' H',Inv X pins σ' H' s'/\D.ct σ' H'
 | .ret u=>∃ v σ' H',Inv X pins σ' H' s'/\RelV v u/\D.rt v H'
def PE (X : Cx) (e : Expr) (t : TE) : Prop :=
 ∀ (pins : List (Addr × Obj)) (s : Shared) (σ : St) (H : Hp) (Q : VK),Inv X pins σ H s->t σ H Q->wpAny (model X.prog X.w) X.A (eval e X.env) (EP X pins σ Q) X.xe s
def PT (X : Cx) (e : Expr) (t : TT) : Prop :=
 ∀ (pins : List (Addr × Obj)) (s : Shared) (σ : St) (H : Hp) (Q : Bool->Hp->Prop),Inv X pins σ H s->t σ H Q->wpAny (model X.prog X.w) X.A (isTrue e X.env (eval e X.env)) (TP X pins σ Q) X.xe s
def PW (X : Cx) (e : Expr) (t : TT) : Prop :=
 ∀ (whole : Sem Value) (pins : List (Addr × Obj)) (s : Shared) (σ : St) (H : Hp) (Q : Bool->Hp->Prop),Inv X pins σ H s->t σ H Q->wpAny (model X.prog X.w) X.A (isTrue e X.env whole) (TP X pins σ Q) X.xe s
theorem PW.pt {X : Cx} {e : Expr} {t : TT} (h : PW X e t) : PT X e t:=h _
def PA (X : Cx) (es : List Expr) (t : TA) : Prop :=
 ∀ (pos : Pos) (pins : List (Addr × Obj)) (s : Shared) (σ : St) (H : Hp) (Q : List V->Hp->Prop),Inv X pins σ H s->t σ H Q->wpAny (model X.prog X.w) X.A (spliced (backTo pos (starEach es X.env))) (AP X pins σ Q) X.xe s
def PS (X : Cx) (st : Stmt) (t : TS) : Prop :=
 ∀ (pins : List (Addr × Obj)) (s : Shared) (σ : St) (H : Hp) (D : Ends),Inv X pins σ H s->t D σ H->wpAny (model X.prog X.w) X.A (exec st X.env) (SP X pins D) X.xe s
def PSs (X : Cx) (st : List Stmt) (t : TS) : Prop :=
 ∀ (pins : List (Addr × Obj)) (s : Shared) (σ : St) (H : Hp) (D : Ends),Inv X pins σ H s->t D σ H->wpAny (model X.prog X.w) X.A (execs st X.env) (SP X pins D) X.xe s
theorem thn {α : Type} {t : Sem α} {Q Q' : α->Shared->Prop} {M : Model} {A : Around} {E : Value->Shared->Prop} {s : Shared} (h : wpAny M A t Q E s) (hQ : ∀ a s,Q a s->Q' a s) : wpAny M A t Q' E s:=wpAny_mono h hQ fun _ _ x=>x
end L2
namespace L2
open PySem PySem.Spec PyProof.Rows
section
variable {X : Cx}
def tVar (i : Nat) : TE:=fun σ H Q=>∃ v,σ[i]? = some (some v)/\Q v H
def tC (v : V) : TE:=fun _ H Q=>Q v H
theorem pe_var {i : Nat} {x : Str} {pos : Pos} (hN : X.N[i]? = some x) (hv : Vis X.env.scope x) (hd : (x == ("__debug__" : Str)) = false:=by decide) (hcd : (x == ("__classdict__" : Str)) = false:=by decide) : PE X (.Name x pos) (tVar i):=by
 intro pins s σ H Q I h
 obtain ⟨v,e,h⟩:=h
 obtain ⟨m,hn,hl⟩:=I.loc
 obtain ⟨u,r,l⟩:=hl i x v hN e hv
 have fin : EP X pins σ Q u s:=⟨v,H,I,r,h⟩
 rcases l with ⟨hk,hm⟩ | ⟨hk,c,hc,hcell⟩
 ·exact wpAny_Name (wpAny_loadName_local I.ok.kind hk hn hm fin) hd
 ·rcases hk with hk | hk
  ·exact wpAny_Name (wpAny_loadName_cell I.ok.kind hk hc hcell fin) hd
  ·exact wpAny_Name (wpAny_loadName_free I.ok.kind hk hc hcell fin hcd) hd
theorem pe_int {i j pos} : PE X (.Constant (.int i) j pos) (tC (.int i)):=fun _ _ _ H _ I h=>wpAny_Constant_int ⟨.int i,H,I.tok _,⟨_,rfl⟩,h⟩
theorem pe_bl {b j pos} : PE X (.Constant (.bool b) j pos) (tC (.bl b)):=fun _ _ _ H _ I h=>Constant_bool ⟨.bl b,H,I,rfl,h⟩
theorem pe_str {x j pos} : PE X (.Constant (.str x) j pos) (tC (.str x)):=fun _ _ _ H _ I h=>Calls.Constant_str ⟨.str x,H,I.tok _,⟨_,rfl⟩,h⟩
def Gl (X : Cx) (x : Str) : Prop:=X.env.kindOf x = some .globalImplicit
theorem ld_glob {E : Value->Shared->Prop} {pins : List (Addr × Obj)} {s : Shared} {σ : St} {H : Hp} {x : Str} {u : Value} {pos : Pos} {Q : Value->Shared->Prop} (I : Inv X pins σ H s) (hg : Gl X x) (hm : X.mg x = some u) (h : Q u s)
  (hd : (x == ("__debug__" : Str)) = false:=by decide) : wpAny (model X.prog X.w) X.A (eval (.Name x pos) X.env) Q E s :=
 Calls.Name_function_global I.ok.kind hg (Calls.loadGlobal_global (by rw [I.ok.glob];exact I.mod.glob.keeps I.bk) hm h) hd
theorem ld_blt {E : Value->Shared->Prop} {pins : List (Addr × Obj)} {s : Shared} {σ : St} {H : Hp} {x : Str} {u : Value} {pos : Pos} {Q : Value->Shared->Prop} (I : Inv X pins σ H s) (hg : Gl X x) (hm : X.mg x = none) (hv : bootBuiltins x = some u) (h : Q u s)
  (hn : x ≠ "__name__" := by decide) (hd : (x == ("__debug__" : Str)) = false:=by decide) : wpAny (model X.prog X.w) X.A (eval (.Name x pos) X.env) Q E s:=by
 obtain ⟨mb,h1,h2⟩:=I.mod.blt
 exact Calls.Name_function_global I.ok.kind hg (Calls.loadGlobal_builtin (by rw [I.ok.glob];exact I.mod.glob.keeps I.bk) hm (by rw [I.ok.blt];exact h1.keeps I.bk) ((h2 x hn).trans hv) h) hd
theorem pe_glob {x : Str} {v : V} {u : Value} {pos : Pos} (hg : Gl X x) (hm : X.mg x = some u) (r : RelV v u) (hd : (x == ("__debug__" : Str)) = false:=by decide) : PE X (.Name x pos) (tC v) :=
 fun _ _ _ H _ I h=>ld_glob I hg hm ⟨v,H,I,r,h⟩ hd
theorem pe_bltn {x : Str} {v : V} {u : Value} {pos : Pos} (hg : Gl X x) (hm : X.mg x = none) (hv : bootBuiltins x = some u) (r : RelV v u) (hn : x ≠ "__name__" := by decide) (hd : (x == ("__debug__" : Str)) = false:=by decide) : PE X (.Name x pos) (tC v) :=
 fun _ _ _ H _ I h=>ld_blt I hg hm hv ⟨v,H,I,r,h⟩ hn hd
variable {a b : Expr} {ta tb : TE} {pos : Pos}
def tB (t : TE) : TT:=fun σ H Q=>t σ H fun x H1=>∃ c,x = .bl c/\Q c H1
theorem pt_val {e : Expr} {t : TE} (h : PE X e t) (he : ∀ whole, isTrue e X.env whole = (do let v ← whole; standAt e.pos; holding [v] (truthy v)) := by intro _; rfl) : PT X e (tB t) := by
  intro pins s σ H Q I hw
  refine isTrue_plain (thn (h pins s σ H _ I hw) fun v s1 ⟨x, H1, I1, r1, q1⟩ => ?_) (he _)
  obtain ⟨d, rfl, q⟩ := q1
  cases r1
  exact wpAny_truthy_bool ⟨H1, I1, q⟩
variable {tA tB' : TT} {rest : List Expr}
def tAnd (t u : TT) : TT:=fun σ H Q=>t σ H fun c H1=>if c = true then u σ H1 Q else Q false H1
def tOr (t u : TT) : TT:=fun σ H Q=>t σ H fun c H1=>if c = true then Q true H1 else u σ H1 Q
def tNot (t : TT) : TT:=fun σ H Q=>t σ H fun c H1=>Q (!c) H1
theorem pw_and1 (ha : PT X a tA) : PW X (.BoolOp .And [a] pos) tA:=by
 intro wh pins s σ H Q I h
 refine isTrue_and (thn (ha pins s σ H Q I h) fun c s1 e=>?_)
 cases c with
 | true=>exact isTrue_and_nil e
 | false=>exact e
theorem pw_or1 (ha : PT X a tA) : PW X (.BoolOp .Or [a] pos) tA:=by
 intro wh pins s σ H Q I h
 refine isTrue_or (thn (ha pins s σ H Q I h) fun c s1 e=>?_)
 cases c with
 | false=>exact isTrue_or_nil e
 | true=>exact e
theorem pw_and (ha : PT X a tA) (hb : PW X (.BoolOp .And (b :: rest) pos) tB') : PW X (.BoolOp .And (a :: b :: rest) pos) (tAnd tA tB'):=by
 intro wh pins s σ H Q I h
 refine isTrue_and (thn (ha pins s σ H _ I h) fun c s1 ⟨H1,I1,q1⟩=>?_)
 cases c with
 | true=>exact hb wh pins s1 σ H1 Q I1 q1
 | false=>exact ⟨H1,I1,q1⟩
theorem pw_or (ha : PT X a tA) (hb : PW X (.BoolOp .Or (b :: rest) pos) tB') : PW X (.BoolOp .Or (a :: b :: rest) pos) (tOr tA tB'):=by
 intro wh pins s σ H Q I h
 refine isTrue_or (thn (ha pins s σ H _ I h) fun c s1 ⟨H1,I1,q1⟩=>?_)
 cases c with
 | true=>exact ⟨H1,I1,q1⟩
 | false=>exact hb wh pins s1 σ H1 Q I1 q1
theorem pt_not (ha : PT X a tA) : PT X (.UnaryOp .Not a pos) (tNot tA):=by
 intro pins s σ H Q I h
 exact isTrue_not (ha pins s σ H (fun c H1=>Q (!c) H1) I h)
def tAndV (ta tb : TE) : TE:=fun σ H Q=>ta σ H fun x H1=>∃ c,x = .bl c/\if c = true then tb σ H1 Q else Q (.bl false) H1
def tOrV (ta tb : TE) : TE:=fun σ H Q=>ta σ H fun x H1=>∃ c,x = .bl c/\if c = true then Q (.bl true) H1 else tb σ H1 Q
def tNotV (ta : TE) : TE:=fun σ H Q=>ta σ H fun x H1=>∃ c,x = .bl c/\Q (.bl (!c)) H1
theorem pe_one {op} {t : TE} (h : PE X a t) : PE X (.BoolOp op [a] pos) t:=fun pins s σ H Q I hw=>BoolOp_one (h pins s σ H Q I hw)
theorem pe_and (ha : PE X a ta) (hb : PE X (.BoolOp .And (b :: rest) pos) tb) : PE X (.BoolOp .And (a :: b :: rest) pos) (tAndV ta tb):=by
 intro pins s σ H Q I h
 refine BoolOp_and (thn (ha pins s σ H _ I h) fun v s1 ⟨x,H1,I1,r1,q1⟩=>?_)
 obtain ⟨c,rfl,q1⟩:=q1
 cases r1
 refine wpAny_truthy_bool ?_
 cases c with
 | true=>exact hb pins s1 σ H1 Q I1 q1
 | false=>exact ⟨.bl false,H1,I1,rfl,q1⟩
theorem pe_or (ha : PE X a ta) (hb : PE X (.BoolOp .Or (b :: rest) pos) tb) : PE X (.BoolOp .Or (a :: b :: rest) pos) (tOrV ta tb):=by
 intro pins s σ H Q I h
 refine BoolOp_or (thn (ha pins s σ H _ I h) fun v s1 ⟨x,H1,I1,r1,q1⟩=>?_)
 obtain ⟨c,rfl,q1⟩:=q1
 cases r1
 refine wpAny_truthy_bool ?_
 cases c with
 | false=>exact hb pins s1 σ H1 Q I1 q1
 | true=>exact ⟨.bl true,H1,I1,rfl,q1⟩
theorem pe_not (ha : PE X a ta) : PE X (.UnaryOp .Not a pos) (tNotV ta):=by
 intro pins s σ H Q I h
 refine UnaryOp_ (thn (ha pins s σ H _ I h) fun v s1 ⟨x,H1,I1,r1,q1⟩=>?_)
 obtain ⟨c,rfl,q1⟩:=q1
 cases r1
 exact not_of (wpAny_truthy_bool ⟨.bl (!c),H1,I1,rfl,q1⟩)
def tIf (t : TT) (ta tb : TE) : TE:=fun σ H Q=>t σ H fun c H1=>if c = true then ta σ H1 Q else tb σ H1 Q
theorem pe_ifExp {c : Expr} (hc : PT X c tA) (ha : PE X a ta) (hb : PE X b tb) : PE X (.IfExp c a b pos) (tIf tA ta tb):=by
 intro pins s σ H Q I h
 refine wpAny_IfExp (thn (hc pins s σ H _ I h) fun d s1 ⟨H1,I1,q1⟩=>?_)
 cases d with
 | true=>exact ha pins s1 σ H1 Q I1 q1
 | false=>exact hb pins s1 σ H1 Q I1 q1
end
end L2
namespace L2
open PySem PySem.Spec PyProof.Rows
def SqL (K : PySem.W.Frag) (H : Hp) (a : Addr) (xs : List V) : Prop :=
 Rd H a (.lst xs) \/
  ∃ (o : Obj) (its : Array Value) (n : Nat),K.lookup a = some o/\o.cls = .type "list"/\o.dict = none/\o.data = .seq its n/\its.size <= sizeLine/\Vals xs its.toList
def SqT (K : PySem.W.Frag) (H : Hp) (a : Addr) (xs : List V) : Prop :=
 Rd H a (.tup xs) \/
  ∃ (o : Obj) (its : Array Value) (n : Nat),K.lookup a = some o/\o.cls = .type "tuple"/\o.data = .seq its n/\its.size <= sizeLine/\Vals xs its.toList
def absV : Value->Option V
 | .none=>some .non
 | .bool b=>some (.bl b)
 | .int i _=>some (.int i)
 | .str x _=>some (.str x)
 | .bytes b _=>some (.byt b)
 | .float b _=>some (.flt b)
 | .ref a=>some (.ref a)
 | .type n=>some (.ty n)
 | _=>none
theorem RelV.abs {x : V} {u : Value} (r : RelV x u) : absV u = some x:=by
 cases x with
 | non=>cases r;rfl
 | bl _=>cases r;rfl
 | int _=>obtain ⟨t,rfl⟩:=r;rfl
 | str _=>obtain ⟨t,rfl⟩:=r;rfl
 | byt _=>obtain ⟨t,rfl⟩:=r;rfl
 | flt _=>obtain ⟨t,rfl⟩:=r;rfl
 | ref _=>cases r;rfl
 | ty _=>cases r;rfl
theorem RelV.inj {x y : V} {u : Value} (r : RelV x u) (q : RelV y u) : x = y:=Option.some.inj (r.abs.symm.trans q.abs)
theorem Vals.inj : ∀ {xs ys : List V} {us : List Value},Vals xs us->Vals ys us->xs = ys
 | _,_,_,.nil,.nil=>rfl
 | _,_,_,.cons r t,.cons r' t'=>by rw [r.inj r',Vals.inj t t']
section
variable {X : Cx} {pins : List (Addr × Obj)} {σ : St} {H : Hp} {s : Shared} {a : Addr} {xs ys : List V}
theorem SqL.of {K : PySem.W.Frag} (h : H a = some (.lst xs)) : SqL K H a xs:=.inl (.inl h)
theorem SqT.of {K : PySem.W.Frag} (h : H a = some (.tup xs)) : SqT K H a xs:=.inl (.inl h)
theorem Inv.list (I : Inv X pins σ H s) (h : SqL X.K H a xs) : ∃ its : List Value,Vals xs its/\PlainL s.heap a its.toArray/\xs.length <= sizeLine:=by
 rcases h with h | ⟨o,its,n,hk,hc,hd,hs,hz,r⟩
 ·obtain ⟨z,its,n,r,e⟩:=h.ok I.hok
  exact ⟨its,r,⟨_,n,e,rfl,rfl,rfl⟩,z⟩
 ·refine ⟨its.toList,r,⟨o,n,I.kIn a o hk,hc,hd,by simpa using hs⟩,?_⟩
  have e:=r.length
  simp only [Array.length_toList] at e
  omega
theorem Inv.tuple (I : Inv X pins σ H s) (h : SqT X.K H a xs) : ∃ its : List Value,Vals xs its/\IsTup s.heap a its.toArray/\xs.length <= sizeLine:=by
 rcases h with h | ⟨o,its,n,hk,hc,hs,hz,r⟩
 ·obtain ⟨z,its,r,p⟩:=h.ok I.hok
  exact ⟨its,r,p,z⟩
 ·refine ⟨its.toList,r,⟨o,I.kIn a o hk,hc,n,by simpa using hs⟩,?_⟩
  have e:=r.length
  simp only [Array.length_toList] at e
  omega
theorem Inv.list_inj (I : Inv X pins σ H s) (h : SqL X.K H a xs) (h' : SqL X.K H a ys) : xs = ys:=by
 obtain ⟨its,r,⟨o,n,e,_,_,d⟩,_⟩:=I.list h
 obtain ⟨its',r',⟨o',n',e',_,_,d'⟩,_⟩:=I.list h'
 rw [e] at e';cases e'
 rw [d] at d'
 injection d' with d1 _
 have : its = its':=by simpa using congrArg Array.toList d1
 subst this
 exact r.inj r'
theorem Inv.tuple_inj (I : Inv X pins σ H s) (h : SqT X.K H a xs) (h' : SqT X.K H a ys) : xs = ys:=by
 obtain ⟨its,r,⟨o,e,_,n,d⟩,_⟩:=I.tuple h
 obtain ⟨its',r',⟨o',e',_,n',d'⟩,_⟩:=I.tuple h'
 rw [e] at e';cases e'
 rw [d] at d'
 injection d' with d1 _
 have : its = its':=by simpa using congrArg Array.toList d1
 subst this
 exact r.inj r'
end
abbrev Cx.wish (X : Cx) (E : Value->Shared->Prop) : Cx:={ X with xe:=E }
abbrev Cx.nox (X : Cx) : Cx:=X.wish fun _ _=>False
theorem Cx.Ok.wish {X : Cx} (ok : X.Ok) (E : Value->Shared->Prop) : (X.wish E).Ok :=
 ⟨ok.mod,ok.kind,ok.glob,ok.blt,ok.above,ok.inj,ok.has,ok.cab,ok.hd,ok.frames,ok.stk,ok.exf,ok.bs,ok.bsz,ok.noex,ok.exfs,ok.funs,ok.frf⟩
theorem Cx.Ok.unwish {X : Cx} {E : Value->Shared->Prop} (ok : (X.wish E).Ok) : X.Ok :=
 ⟨ok.mod,ok.kind,ok.glob,ok.blt,ok.above,ok.inj,ok.has,ok.cab,ok.hd,ok.frames,ok.stk,ok.exf,ok.bs,ok.bsz,ok.noex,ok.exfs,ok.funs,ok.frf⟩
section
variable {X : Cx} {pins : List (Addr × Obj)} {σ : St} {H : Hp} {s : Shared} {E : Value->Shared->Prop}
theorem Inv.wish (I : Inv X pins σ H s) (E : Value->Shared->Prop) : Inv (X.wish E) pins σ H s:=⟨I.ok.wish E,I.os,I.bare,I.base,I.loc,I.cell,I.free,I.freeC,I.pin,I.hok,I.len⟩
theorem Inv.unwish (I : Inv (X.wish E) pins σ H s) : Inv X pins σ H s:=⟨I.ok.unwish,I.os,I.bare,I.base,I.loc,I.cell,I.free,I.freeC,I.pin,I.hok,I.len⟩
theorem SP.unwish {D : Ends} {f : Flow} {s' : Shared} (h : SP (X.wish E) pins D f s') : SP X pins D f s':=by
 cases f with
 | next=>obtain ⟨σ',H',I,q⟩:=h;exact ⟨σ',H',I.unwish,q⟩
 | brk=>obtain ⟨σ',H',I,q⟩:=h;exact ⟨σ',H',I.unwish,q⟩
 | cont=>obtain ⟨σ',H',I,q⟩:=h;exact ⟨σ',H',I.unwish,q⟩
 | ret u=>obtain ⟨v,σ',H',I,r,q⟩:=h;exact ⟨v,σ',H',I.unwish,r,q⟩
theorem PE.nox {e : Expr} {t : TE} (h : PE X.nox e t) : PE X e t:=fun pins s σ H Q I hw =>
 wpAny_mono (h pins s σ H Q (I.wish _) hw) (fun _ _ ⟨v,H',I',r,q⟩=>⟨v,H',I'.unwish,r,q⟩) fun _ _ z=>False.elim z
theorem PT.nox {e : Expr} {t : TT} (h : PT X.nox e t) : PT X e t:=fun pins s σ H Q I hw =>
 wpAny_mono (h pins s σ H Q (I.wish _) hw) (fun _ _ ⟨H',I',q⟩=>⟨H',I'.unwish,q⟩) fun _ _ z=>False.elim z
theorem PSs.nox {st : List Stmt} {t : TS} (h : PSs X.nox st t) : PSs X st t:=fun pins s σ H D I hw =>
 wpAny_mono (h pins s σ H D (I.wish _) hw) (fun _ _ q=>q.unwish) fun _ _ z=>False.elim z
end
section
variable {X : Cx} {st : Stmt} {rest : List Stmt} {t u : TS} {e : Expr} {te : TE} {pos : Pos}
def tNext : TS:=fun D σ H=>D.nx σ H
def tSeq (t u : TS) : TS:=fun D σ H=>t { D with nx:=u D } σ H
theorem pss_nil : PSs X [] tNext:=fun _ _ σ H _ I h=>wpAny_execs_nil ⟨σ,H,I,h⟩
theorem pss_cons (h1 : PS X st t) (h2 : PSs X rest u) : PSs X (st :: rest) (tSeq t u):=by
 intro pins s σ H D I h
 refine wpAny_execs_cons (thn (h1 pins s σ H { D with nx:=u D } I h) fun f s1 q=>?_)
 cases f with
 | next =>
  obtain ⟨σ',H',I',q⟩:=q
  exact h2 pins s1 σ' H' D I' q
 | ret v=>exact q
 | brk=>exact q
 | cont=>exact q
theorem pss_one (h1 : PS X st t) : PSs X [st] t:=by
 intro pins s σ H D I h
 refine wpAny_execs_cons (thn (h1 pins s σ H D I h) fun f s1 q=>?_)
 cases f with
 | next=>exact wpAny_execs_nil q
 | ret v=>exact q
 | brk=>exact q
 | cont=>exact q
theorem Inv.quiet {pins : List (Addr × Obj)} {σ : St} {H : Hp} {s : Shared} (I : Inv X pins σ H s) : interactive X.env = false:=by simp [interactive,I.ok.kind]
def tDrop (te : TE) : TS:=fun D σ H=>te σ H fun _ H1=>D.nx σ H1
theorem ps_expr (he : PE X e te) (hs : swapsWith e none pos.line X.env = pure false:=by rfl) : PS X (.Expr e pos) (tDrop te):=by
 intro pins s σ H D I h
 exact wpAny_Expr_any (thn (he pins s σ H _ I h) fun v s1 ⟨x,H1,I1,r1,q1⟩=>⟨σ,H1,I1,q1⟩) I.quiet hs
def tRet (te : TE) : TS:=fun D σ H=>te σ H D.rt
theorem ps_ret (he : PE X e te) : PS X (.Return (some e) pos) (tRet te):=by
 intro pins s σ H D I h
 exact wpAny_Return_some (thn (he pins s σ H _ I h) fun v s1 ⟨x,H1,I1,r1,q1⟩=>⟨x,σ,H1,I1,r1,q1⟩)
def tIfS (c : TT) (t u : TS) : TS:=fun D σ H=>c σ H fun b H1=>if b = true then t D σ H1 else u D σ H1
theorem ps_if {c : Expr} {a b : List Stmt} {tc : TT} (hc : PT X c tc) (ha : PSs X a t) (hb : PSs X b u) : PS X (.If c a b pos) (tIfS tc t u):=by
 intro pins s σ H D I h
 refine wpAny_If (thn (hc pins s σ H _ I h) fun d s1 ⟨H1,I1,q1⟩=>?_)
 cases d with
 | true=>exact ha pins s1 σ H1 D I1 q1
 | false=>exact hb pins s1 σ H1 D I1 q1
end
abbrev TG:=V->St->Hp->(St->Hp->Prop)->Prop
abbrev TGs:=List V->St->Hp->(St->Hp->Prop)->Prop
def PG (X : Cx) (target : Expr) (t : TG) : Prop :=
 ∀ (pins : List (Addr × Obj)) (s : Shared) (σ : St) (H : Hp) (v : V) (u : Value) (Q : St->Hp->Prop),Inv X pins σ H s->RelV v u->t v σ H Q ->
  wpAny (model X.prog X.w) X.A (assign target X.env u) (fun _ s'=>∃ σ' H',Inv X pins σ' H' s'/\Q σ' H') X.xe s
def PGs (X : Cx) (ts : List Expr) (t : TGs) : Prop :=
 ∀ (pins : List (Addr × Obj)) (s : Shared) (σ : St) (H : Hp) (vs : List V) (us : List Value) (Q : St->Hp->Prop),Inv X pins σ H s->Vals vs us->t vs σ H Q ->
  wpAny (model X.prog X.w) X.A (assignInOrder ((assignEach ts X.env).map (·.2)) us) (fun _ s'=>∃ σ' H',Inv X pins σ' H' s'/\Q σ' H') X.xe s
abbrev TSet:=V->V->V->Hp->(Hp->Prop)->Prop
def PSet (X : Cx) (t : TSet) : Prop :=
 ∀ (pins : List (Addr × Obj)) (s : Shared) (σ : St) (H : Hp) (o i v : V) (ov iv u : Value) (Q : Hp->Prop),Inv X pins σ H s->RelV o ov->RelV i iv->RelV v u->t o i v H Q ->
  wpAny (model X.prog X.w) X.A (setItem ov iv u) (fun _ s'=>∃ H',Inv X pins σ H' s'/\Q H') X.xe s
section
variable {X : Cx} {pos : Pos}
def gName (i : Nat) : TG:=fun v σ H Q=>Q (σ.set i (some v)) H
theorem pg_name {i : Nat} {x : Str} (hN : X.N.Nodup) (hi : X.N[i]? = some x) (hx : Loc X.env.scope x) (hf : X.fn x = true\/X.env.scope.names.lookup x = some .local:=by first | exact .inl rfl | exact .inr rfl | assumption) : PG X (.Name x pos) (gName i):=by
 intro pins s σ H v u Q I r h
 exact wpAny_assign_Name (store_ok I hN hi hx r (fun s' I'=>⟨_,H,I',h⟩) hf)
def gNil : TGs:=fun vs σ H Q=>vs = []/\Q σ H
def gCons (t : TG) (u : TGs) : TGs:=fun vs σ H Q=>∃ v r,vs = v :: r/\t v σ H fun σ' H'=>u r σ' H' Q
theorem pgs_nil : PGs X [] gNil:=by
 intro pins s σ H vs us Q I r h
 obtain ⟨e,h⟩:=h
 subst e
 cases r
 exact assignInOrder_nil ⟨σ,H,I,h⟩
theorem pgs_cons {e : Expr} {es : List Expr} {t : TG} {u : TGs} (h1 : PG X e t) (h2 : PGs X es u)
  (hs : (assignEach (e :: es) X.env).map (·.2) = assign e X.env :: (assignEach es X.env).map (·.2):=by rfl) : PGs X (e :: es) (gCons t u):=by
 intro pins s σ H vs us Q I r h
 obtain ⟨v,vr,e1,h⟩:=h
 subst e1
 cases r with
 | cons r rr =>
  rw [hs]
  refine assignInOrder_cons (thn (h1 pins s σ H _ _ _ I r h) fun _ s1 ⟨σ1,H1,I1,q1⟩=>?_)
  exact h2 pins s1 σ1 H1 _ _ Q I1 rr q1
def gTup (K : PySem.W.Frag) (n : Nat) (t : TGs) : TG:=fun v σ H Q=>∃ a xs,v = .ref a/\SqT K H a xs/\xs.length = n/\t xs σ H Q
theorem pg_tup {es : List Expr} {k : Nat} {t : TGs} {n : Nat} (hc : X.calm = true) (h : PGs X es t)
  (hn : (assignEach es X.env).length = n:=by rfl) (hst : (assignEach es X.env).findIdx? (·.1) = none:=by rfl) : PG X (.Tuple es k pos) (gTup X.K n t):=by
 intro pins s σ H v u Q I r hw
 obtain ⟨a,xs,e1,hq,hl,hw⟩:=hw
 subst e1
 cases r
 obtain ⟨its,rv,ht,hz⟩:=I.tuple hq
 refine assign_Tuple_tuple (I.ok.hd hc) ht (by simp [hn,<- hl,rv.length]) hst fun h' hx=>?_
 have I1 : Inv X pins σ H { s with heap:=h' }:=I.kept (t':=s.toks) fun b o e=>hx b o (Nat.ne_of_lt (Heap.lt_size e)) e
 exact h pins _ σ H xs _ Q I1 (by simpa using rv) hw
def gSub (to ti : TE) (t : TSet) : TG:=fun v σ H Q=>to σ H fun o H1=>ti σ H1 fun i H2=>t o i v H2 fun H3=>Q σ H3
theorem pg_sub {o i : Expr} {to ti : TE} {t : TSet} (ho : PE X o to) (hi : PE X i ti) (hs : PSet X t)
  (ha : ∀ v,assign (.Subscript o i pos) X.env v = (do
   let ov <- holding [v] (eval o X.env)
   let iv <- holding [v,ov] (eval i X.env)
   standAt pos
   holding [v,ov,iv] (setItem ov iv v)
   release [v,ov,iv] []):=by intro _;rfl) : PG X (.Subscript o i pos) (gSub to ti t):=by
 intro pins s σ H v u Q I r h
 rw [ha]
 refine wpAny_bind (wpAny_holding (thn (ho pins s σ H _ I h) fun ov s1 ⟨x,H1,I1,r1,q1⟩=>?_))
 refine wpAny_bind (wpAny_holding (thn (hi pins s1 σ H1 _ I1 q1) fun iv s2 ⟨y,H2,I2,r2,q2⟩=>?_))
 refine wpAny_bind (wpAny_standAt (wpAny_bind (wpAny_holding (thn (hs pins s2 σ H2 x y v ov iv u _ I2 r1 r2 r q2) fun _ s3 ⟨H3,I3,q3⟩=>?_))))
 exact wpAny_release ⟨σ,H3,I3,q3⟩
def tAsg (te : TE) (g : TG) : TS:=fun D σ H=>te σ H fun x H1=>g x σ H1 D.nx
theorem ps_asg {tg e : Expr} {te : TE} {g : TG} (he : PE X e te) (hg : PG X tg g) (hs : swapsWithSole [tg] e pos.line X.env = pure false:=by rfl) (hw : swappedStores [tg] e X.env = pure none:=by rfl)
  (h1 : (assignEach [tg] X.env).map (·.2) = [assign tg X.env]:=by rfl) : PS X (.Assign [tg] e pos) (tAsg te g):=by
 intro pins s σ H D I h
 refine wpAny_Assign_stores (thn (he pins s σ H _ I h) fun v s1 ⟨x,H1,I1,r1,q1⟩=>?_) hs hw
 rw [h1]
 exact thn (hg pins s1 σ H1 x v _ I1 r1 q1) fun _ s2 q=>q
theorem ps_set {i : Nat} {x : Str} {e : Expr} {te : TE} {pos' : Pos} (hN : X.N.Nodup) (hi : X.N[i]? = some x) (hx : Loc X.env.scope x) (he : PE X e te) (hs : swapsWith e (some (.Name x pos')) pos.line X.env = pure false:=by rfl) (hf : X.fn x = true\/X.env.scope.names.lookup x = some .local:=by first | exact .inl rfl | exact .inr rfl | assumption) :
  PS X (.Assign [.Name x pos'] e pos) (tAsg te (gName i)):=by
 intro pins s σ H D I h
 refine wpAny_Assign_Name (thn (he pins s σ H _ I h) fun v s1 ⟨y,H1,I1,r1,q1⟩=>?_) hs
 exact store_ok I1 hN hi hx r1 (fun s2 I2=>⟨_,H1,I2,q1⟩) hf
end
section
variable {X : Cx} {pos : Pos}
end
structure It where
 go : Nat->Hp->Prop
 yld : Nat->Hp->V->Hp->Prop
 stop : Nat->Hp->Prop
def FpOk (X : Cx) (pins : List (Addr × Obj)) (H : Hp) (b : Addr) : Prop :=
 H b = none/\b ≠ X.env.locals/\b ∉ X.fs/\(b ∈ X.ex\/X.s₀.heap.objs.size <= b)/\(∀ x c,X.env.cells.lookup x = some c->c ≠ b)/\∀ p ∈ X.pn ++ pins,p.1 ≠ b
theorem Inv.fpOk {X : Cx} {pins : List (Addr × Obj)} {σ : St} {H H' : Hp} {s : Shared} {b : Addr} (I : Inv X pins σ H s) (hb : s.heap.objs.size <= b) (hn : H' b = none) : FpOk X pins H' b:=by
 refine ⟨hn,Nat.ne_of_gt (Nat.lt_of_lt_of_le I.lt hb),I.nofs hb,.inr (Nat.le_trans I.sz hb),fun x c e z=>?_,fun p hp z=>?_⟩
 ·obtain ⟨v,q⟩:=I.cell x c e
  exact absurd (Nat.lt_of_lt_of_le q.lt (by rw [z];exact hb)) (Nat.lt_irrefl _)
 ·exact absurd (Nat.lt_of_lt_of_le (Heap.lt_size (I.pin p hp).1) (by rw [z];exact hb)) (Nat.lt_irrefl _)
structure Turn (P : Program) (w : World) (K : PySem.W.Frag) (tg : Expr) (J : It) (fp : List Addr) (it : Addr) (tn : Nat->Heap->Prop) : Prop where
 mem : it ∈ fp
 obj : ∀ i h,tn i h->∀ b ∈ fp,∃ o,h.get? b = some o/\∀ v,o.data ≠ .cell v
 keep : ∀ i h h',tn i h->(∀ b ∈ fp,∀ o,h.get? b = some o->h'.get? b = some o)->tn i h'
 item : ∀ (X : Cx),X.prog = P->X.w = w->X.K = K->X.calm = true->∀ (i : Nat) (pins : List (Addr × Obj)) (s : Shared) (σ : St) (H : Hp) (E : Value->Shared->Prop),Inv X pins σ H s->(∀ b ∈ fp,FpOk X pins H b)->tn i s.heap->J.go i H ->
  wpAny (model P w) X.A (pyNext (.ref it)) (fun r s1=>∃ u,r = some u /\
   wpAny (model P w) X.A (letOwnedTupleGo tg (.ref it) u) (fun _ s2=>∃ x H',Inv X pins σ H' s2/\RelV x u/\J.yld i H x H'/\tn (i + 1) s2.heap/\∀ b ∈ fp,H' b = none) E s1) E s
 done : ∀ (X : Cx),X.prog = P->X.w = w->X.K = K->X.calm = true->∀ (i : Nat) (pins : List (Addr × Obj)) (s : Shared) (σ : St) (H : Hp) (E : Value->Shared->Prop),Inv X pins σ H s->(∀ b ∈ fp,FpOk X pins H b)->tn i s.heap->J.stop i H ->
  wpAny (model P w) X.A (pyNext (.ref it)) (fun r s1=>r = none/\Inv X pins σ H s1) E s
 self : ∀ (A : Around) (i : Nat) (s : Shared) (Q : Value->Shared->Prop) (E : Value->Shared->Prop),tn i s.heap->Q (.ref it) s->wpAny (model P w) A (pyIter (.ref it)) Q E s
abbrev TI:=St->Hp->(It->Hp->Prop)->Prop
def PIE (X : Cx) (pins : List (Addr × Obj)) (σ : St) (tg : Expr) (R : It->Hp->Prop) (itv : Value) (s2 : Shared) : Prop :=
 ∃ (it : Addr) (fp : List Addr) (tn : Nat->Heap->Prop) (J : It) (H' : Hp),itv = .ref it/\Inv X pins σ H' s2/\Turn X.prog X.w X.K tg J fp it tn/\tn 0 s2.heap/\(∀ b ∈ fp,FpOk X pins H' b)/\R J H'
def PI (X : Cx) (tg iter : Expr) (wi : TI) : Prop :=
 ∀ (pins : List (Addr × Obj)) (s : Shared) (σ : St) (H : Hp) (R : It->Hp->Prop),Inv X pins σ H s->wi σ H R ->
  wpAny (model X.prog X.w) X.A (eval iter X.env) (fun v s1=>wpAny (model X.prog X.w) X.A (pyIter v) (PIE X pins σ tg R) X.xe s1) X.xe s
theorem go_of {M : Model} {A : Around} {E : Value → Shared → Prop} {s : Shared} {tg : Expr} {it : Addr} {u : Value} {o : Obj} {n : String} {vs : Array Value} {Q : Unit → Shared → Prop} (ho : s.heap.get? it = some o) (hc : o.cls = .type n) (hd : o.data = .fields vs)
    (hn : ["enumerate", "zip", "dict_itemiterator", "dict_reverseitemiterator", "odict_iterator", "itertools.zip_longest", "itertools.pairwise"].contains n = false) (hQ : Q () s) : wpAny M A (letOwnedTupleGo tg (.ref it) u) Q E s := by
  unfold letOwnedTupleGo
  cases tg <;> first
    | exact wpAny_pure hQ
    | (cases u <;> first
        | exact wpAny_pure hQ
        | (refine wpAny_bind (wpAny_load ho ?_)
           rw [hc, hd]
           show wpAny M A (if (["enumerate", "zip", "dict_itemiterator", "dict_reverseitemiterator", "odict_iterator", "itertools.zip_longest", "itertools.pairwise"].contains n && vs[0]? == some (rawInt _)) = true then _ else _) Q E s
           rw [if_neg (by intro h; rw [hn, Bool.false_and] at h; cases h)]
           exact wpAny_pure hQ))
def Itl (K : PySem.W.Frag) (a : Addr) : It :=
 ⟨fun i H=>∃ xs x,SqL K H a xs/\xs[i]? = some x,fun i H x H'=>H' = H/\∀ xs,SqL K H a xs->xs[i]? = some x,fun i H=>∃ xs,SqL K H a xs/\xs.length <= i⟩
def Itt (K : PySem.W.Frag) (a : Addr) : It :=
 ⟨fun i H=>∃ xs x,SqT K H a xs/\xs[i]? = some x,fun i H x H'=>H' = H/\∀ xs,SqT K H a xs->xs[i]? = some x,fun i H=>∃ xs,SqT K H a xs/\xs.length <= i⟩
def Itr (lo : Int) (n : Nat) : It:=⟨fun i _=>i < n,fun i H x H'=>H' = H/\x = .int (lo + i),fun i _=>n <= i⟩
theorem turn_list {P : Program} {w : World} {K : PySem.W.Frag} {tg : Expr} (a it : Addr) : Turn P w K tg (Itl K a) [it] it (fun i h=>h.IsListIter it a i) where
 mem:=by simp
 obj:=fun i h st b hb=>by
  have e : b = it:=by simpa using hb
  subst e
  obtain ⟨o,e,c,d⟩:=st
  exact ⟨o,e,fun v z=>by rw [d] at z;cases z⟩
 keep:=fun i h h' st k=>st.at fun o e=>k it (by simp) o e
 item:=by
  intro X hP hw hK hc i pins s σ H E I hf st hg
  subst hP hw hK
  obtain ⟨xs,x,hq,hx⟩:=hg
  obtain ⟨its,rv,p,hz⟩:=I.list hq
  obtain ⟨u,hu,ru⟩:=rv.get hx
  obtain ⟨f0,f1,f2,f3,f4,f5⟩:=hf it (by simp)
  refine wpAny_pyNext_list_item st p.isList (x:=u) (by simpa using hu) fun h' st' sb=>?_
  have I1 : Inv X pins σ H { s with heap:=h' }:=I.turned (t':=s.toks) (fun b o hb e=>(sb.2 b hb).trans e) f0 f1 f3 f4 f5
  obtain ⟨o,e,c,d⟩:=id st'
  exact ⟨u,rfl,go_of (s:={ s with heap:=h' }) e c d (by decide) ⟨x,H,I1,ru,⟨rfl,fun ys hy=>by rw [I.list_inj hy hq];exact hx⟩,st',fun b hb=>(hf b hb).1⟩⟩
 done:=by
  intro X hP hw hK hc i pins s σ H E I hf st hg
  subst hP hw hK
  obtain ⟨xs,hq,hx⟩:=hg
  obtain ⟨its,rv,p,hz⟩:=I.list hq
  obtain ⟨f0,f1,f2,f3,f4,f5⟩:=hf it (by simp)
  have hl:=rv.length
  exact wpAny_pyNext_list_end (I.ok.hd hc) st p.isList (by simp;omega) fun h' eb=>⟨rfl,I.turned (t':=s.toks) (fun b o hb e=>eb b o hb e) f0 f1 f3 f4 f5⟩
 self:=fun _ _ _ _ _ st h=>wpAny_pyIter_listiter st h
theorem turn_tuple {P : Program} {w : World} {K : PySem.W.Frag} {tg : Expr} (a it : Addr) : Turn P w K tg (Itt K a) [it] it (fun i h=>h.IsTupleIter it a i) where
 mem:=by simp
 obj:=fun i h st b hb=>by
  have e : b = it:=by simpa using hb
  subst e
  obtain ⟨o,e,c,d⟩:=st
  exact ⟨o,e,fun v z=>by rw [d] at z;cases z⟩
 keep:=fun i h h' st k=>st.at fun o e=>k it (by simp) o e
 item:=by
  intro X hP hw hK hc i pins s σ H E I hf st hg
  subst hP hw hK
  obtain ⟨xs,x,hq,hx⟩:=hg
  obtain ⟨its,rv,p,hz⟩:=I.tuple hq
  obtain ⟨u,hu,ru⟩:=rv.get hx
  obtain ⟨f0,f1,f2,f3,f4,f5⟩:=hf it (by simp)
  refine wpAny_pyNext_tuple_item st (show s.heap.IsTuple a its.toArray from p) (x:=u) (by simpa using hu) fun h' st' sb=>?_
  have I1 : Inv X pins σ H { s with heap:=h' }:=I.turned (t':=s.toks) (fun b o hb e=>(sb.2 b hb).trans e) f0 f1 f3 f4 f5
  obtain ⟨o,e,c,d⟩:=id st'
  exact ⟨u,rfl,go_of (s:={ s with heap:=h' }) e c d (by decide) ⟨x,H,I1,ru,⟨rfl,fun ys hy=>by rw [I.tuple_inj hy hq];exact hx⟩,st',fun b hb=>(hf b hb).1⟩⟩
 done:=by
  intro X hP hw hK hc i pins s σ H E I hf st hg
  subst hP hw hK
  obtain ⟨xs,hq,hx⟩:=hg
  obtain ⟨its,rv,p,hz⟩:=I.tuple hq
  obtain ⟨f0,f1,f2,f3,f4,f5⟩:=hf it (by simp)
  have hl:=rv.length
  exact wpAny_pyNext_tuple_end (I.ok.hd hc) st (show s.heap.IsTuple a its.toArray from p) (by simp;omega) fun h' eb=>⟨rfl,I.turned (t':=s.toks) (fun b o hb e=>eb b o hb e) f0 f1 f3 f4 f5⟩
 self:=fun _ _ _ _ _ st h=>wpAny_pyIter_tupleiter st h
theorem turn_range {P : Program} {w : World} {K : PySem.W.Frag} {tg : Expr} (it : Addr) (lo : Int) (n : Nat) : Turn P w K tg (Itr lo n) [it] it (fun i h=>IsRangeIter h it (lo + (i : Nat) * 1) ((n : Int) - (i : Nat)) 1) where
 mem:=by simp
 obj:=fun i h st b hb=>by
  have e : b = it:=by simpa using hb
  subst e
  exact ⟨_,st,fun v z=>by
   have z' : Data.fields _ = Data.cell v:=z
   cases z'⟩
 keep:=fun i h h' st k=>k it (by simp) _ st
 item:=by
  intro X hP hw hK hc i pins s σ H E I hf st hg
  subst hP hw hK
  obtain ⟨f0,f1,f2,f3,f4,f5⟩:=hf it (by simp)
  have W:=Walks.range (prog:=X.prog) (w:=X.w) (I.ok.hd hc) it lo 1 n
  refine W.item i s _ _ hg st fun v h' tk hv st' kk=>?_
  obtain ⟨t,rfl⟩:=hv
  have I1 : Inv X pins σ H { s with heap:=h',toks:=tk }:=I.turned (fun b o hb e=>kk b o (by simpa using hb) e) f0 f1 f3 f4 f5
  refine ⟨_,rfl,go_of (s:={ s with heap:=h',toks:=tk }) (n := "range_iterator") st' rfl rfl (by decide) ⟨.int (lo + i),H,I1,⟨t,?_⟩,⟨rfl,rfl⟩,st',fun b hb=>(hf b hb).1⟩⟩
  rw [Int.mul_one]
 done:=by
  intro X hP hw hK hc i pins s σ H E I hf st hg
  subst hP hw hK
  obtain ⟨f0,f1,f2,f3,f4,f5⟩:=hf it (by simp)
  exact wpAny_pyNext_range_end (I.ok.hd hc) st (by have : n <= i:=hg;omega) fun h' eb=>⟨rfl,I.turned (t':=s.toks) (fun b o hb e=>eb b o hb e) f0 f1 f3 f4 f5⟩
 self:=fun _ _ _ _ _ st h=>wpAny_pyIter_rangeiter st h
end L2
namespace L2
open PySem PySem.Spec PyProof.Rows
section
variable {X : Cx} {tg : Expr}
def iList (K : PySem.W.Frag) (tl : TE) : TI:=fun σ H R=>tl σ H fun x H1=>∃ a,x = .ref a/\(∃ xs,SqL K H1 a xs)/\R (Itl K a) H1
def iTup (K : PySem.W.Frag) (tl : TE) : TI:=fun σ H R=>tl σ H fun x H1=>∃ a,x = .ref a/\(∃ xs,SqT K H1 a xs)/\R (Itt K a) H1
theorem pi_list {l : Expr} {tl : TE} (hl : PE X l tl) : PI X tg l (iList X.K tl):=by
 intro pins s σ H R I h
 refine thn (hl pins s σ H _ I h) fun v s1 ⟨x,H1,I1,r1,q1⟩=>?_
 obtain ⟨a,e,⟨xs,hq⟩,q⟩:=q1
 subst e
 cases r1
 obtain ⟨its,rv,p,hz⟩:=I1.list hq
 refine wpAny_pyIter_list p.isList ?_
 refine ⟨s1.heap.objs.size,[s1.heap.objs.size],_,_,H1,rfl,I1.kept (t':=s1.toks) fun b o e=>Heap.get?_push_of_some _ e,turn_list a _,⟨_,Heap.get?_push_size _ rfl,rfl,rfl⟩,fun b hb=>?_,q⟩
 have e : b = s1.heap.objs.size:=by simpa using hb
 subst e
 exact I1.fpOk (Nat.le_refl _) (I1.hok.fresh (Nat.le_refl _))
theorem pi_tup {l : Expr} {tl : TE} (hl : PE X l tl) : PI X tg l (iTup X.K tl):=by
 intro pins s σ H R I h
 refine thn (hl pins s σ H _ I h) fun v s1 ⟨x,H1,I1,r1,q1⟩=>?_
 obtain ⟨a,e,⟨xs,hq⟩,q⟩:=q1
 subst e
 cases r1
 obtain ⟨its,rv,p,hz⟩:=I1.tuple hq
 refine wpAny_pyIter_tuple (show s1.heap.IsTuple a its.toArray from p) ?_
 refine ⟨s1.heap.objs.size,[s1.heap.objs.size],_,_,H1,rfl,I1.kept (t':=s1.toks) fun b o e=>Heap.get?_push_of_some _ e,turn_tuple a _,⟨_,Heap.get?_push_size _ rfl,rfl,rfl⟩,fun b hb=>?_,q⟩
 have e : b = s1.heap.objs.size:=by simpa using hb
 subst e
 exact I1.fpOk (Nat.le_refl _) (I1.hok.fresh (Nat.le_refl _))
theorem range_it {pins : List (Addr × Obj)} {σ : St} {H : Hp} {s : Shared} {R : It->Hp->Prop} {E : Value->Shared->Prop} {lo hi : Int} {t u v : Tok} {tk : Nat} (I : Inv X pins σ H s) (h1 : -(2 ^ 62) <= lo) (h2 : lo < 2 ^ 62) (h3 : -(2 ^ 62) <= hi) (h4 : hi < 2 ^ 62)
  (q : R (Itr lo (hi - lo).toNat) H) : wpAny (model X.prog X.w) X.A (pyIter (.ref s.heap.objs.size)) (PIE X pins σ tg R) E { s with heap:=s.heap.push { cls:=.type "range",data:=.fields #[.int lo t,.int hi u,.int 1 v] },toks:=tk }:=by
 refine wpAny_pyIter_range (IsRange.new ..) (small_one h1 h2 h3 h4) ?_
 have I1 : Inv X pins σ H { s with heap:=s.heap.push { cls:=.type "range",data:=.fields #[.int lo t,.int hi u,.int 1 v] },toks:=tk }:=I.kept fun b o e=>Heap.get?_push_of_some _ e
 refine ⟨(s.heap.push { cls:=.type "range",data:=.fields #[.int lo t,.int hi u,.int 1 v] }).objs.size,[(s.heap.push { cls:=.type "range",data:=.fields #[.int lo t,.int hi u,.int 1 v] }).objs.size],_,_,H,rfl,
  I1.kept (t':=tk) fun b o e=>Heap.get?_push_of_some _ e,turn_range _ lo (hi - lo).toNat,?_,fun b hb=>?_,q⟩
 ·have e1 : lo + ((0 : Nat) : Int) * 1 = lo:=by simp
  have e2 : (((hi - lo).toNat : Nat) : Int) - ((0 : Nat) : Int) = Builtin.Range.rangeSize lo hi 1:=by rw [rangeSize_one];split <;> omega
  show IsRangeIter _ _ (lo + ((0 : Nat) : Int) * 1) ((((hi - lo).toNat : Nat) : Int) - ((0 : Nat) : Int)) 1
  rw [e1,e2]
  exact Heap.get?_push_size _ rfl
 ·have e : b = (s.heap.push { cls:=.type "range",data:=.fields #[.int lo t,.int hi u,.int 1 v] }).objs.size:=by simpa using hb
  subst e
  exact I1.fpOk (Nat.le_refl _) (I1.hok.fresh (Nat.le_refl _))
def iRng1 (ta : TA) : TI:=fun σ H R=>ta σ H fun vs H1=>∃ j : Int,vs = [.int j]/\-(2 ^ 62) <= j/\j < 2 ^ 62/\R (Itr 0 j.toNat) H1
theorem pi_range1 {a : Expr} {ta : TA} {p pos : Pos} (hg : Gl X "range") (hm : X.mg "range" = none) (ha : PA X [a] ta) (hs : starEach [a] X.env = [(false,eval a X.env)]:=by rfl) : PI X tg (.Call (.Name "range" p) [a] [] pos) (iRng1 ta):=by
 intro pins s σ H R I h
 refine Call_ (ld_blt I hg hm boot_range (PyProof.Rows.callWith_type1 (thn (ha pos pins s σ H _ I h) fun us s1 ⟨vs,H1,I1,r1,q1⟩=>?_) hs rfl))
 obtain ⟨j,e,q1,q2,q⟩:=q1
 subst e
 cases r1 with
 | cons r rr =>
  cases rr
  obtain ⟨t,rfl⟩:=r
  exact call_range_1 (range_it I1 (by omega) (by omega) q1 q2 (by simpa using q))
def tFor (wi : TI) (g : TG) (tb : TS) : TS:=fun D σ H=>wi σ H fun J H1=>∃ W : Nat->Nat->St->Hp->Prop,(∃ m,W 0 m σ H1)/\∀ i m σ H,W i m σ H ->
 (J.stop i H/\D.nx σ H)\/(J.go i H/\∃ N : St->Hp->Prop,(∀ σ' H',N σ' H'->∃ m',m' < m/\W (i + 1) m' σ' H')/\∀ x H',J.yld i H x H'->g x σ H' fun σ2 H2=>tb { D with nx:=N,ct:=N,bk:=D.nx } σ2 H2)
def pinsAt (fp : List Addr) (h : Heap) : List (Addr × Obj):=fp.filterMap fun b=>(h.get? b).map fun o=>(b,o)
theorem mem_pinsAt {fp : List Addr} {h : Heap} {b : Addr} {o : Obj} (hb : b ∈ fp) (e : h.get? b = some o) : (b,o) ∈ pinsAt fp h:=List.mem_filterMap.mpr ⟨b,hb,by rw [e];rfl⟩
theorem of_pinsAt {fp : List Addr} {h : Heap} {p : Addr × Obj} (hp : p ∈ pinsAt fp h) : p.1 ∈ fp/\h.get? p.1 = some p.2:=by
 obtain ⟨b,hb,e⟩:=List.mem_filterMap.mp hp
 cases q : h.get? b with
 | none=>rw [q] at e;cases e
 | some o =>
  rw [q] at e
  have e' : (b,o) = p:=Option.some.inj e
  subst e'
  exact ⟨hb,q⟩
theorem Inv.pinned {pins : List (Addr × Obj)} {σ : St} {H : Hp} {s : Shared} {fp : List Addr} (I : Inv X pins σ H s) (hf : ∀ b ∈ fp,FpOk X pins H b) (ho : ∀ b ∈ fp,∃ o,s.heap.get? b = some o/\∀ v,o.data ≠ .cell v) : Inv X (pins ++ pinsAt fp s.heap) σ H s :=
 I.pins_of fun p hp=>(List.mem_append.mp hp).elim (fun z=>I.pin p (List.mem_append_right _ z)) fun z=>by
  obtain ⟨hb,e⟩:=of_pinsAt z
  obtain ⟨f0,f1,f2,_⟩:=hf p.1 hb
  obtain ⟨o,e',d⟩:=ho p.1 hb
  rw [e] at e';cases e'
  exact ⟨e,f0,f1,f2,d⟩
theorem Inv.unpinned {pins pl : List (Addr × Obj)} {σ : St} {H : Hp} {s : Shared} (I : Inv X (pins ++ pl) σ H s) : Inv X pins σ H s:=I.pins_of fun p hp=>I.pin p (List.mem_append_right _ (List.mem_append_left _ hp))
theorem ps_for {iter : Expr} {body : List Stmt} {wi : TI} {g : TG} {tb : TS} {pos : Pos} (hp : PassesOwn (model X.prog X.w) X.A X.env X.xe) (hc : X.calm = true) (hi : PI X tg iter wi) (hg : PG X tg g) (hb : PSs X body tb)
  (hs : ∀ x,foldedSetIterable iter X.env x = pure x:=by intro _;rfl) : PS X (.For tg iter body [] pos) (tFor wi g tb):=by
 intro pins s σ H D I h
 refine wpAny_For (thn (hi pins s σ H _ I h) fun v s1 h1=>thn h1 fun itv s2 h2=>?_) hs
 obtain ⟨it,fp,tn,J,H2,e,I2,T,st2,f2,W,⟨m0,w0⟩,turn⟩:=h2
 subst e
 have stat : ∀ {H' : Hp},(∀ b ∈ fp,H' b = none)->∀ b ∈ fp,FpOk X pins H' b:=fun hn b hb=>⟨hn b hb,(f2 b hb).2⟩
 refine codeAny_forLoop_any (fun n s'=>∃ i σ' H',Inv X pins σ' H' s'/\tn i s'.heap/\(∀ b ∈ fp,H' b = none)/\W i n σ' H') ?_ m0 ⟨0,σ,H2,I2,st2,fun b hb=>(f2 b hb).1,w0⟩
 rintro n s3 ⟨i,σ3,H3,I3,st3,fr3,w3⟩
 rcases turn i n σ3 H3 w3 with ⟨stop,qn⟩ | ⟨go,N,hN,step⟩
 ·refine wpAny_passesOwn hp (thn (T.done X rfl rfl rfl hc i pins s3 σ3 H3 X.xe I3 (stat fr3) st3 stop) fun r s4 ⟨hr,I4⟩=>?_)
  subst hr
  exact wpAny_execs_nil ⟨σ3,H3,I4,qn⟩
 ·refine wpAny_passesOwn hp (thn (T.item X rfl rfl rfl hc i pins s3 σ3 H3 X.xe I3 (stat fr3) st3 go) fun r s4 ⟨u,hr,h4⟩=>?_)
  subst hr
  refine wpAny_passesOwn hp (thn h4 fun _ s5 ⟨x,H5,I5,r5,y5,st5,fr5⟩=>?_)
  have I5':=I5.pinned (stat fr5) (T.obj _ _ st5)
  refine wpAny_passesOwn hp (thn (hg _ s5 σ3 H5 x u _ I5' r5 (step x H5 y5)) fun _ s6 ⟨σ6,H6,I6,q6⟩=>?_)
  refine wpAny_passesOwn hp (thn (hb _ s6 σ6 H6 _ I6 q6) fun f s7 q7=>?_)
  have again : ∀ {σ7 : St} {H7 : Hp},Inv X (pins ++ pinsAt fp s5.heap) σ7 H7 s7->N σ7 H7->∃ m,m < n/\∃ i σ' H',Inv X pins σ' H' s7/\tn i s7.heap/\(∀ b ∈ fp,H' b = none)/\W i m σ' H':=fun {σ7 H7} I7 n7=>by
   obtain ⟨m',hm,w7⟩:=hN σ7 H7 n7
   refine ⟨m',hm,i + 1,σ7,H7,I7.unpinned,T.keep _ _ _ st5 fun b hb o e=>(I7.pin (b,o) (List.mem_append_right _ (List.mem_append_right _ (mem_pinsAt hb e)))).1,fun b hb=>?_,w7⟩
   obtain ⟨o,e,d⟩:=T.obj _ _ st5 b hb
   exact (I7.pin (b,o) (List.mem_append_right _ (List.mem_append_right _ (mem_pinsAt hb e)))).2.1
  cases f with
  | next=>obtain ⟨σ7,H7,I7,n7⟩:=q7;exact again I7 n7
  | cont=>obtain ⟨σ7,H7,I7,n7⟩:=q7;exact again I7 n7
  | brk=>obtain ⟨σ7,H7,I7,q7⟩:=q7;exact ⟨σ7,H7,I7.unpinned,q7⟩
  | ret v=>obtain ⟨x7,σ7,H7,I7,r7,q7⟩:=q7;exact ⟨x7,σ7,H7,I7.unpinned,r7,q7⟩
end
theorem for_list {K : PySem.W.Frag} {a : Addr} {xs : List V} {g : TG} {tb : TS} {D : Ends} {σ : St} {H : Hp} (Pv : Nat->St->Hp->Prop) (h0 : Pv 0 σ H) (hl : ∀ i σ H,i <= xs.length->Pv i σ H->SqL K H a xs)
  (hs : ∀ i x σ H,xs[i]? = some x->Pv i σ H->g x σ H fun σ2 H2=>tb { D with nx:=Pv (i + 1),ct:=Pv (i + 1),bk:=D.nx } σ2 H2) (hd : ∀ σ H,Pv xs.length σ H->D.nx σ H) :
  ∃ W : Nat->Nat->St->Hp->Prop,(∃ m,W 0 m σ H)/\∀ i m σ H,W i m σ H ->
   ((Itl K a).stop i H/\D.nx σ H)\/((Itl K a).go i H/\∃ N : St->Hp->Prop,(∀ σ' H',N σ' H'->∃ m',m' < m/\W (i + 1) m' σ' H')/\∀ x H',(Itl K a).yld i H x H'->g x σ H' fun σ2 H2=>tb { D with nx:=N,ct:=N,bk:=D.nx } σ2 H2):=by
 refine ⟨fun i m σ H=>m = xs.length - i/\i <= xs.length/\Pv i σ H,⟨xs.length,by simp,Nat.zero_le _,h0⟩,?_⟩
 rintro i m σ H ⟨rfl,hi,p⟩
 have q:=hl i σ H hi p
 by_cases hlt : i < xs.length
 ·refine .inr ⟨⟨xs,xs[i],q,by simp [hlt]⟩,Pv (i + 1),fun σ' H' p'=>⟨xs.length - (i + 1),by omega,rfl,hlt,p'⟩,fun x H' y=>?_⟩
  obtain ⟨e,y⟩:=y
  subst e
  exact hs i x σ _ (y xs q) p
 ·have e : i = xs.length:=by omega
  subst e
  exact .inl ⟨⟨xs,q,Nat.le_refl _⟩,hd σ H p⟩
theorem for_tup {K : PySem.W.Frag} {a : Addr} {xs : List V} {g : TG} {tb : TS} {D : Ends} {σ : St} {H : Hp} (Pv : Nat->St->Hp->Prop) (h0 : Pv 0 σ H) (hl : ∀ i σ H,i <= xs.length->Pv i σ H->SqT K H a xs)
  (hs : ∀ i x σ H,xs[i]? = some x->Pv i σ H->g x σ H fun σ2 H2=>tb { D with nx:=Pv (i + 1),ct:=Pv (i + 1),bk:=D.nx } σ2 H2) (hd : ∀ σ H,Pv xs.length σ H->D.nx σ H) :
  ∃ W : Nat->Nat->St->Hp->Prop,(∃ m,W 0 m σ H)/\∀ i m σ H,W i m σ H ->
   ((Itt K a).stop i H/\D.nx σ H)\/((Itt K a).go i H/\∃ N : St->Hp->Prop,(∀ σ' H',N σ' H'->∃ m',m' < m/\W (i + 1) m' σ' H')/\∀ x H',(Itt K a).yld i H x H'->g x σ H' fun σ2 H2=>tb { D with nx:=N,ct:=N,bk:=D.nx } σ2 H2):=by
 refine ⟨fun i m σ H=>m = xs.length - i/\i <= xs.length/\Pv i σ H,⟨xs.length,by simp,Nat.zero_le _,h0⟩,?_⟩
 rintro i m σ H ⟨rfl,hi,p⟩
 have q:=hl i σ H hi p
 by_cases hlt : i < xs.length
 ·refine .inr ⟨⟨xs,xs[i],q,by simp [hlt]⟩,Pv (i + 1),fun σ' H' p'=>⟨xs.length - (i + 1),by omega,rfl,hlt,p'⟩,fun x H' y=>?_⟩
  obtain ⟨e,y⟩:=y
  subst e
  exact hs i x σ _ (y xs q) p
 ·have e : i = xs.length:=by omega
  subst e
  exact .inl ⟨⟨xs,q,Nat.le_refl _⟩,hd σ H p⟩
theorem for_range {lo : Int} {n : Nat} {g : TG} {tb : TS} {D : Ends} {σ : St} {H : Hp} (Pv : Nat->St->Hp->Prop) (h0 : Pv 0 σ H)
  (hs : ∀ i σ H,i < n->Pv i σ H->g (.int (lo + i)) σ H fun σ2 H2=>tb { D with nx:=Pv (i + 1),ct:=Pv (i + 1),bk:=D.nx } σ2 H2) (hd : ∀ σ H,Pv n σ H->D.nx σ H) :
  ∃ W : Nat->Nat->St->Hp->Prop,(∃ m,W 0 m σ H)/\∀ i m σ H,W i m σ H ->
   ((Itr lo n).stop i H/\D.nx σ H)\/((Itr lo n).go i H/\∃ N : St->Hp->Prop,(∀ σ' H',N σ' H'->∃ m',m' < m/\W (i + 1) m' σ' H')/\∀ x H',(Itr lo n).yld i H x H'->g x σ H' fun σ2 H2=>tb { D with nx:=N,ct:=N,bk:=D.nx } σ2 H2):=by
 refine ⟨fun i m σ H=>m = n - i/\i <= n/\Pv i σ H,⟨n,by simp,Nat.zero_le _,h0⟩,?_⟩
 rintro i m σ H ⟨rfl,hi,p⟩
 by_cases hlt : i < n
 ·refine .inr ⟨hlt,Pv (i + 1),fun σ' H' p'=>⟨n - (i + 1),by omega,rfl,hlt,p'⟩,fun x H' y=>?_⟩
  obtain ⟨e,y⟩:=y
  subst e y
  exact hs i σ _ hlt p
 ·have e : i = n:=by omega
  subst e
  exact .inl ⟨Nat.le_refl _,hd σ H p⟩
end L2
namespace L2
open PySem PySem.Spec PyProof.Rows
abbrev R2:=V->V->Hp->VK->Prop
def OpR (X : Cx) (f : Value->Value->Sem Value) (r : R2) : Prop :=
 ∀ (pins : List (Addr × Obj)) (s : Shared) (σ : St) (H : Hp) (x y : V) (v u : Value) (Q : VK),Inv X pins σ H s->RelV x v->RelV y u->r x y H Q ->
  wpAny (model X.prog X.w) X.A (f v u) (EP X pins σ Q) X.xe s
def UnR (X : Cx) (f : Value->Sem Value) (r : V->Hp->VK->Prop) : Prop :=
 ∀ (pins : List (Addr × Obj)) (s : Shared) (σ : St) (H : Hp) (x : V) (v : Value) (Q : VK),Inv X pins σ H s->RelV x v->r x H Q ->
  wpAny (model X.prog X.w) X.A (f v) (EP X pins σ Q) X.xe s
def CallR (X : Cx) (f : Value) (r : List V->Hp->VK->Prop) : Prop :=
 ∀ (pins : List (Addr × Obj)) (s : Shared) (σ : St) (H : Hp) (xs : List V) (us : List Value) (Q : VK),Inv X pins σ H s->Vals xs us->r xs H Q ->
  wpAny (model X.prog X.w) X.A (call f us) (EP X pins σ Q) X.xe s
def tOp (r : R2) (ta tb : TE) : TE:=fun σ H Q=>ta σ H fun x H1=>tb σ H1 fun y H2=>r x y H2 Q
def tUn (r : V->Hp->VK->Prop) (ta : TE) : TE:=fun σ H Q=>ta σ H fun x H1=>r x H1 Q
def rI (C : Int->Int->Prop) (g : Int->Int->V) : R2:=fun x y H Q=>∃ i j,x = .int i/\y = .int j/\C i j/\Q (g i j) H
def rI0 (g : Int->Int->V) : R2:=fun x y H Q=>∃ i j,x = .int i/\y = .int j/\Q (g i j) H
def rU (g : Int->V) : V->Hp->VK->Prop:=fun x H Q=>∃ i,x = .int i/\Q (g i) H
section
variable {X : Cx} {a b c : Expr} {ta tb tc : TE} {pos : Pos}
theorem binT (ha : PE X a ta) (hb : PE X b tb) {pins : List (Addr × Obj)} {s : Shared} {σ : St} {H : Hp} {R : V->V->Hp->Prop} (I : Inv X pins σ H s)
  (h : ta σ H fun x H1=>tb σ H1 fun y H2=>R x y H2) {Q : Value->Shared->Prop} {f : Value->Value->Sem Value}
  (hf : ∀ v u s2 x y H2,Inv X pins σ H2 s2->RelV x v->RelV y u->R x y H2->wpAny (model X.prog X.w) X.A (f v u) Q X.xe s2) :
  wpAny (model X.prog X.w) X.A (eval a X.env) (fun v s₁=>wpAny (model X.prog X.w) X.A (eval b X.env) (fun u s₂=>wpAny (model X.prog X.w) X.A (f v u) Q X.xe s₂) X.xe s₁) X.xe s:=by
 refine thn (ha pins s σ H _ I h) fun v s1 ⟨x,H1,I1,r1,q1⟩=>?_
 refine thn (hb pins s1 σ H1 _ I1 q1) fun u s2 ⟨y,H2,I2,r2,q2⟩=>?_
 exact hf v u s2 x y H2 I2 r1 r2 q2
theorem pe_op {op : Operator} {r : R2} (ho : OpR X (binaryOp op) r) (ha : PE X a ta) (hb : PE X b tb) : PE X (.BinOp a op b pos) (tOp r ta tb):=by
 intro pins s σ H Q I h
 exact wpAny_BinOp (binT ha hb I h fun v u s2 x y H2 I2 rx ry q=>ho pins s2 σ H2 x y v u Q I2 rx ry q)
theorem pe_un {op : UnaryOp} {r : V->Hp->VK->Prop} (ho : UnR X (unaryOp op) r) (ha : PE X a ta) : PE X (.UnaryOp op a pos) (tUn r ta):=by
 intro pins s σ H Q I h
 exact UnaryOp_ (thn (ha pins s σ H _ I h) fun v s1 ⟨x,H1,I1,r1,q1⟩=>ho pins s1 σ H1 x v Q I1 r1 q1)
theorem opI {f : Value->Value->Sem Value} {C : Int->Int->Prop} {g : Int->Int->Int}
  (rule : ∀ (i j : Int) (t u : Tok) (s : Shared) (Q : Value->Shared->Prop) (E : Value->Shared->Prop),C i j->Q (.int (g i j) s.toks) { s with toks:=s.toks + 1 }->wpAny (model X.prog X.w) X.A (f (.int i t) (.int j u)) Q E s) :
  OpR X f (rI C fun i j=>.int (g i j)):=by
 intro pins s σ H x y v u Q I rx ry h
 obtain ⟨i,j,rfl,rfl,hc,q⟩:=h
 obtain ⟨t,rfl⟩:=rx
 obtain ⟨t',rfl⟩:=ry
 exact rule i j t t' s _ _ hc ⟨.int (g i j),H,I.tok _,⟨_,rfl⟩,q⟩
theorem opI0 {f : Value->Value->Sem Value} {g : Int->Int->Int}
  (rule : ∀ (i j : Int) (t u : Tok) (s : Shared) (Q : Value->Shared->Prop) (E : Value->Shared->Prop),Q (.int (g i j) s.toks) { s with toks:=s.toks + 1 }->wpAny (model X.prog X.w) X.A (f (.int i t) (.int j u)) Q E s) :
  OpR X f (rI0 fun i j=>.int (g i j)):=by
 intro pins s σ H x y v u Q I rx ry h
 obtain ⟨i,j,rfl,rfl,q⟩:=h
 obtain ⟨t,rfl⟩:=rx
 obtain ⟨t',rfl⟩:=ry
 exact rule i j t t' s _ _ ⟨.int (g i j),H,I.tok _,⟨_,rfl⟩,q⟩
theorem opB0 {f : Value->Value->Sem Value} {g : Int->Int->Bool}
  (rule : ∀ (i j : Int) (t u : Tok) (s : Shared) (Q : Value->Shared->Prop) (E : Value->Shared->Prop),Q (.bool (g i j)) s->wpAny (model X.prog X.w) X.A (f (.int i t) (.int j u)) Q E s) :
  OpR X f (rI0 fun i j=>.bl (g i j)):=by
 intro pins s σ H x y v u Q I rx ry h
 obtain ⟨i,j,rfl,rfl,q⟩:=h
 obtain ⟨t,rfl⟩:=rx
 obtain ⟨t',rfl⟩:=ry
 exact rule i j t t' s _ _ ⟨.bl (g i j),H,I,rfl,q⟩
def CDiv (i j : Int) : Prop:=0 < j/\j < 1073741824
def CPow (i j : Int) : Prop:=0 <= j/\j <= 1000000/\i.natAbs < 2 ^ 64
def CMul (i j : Int) : Prop:=(-(2 ^ 64) < i/\i < 2 ^ 64)\/(-(2 ^ 64) < j/\j < 2 ^ 64)
theorem CMul.ok {i j : Int} (h : CMul i j) : IntMulOk i j:=by
 rcases h with ⟨h1,h2⟩ | ⟨h1,h2⟩
 ·exact .of_left (intBits_le_64 h1 h2)
 ·exact .of_right (intBits_le_64 h1 h2)
theorem op_add : OpR X (binaryOp .Add) (rI0 fun i j=>.int (i + j)):=opI0 fun _ _ _ _ _ _ _ q=>add_int q
theorem op_sub : OpR X (binaryOp .Sub) (rI0 fun i j=>.int (i - j)):=opI0 fun _ _ _ _ _ _ _ q=>sub_int q
theorem op_mul : OpR X (binaryOp .Mult) (rI CMul fun i j=>.int (i * j)):=opI fun _ _ _ _ _ _ _ hc q=>mul_int q hc.ok
theorem op_fdiv : OpR X (binaryOp .FloorDiv) (rI CDiv fun i j=>.int (i / j)):=opI fun i j _ _ _ _ _ hc q=>by
 have h1 : (0 : Int) < j:=hc.1
 have h2 : j < 1073741824:=hc.2
 exact floordiv_int (by omega) (by rw [Int.fdiv_eq_ediv_of_nonneg i (by omega)];exact q) (.inl (PyProof.noPylong_small (by omega)))
theorem op_mod : OpR X (binaryOp .Mod) (rI (fun _ j=>0 < j) fun i j=>.int (i % j)):=opI fun i j _ _ _ _ _ hc q=>by
 have h1 : (0 : Int) < j:=hc
 exact mod_int' (by omega) (by rw [Int.fmod_eq_emod_of_nonneg i (by omega)];exact q)
theorem op_pow : OpR X (binaryOp .Pow) (rI CPow fun i j=>.int (i ^ j.toNat)):=opI fun _ _ _ _ _ _ _ hc q=>pow_int_small hc.1 hc.2.1 hc.2.2 q
theorem unI {f : Value->Sem Value} {g : Int->Int}
  (rule : ∀ (i : Int) (t : Tok) (s : Shared) (Q : Value->Shared->Prop) (E : Value->Shared->Prop),Q (.int (g i) s.toks) { s with toks:=s.toks + 1 }->wpAny (model X.prog X.w) X.A (f (.int i t)) Q E s) :
  UnR X f (rU fun i=>.int (g i)):=by
 intro pins s σ H x v Q I rx h
 obtain ⟨i,rfl,q⟩:=h
 obtain ⟨t,rfl⟩:=rx
 exact rule i t s _ _ ⟨.int (g i),H,I.tok _,⟨_,rfl⟩,q⟩
theorem un_neg : UnR X (unaryOp .USub) (rU fun i=>.int (-i)):=unI fun _ _ _ _ _ q=>neg_int q
end
def scal : V->V->Bool
 | .non,.non=>true | .non,.int _=>true | .int _,.non=>true | .non,.bl _=>true | .bl _,.non=>true | .non,.str _=>true | .str _,.non=>true
 | .int _,.int _=>true | .bl _,.bl _=>true | .str _,.str _=>true | .byt _,.byt _=>true
 | .int _,.str _=>true | .str _,.int _=>true | .bl _,.str _=>true | .str _,.bl _=>true
 | _,_=>false
def rEq : R2:=fun x y H Q=>scal x y = true/\Q (.bl (decide (x = y))) H
def rNe : R2:=fun x y H Q=>scal x y = true/\Q (.bl (!decide (x = y))) H
theorem dec_int {i j : Int} : decide (V.int i = V.int j) = (i == j):=by
 rw [Bool.eq_iff_iff]
 simp
theorem dec_bl {i j : Bool} : decide (V.bl i = V.bl j) = (i == j):=by
 rw [Bool.eq_iff_iff]
 simp
theorem dec_str {i j : Str} : decide (V.str i = V.str j) = (i == j):=by
 rw [Bool.eq_iff_iff]
 simp
theorem dec_byt {i j : Array UInt8} : decide (V.byt i = V.byt j) = (i.toList == j.toList):=by
 rw [Bool.eq_iff_iff]
 cases i
 cases j
 simp
section
variable {X : Cx} {a b c : Expr} {ta tb tc : TE} {pos : Pos}
theorem fin_bl {pins : List (Addr × Obj)} {σ : St} {H : Hp} {s : Shared} {Q : VK} {k k' : Bool} (I : Inv X pins σ H s) (q : Q (.bl k) H) (e : k = k') : EP X pins σ Q (.bool k') s:=by
 subst e
 exact ⟨.bl k,H,I,rfl,q⟩
theorem op_eq : OpR X (compareOp .Eq) rEq:=by
 intro pins s σ H x y v u Q I rx ry h
 obtain ⟨hs,q⟩:=h
 cases x with
 | non =>
  cases rx
  cases y with
  | non=>cases ry;exact PySem.EqNone.eq_none_none (fin_bl I q (by simp))
  | bl j=>cases ry;exact PySem.EqNone.eq_none_bool (fin_bl I q (by simp))
  | int j=>obtain ⟨t',rfl⟩:=ry;exact PySem.EqNone.eq_none_int (fin_bl I q (by simp))
  | str j=>obtain ⟨t',rfl⟩:=ry;exact PySem.EqNone.eq_none_str (fin_bl I q (by simp))
  | _=>exact absurd (show false = true from hs) Bool.false_ne_true
 | bl i =>
  cases rx
  cases y with
  | non=>cases ry;exact PySem.EqNone.eq_bool_none (fin_bl I q (by simp))
  | bl j=>cases ry;exact eq_bool (fin_bl I q dec_bl)
  | str j=>obtain ⟨t',rfl⟩:=ry;exact PySem.EqMixed.eq_bool_str (fin_bl I q (by simp))
  | _=>exact absurd (show false = true from hs) Bool.false_ne_true
 | int i =>
  obtain ⟨t,rfl⟩:=rx
  cases y with
  | non=>cases ry;exact PySem.EqNone.eq_int_none (fin_bl I q (by simp))
  | int j=>obtain ⟨t',rfl⟩:=ry;exact eq_int (fin_bl I q dec_int)
  | str j=>obtain ⟨t',rfl⟩:=ry;exact PySem.EqMixed.eq_int_str (fin_bl I q (by simp))
  | _=>exact absurd (show false = true from hs) Bool.false_ne_true
 | str i =>
  obtain ⟨t,rfl⟩:=rx
  cases y with
  | non=>cases ry;exact PySem.EqNone.eq_str_none (fin_bl I q (by simp))
  | bl j=>cases ry;exact PySem.EqMixed.eq_str_bool (fin_bl I q (by simp))
  | int j=>obtain ⟨t',rfl⟩:=ry;exact PySem.EqMixed.eq_str_int (fin_bl I q (by simp))
  | str j=>obtain ⟨t',rfl⟩:=ry;exact eq_str (fin_bl I q dec_str)
  | _=>exact absurd (show false = true from hs) Bool.false_ne_true
 | byt i =>
  obtain ⟨t,rfl⟩:=rx
  cases y with
  | byt j=>obtain ⟨t',rfl⟩:=ry;exact PySem.W.eq_bytes (fin_bl I q dec_byt)
  | _=>exact absurd (show false = true from hs) Bool.false_ne_true
 | _=>cases y <;> exact absurd (show false = true from hs) Bool.false_ne_true
theorem op_ne : OpR X (compareOp .NotEq) rNe:=by
 intro pins s σ H x y v u Q I rx ry h
 obtain ⟨hs,q⟩:=h
 cases x with
 | non =>
  cases rx
  cases y with
  | non=>cases ry;exact PySem.EqNone.ne_none_none (fin_bl I q (by simp))
  | bl j=>cases ry;exact PySem.EqNone.ne_none_bool (fin_bl I q (by simp))
  | int j=>obtain ⟨t',rfl⟩:=ry;exact PySem.EqNone.ne_none_int (fin_bl I q (by simp))
  | str j=>obtain ⟨t',rfl⟩:=ry;exact PySem.EqNone.ne_none_str (fin_bl I q (by simp))
  | _=>exact absurd (show false = true from hs) Bool.false_ne_true
 | bl i =>
  cases rx
  cases y with
  | non=>cases ry;exact PySem.EqNone.ne_bool_none (fin_bl I q (by simp))
  | bl j=>cases ry;exact ne_bool (fin_bl I q (congrArg not dec_bl))
  | str j=>obtain ⟨t',rfl⟩:=ry;exact PySem.EqMixed.ne_bool_str (fin_bl I q (by simp))
  | _=>exact absurd (show false = true from hs) Bool.false_ne_true
 | int i =>
  obtain ⟨t,rfl⟩:=rx
  cases y with
  | non=>cases ry;exact PySem.EqNone.ne_int_none (fin_bl I q (by simp))
  | int j=>obtain ⟨t',rfl⟩:=ry;exact ne_int (fin_bl I q (congrArg not dec_int))
  | str j=>obtain ⟨t',rfl⟩:=ry;exact PySem.EqMixed.ne_int_str (fin_bl I q (by simp))
  | _=>exact absurd (show false = true from hs) Bool.false_ne_true
 | str i =>
  obtain ⟨t,rfl⟩:=rx
  cases y with
  | non=>cases ry;exact PySem.EqNone.ne_str_none (fin_bl I q (by simp))
  | bl j=>cases ry;exact PySem.EqMixed.ne_str_bool (fin_bl I q (by simp))
  | int j=>obtain ⟨t',rfl⟩:=ry;exact PySem.EqMixed.ne_str_int (fin_bl I q (by simp))
  | str j=>obtain ⟨t',rfl⟩:=ry;exact ne_str (fin_bl I q (congrArg not dec_str))
  | _=>exact absurd (show false = true from hs) Bool.false_ne_true
 | byt i =>
  obtain ⟨t,rfl⟩:=rx
  cases y with
  | byt j=>obtain ⟨t',rfl⟩:=ry;exact PySem.W.ne_bytes (fin_bl I q (congrArg not dec_byt))
  | _=>exact absurd (show false = true from hs) Bool.false_ne_true
 | _=>cases y <;> exact absurd (show false = true from hs) Bool.false_ne_true
theorem op_lt : OpR X (compareOp .Lt) (rI0 fun i j=>.bl (decide (i < j))):=opB0 fun _ _ _ _ _ _ _ q=>lt_int q
theorem op_le : OpR X (compareOp .LtE) (rI0 fun i j=>.bl (decide (i <= j))):=opB0 fun _ _ _ _ _ _ _ q=>le_int q
theorem op_gt : OpR X (compareOp .Gt) (rI0 fun i j=>.bl (decide (j < i))):=opB0 fun _ _ _ _ _ _ _ q=>gt_int q
theorem op_ge : OpR X (compareOp .GtE) (rI0 fun i j=>.bl (decide (j <= i))):=opB0 fun _ _ _ _ _ _ _ q=>ge_int q
theorem op_in_str : OpR X (compareOp .In) (fun x y H Q=>∃ i j,x = .str i/\y = .str j/\Q (.bl (!(Builtin.Str.occurrences j i 0 j.length 1).isEmpty)) H):=by
 intro pins s σ H x y v u Q I rx ry h
 obtain ⟨i,j,rfl,rfl,q⟩:=h
 obtain ⟨t,rfl⟩:=rx
 obtain ⟨t',rfl⟩:=ry
 exact in_str (fin_bl I q rfl)
theorem OpR.or {f : Value->Value->Sem Value} {r r' : R2} (h : OpR X f r) (h' : OpR X f r') : OpR X f (fun x y H Q=>r x y H Q\/r' x y H Q):=by
 intro pins s σ H x y v u Q I rx ry q
 rcases q with q | q
 ·exact h pins s σ H x y v u Q I rx ry q
 ·exact h' pins s σ H x y v u Q I rx ry q
theorem nomark (b : Expr) {op : CmpOp} (h : op ≠ .In:=by decide) (h2 : op ≠ .NotIn:=by decide) : behindInMarks op b = false:=by
 have e1 : (op == CmpOp.In) = false:=by cases op <;> first | rfl | exact absurd rfl h
 have e2 : (op == CmpOp.NotIn) = false:=by cases op <;> first | rfl | exact absurd rfl h2
 cases b <;> simp [behindInMarks,e1,e2]
theorem pe_cmpR {op : CmpOp} {r : R2} (ho : OpR X (compareOp op) r) (ha : PE X a ta) (hb : PE X b tb) (hm : behindInMarks op b = false) : PE X (.Compare a [op] [b] pos) (tOp r ta tb):=by
 intro pins s σ H Q I h
 exact wpAny_Compare1 (binT ha hb I h fun v u s2 x y H2 I2 rx ry q=>ho pins s2 σ H2 x y v u Q I2 rx ry q) hm
def tTest (t : TE) : TT:=fun σ H Q=>t σ H fun x H'=>∃ k,x = .bl k/\Q k H'
theorem pt_cmpR {op : CmpOp} {r : R2} (ho : OpR X (compareOp op) r) (ha : PE X a ta) (hb : PE X b tb) (hm : behindInMarks op b = false) : PT X (.Compare a [op] [b] pos) (tTest (tOp r ta tb)):=by
 intro pins s σ H Q I h
 refine wpAny_isTrue_Compare1 (thn (ha pins s σ H _ I h) fun v s1 ⟨x,H1,I1,r1,q1⟩=>thn (hb pins s1 σ H1 _ I1 q1) fun u s2 ⟨y,H2,I2,r2,q2⟩ =>
  thn (ho pins s2 σ H2 x y v u _ I2 r1 r2 q2) fun c s3 ⟨z,H3,I3,r3,k,e,q3⟩=>?_) hm
 subst e
 cases r3
 exact wpAny_truthy_bool ⟨H3,I3,q3⟩
def tChain (r r' : R2) (ta tb tc : TE) : TE:=fun σ H Q=>ta σ H fun x H1=>tb σ H1 fun y H2=>r x y H2 fun z H3=>∃ k,z = .bl k /\
 (if k = true then tc σ H3 fun w' H4=>r' y w' H4 Q else Q (.bl false) H3)
theorem pe_chain {op op' : CmpOp} {r r' : R2} (ho : OpR X (compareOp op) r) (ho' : OpR X (compareOp op') r') (ha : PE X a ta) (hb : PE X b tb) (hc : PE X c tc)
  (hm : lastMarks [op,op'] [b,c] = false:=by with_unfolding_all rfl) : PE X (.Compare a [op,op'] [b,c] pos) (tChain r r' ta tb tc):=by
 intro pins s σ H Q I h
 refine Compare_chain (thn (ha pins s σ H _ I h) fun v s1 ⟨x,H1,I1,r1,q1⟩=>chain_link (thn (hb pins s1 σ H1 _ I1 q1) fun u s2 ⟨y,H2,I2,r2,q2⟩ =>
  thn (ho pins s2 σ H2 x y v u _ I2 r1 r2 q2) fun d s3 ⟨z,H3,I3,r3,k,e,q3⟩=>?_)) hm
 subst e
 cases r3
 refine wpAny_truthy_bool ?_
 cases k with
 | false=>exact ite_ff ⟨.bl false,H3,I3,rfl,q3⟩
 | true=>exact ite_tt (chain_last (thn (hc pins s3 σ H3 _ I3 q3) fun w' s4 ⟨z',H4,I4,r4,q4⟩=>ho' pins s4 σ H4 y z' u w' Q I4 r2 r4 q4))
theorem pt_chain {op op' : CmpOp} {r r' : R2} (ho : OpR X (compareOp op) r) (ho' : OpR X (compareOp op') r') (ha : PE X a ta) (hb : PE X b tb) (hc : PE X c tc)
  (hm : lastMarks [op,op'] [b,c] = false:=by with_unfolding_all rfl) : PT X (.Compare a [op,op'] [b,c] pos) (tTest (tChain r r' ta tb tc)):=by
 intro pins s σ H Q I h
 refine isTrue_chain (thn (ha pins s σ H _ I h) fun v s1 ⟨x,H1,I1,r1,q1⟩=>test_link (thn (hb pins s1 σ H1 _ I1 q1) fun u s2 ⟨y,H2,I2,r2,q2⟩ =>
  thn (ho pins s2 σ H2 x y v u _ I2 r1 r2 q2) fun d s3 ⟨z,H3,I3,r3,k,e,q3⟩=>?_)) hm
 subst e
 cases r3
 refine wpAny_truthy_bool ?_
 cases k with
 | false =>
  obtain ⟨k',e',q'⟩:=q3
  cases e'
  exact ite_ff ⟨H3,I3,q'⟩
 | true =>
  refine ite_tt (test_last (thn (hc pins s3 σ H3 _ I3 q3) fun w' s4 ⟨z',H4,I4,r4,q4⟩=>thn (ho' pins s4 σ H4 y z' u w' _ I4 r2 r4 q4) fun d' s5 ⟨z2,H5,I5,r5,k2,e2,q5⟩=>?_))
  subst e2
  cases r5
  exact wpAny_truthy_bool ⟨H5,I5,q5⟩
theorem line63 : (sizeLine : Nat) < 2 ^ 63:=by rw [sizeLine_eq];decide
theorem op_add_str : OpR X (binaryOp .Add) (fun x y H Q=>∃ i j,x = .str i/\y = .str j/\i.length + j.length <= sizeLine/\Q (.str (i ++ j)) H):=by
 intro pins s σ H x y v u Q I rx ry h
 obtain ⟨i,j,rfl,rfl,hz,q⟩:=h
 obtain ⟨t,rfl⟩:=rx
 obtain ⟨t',rfl⟩:=ry
 exact add_str (fun t' tk=>⟨.str (i ++ j),H,I.tok _,⟨_,rfl⟩,q⟩) hz
theorem vals1 {x : V} {us : List Value} (r : Vals [x] us) : ∃ u,us = [u]/\RelV x u:=by
 cases r with
 | cons r1 r2=>cases r2;exact ⟨_,rfl,r1⟩
theorem vals2 {x y : V} {us : List Value} (r : Vals [x,y] us) : ∃ u w',us = [u,w']/\RelV x u/\RelV y w':=by
 cases r with
 | cons r1 r2 =>
  cases r2 with
  | cons r3 r4=>cases r4;exact ⟨_,_,rfl,r1,r3⟩
theorem call_min2 (hc : X.calm = true) : CallR X (.builtin "min") (fun xs H Q=>∃ i j,xs = [.int i,.int j]/\Q (.int (if j < i then j else i)) H):=by
 intro pins s σ H xs us Q I r h
 obtain ⟨i,j,rfl,q⟩:=h
 obtain ⟨u,w',rfl,⟨t,rfl⟩,⟨t',rfl⟩⟩:=vals2 r
 refine min_two_ints (I.ok.hd hc) fun h' tk k=>⟨_,H,I.kept k,?_,q⟩
 by_cases hj : j < i
 ·rw [if_pos hj,if_pos hj];exact ⟨_,rfl⟩
 ·rw [if_neg hj,if_neg hj];exact ⟨_,rfl⟩
end
end L2
namespace L2
open PySem PySem.Spec PyProof.Rows
structure ObjM (h : Heap) (x dx C : Addr) (mA : Str->Option Value) : Prop where
 obj : h.get? x = some (PySem.W.instObj C dx)
 ns : h.Ns1 dx mA
 ne : dx ≠ x
theorem lookIn_ns {h : Heap} {dx : Addr} {mA : Str->Option Value} (n : h.Ns1 dx mA) : ∃ od,h.get? dx = some od/\∀ name,PySem.W.lookIn name od = some (mA name):=by
 obtain ⟨o,es,ep,ho,hd,hk,_,hm⟩:=n
 refine ⟨o,ho,fun name=>?_⟩
 have e:=hm name
 unfold nsFind findBy at e
 rw [<- Array.find?_toList] at e
 unfold PySem.W.lookIn
 rw [hd]
 dsimp only
 split
 ·rename_i y q
  rw [q] at e
  exact congrArg some e
 ·rename_i q
  rw [q] at e
  have a : es.toList.any (·.refKey) = false:=by
   rw [List.any_eq_false]
   intro y hy
   obtain ⟨z,t,hkey⟩:=hk y (Array.mem_toList_iff.mp hy)
   simp [DictEntry.refKey,hkey]
  have a' : ¬ es.toList.any (·.refKey) = true:=by rw [a];exact Bool.false_ne_true
  rw [if_neg a']
  exact congrArg some e
theorem ObjM.look {h : Heap} {x dx C : Addr} {mA : Str->Option Value} (I : ObjM h x dx C mA) : ∃ od,PySem.W.InstAt h x (PySem.W.instObj C dx) C (some od)/\∀ name,PySem.W.lookIn name od = some (mA name) :=
 let ⟨od,ho,hl⟩:=lookIn_ns I.ns
 ⟨od,⟨I.obj,rfl,rfl,ho⟩,hl⟩
section
variable {prog : Program} {w : World} {A : Around} {E : Value->Shared->Prop} {s : Shared} {K : PySem.W.Frag} {x dx C f : Addr} {mA : Str->Option Value} {name : Str} {v : Value}
end
def putF (f : Str) (v : V) : List (Str × V)->List (Str × V)
 | []=>[(f,v)]
 | (g,x) :: r=>if g = f then (g,v) :: r else (g,x) :: putF f v r
theorem lookup_putF (f g : Str) (v : V) : ∀ fs : List (Str × V),(putF f v fs).lookup g = if g = f then some v else fs.lookup g
 | []=>by
  show List.lookup g [(f,v)] = _
  by_cases h : g = f
  ·have hb : (g == f) = true:=beq_iff_eq.mpr h
   simp only [List.lookup,hb,if_pos h]
  ·have hb : (g == f) = false:=beq_eq_false_iff_ne.mpr h
   simp only [List.lookup,hb,if_neg h]
 | (k,x) :: r=>by
  have ih:=lookup_putF f g v r
  rw [show putF f v ((k,x) :: r) = (if k = f then (k,v) :: r else (k,x) :: putF f v r) from rfl]
  by_cases hk : k = f
  ·rw [if_pos hk]
   by_cases h : g = k
   ·have hb : (g == k) = true:=beq_iff_eq.mpr h
    simp only [List.lookup,hb,if_pos (h.trans hk)]
   ·have hb : (g == k) = false:=beq_eq_false_iff_ne.mpr h
    simp only [List.lookup,hb,if_neg (fun e : g = f=>h (e.trans hk.symm))]
  ·rw [if_neg hk]
   by_cases h : g = k
   ·have hb : (g == k) = true:=beq_iff_eq.mpr h
    simp only [List.lookup,hb,if_neg (fun e : g = f=>hk (h.symm.trans e))]
   ·have hb : (g == k) = false:=beq_eq_false_iff_ne.mpr h
    simp only [List.lookup,hb]
    exact ih
theorem handed_of {v : V} {u : Value} (r : RelV v u) : PySem.W.handedIn u = true:=by
 cases v with
 | non=>cases (show u = Value.none from r);rfl
 | bl b=>cases (show u = Value.bool b from r);rfl
 | int i=>obtain ⟨t,e⟩:=(show ∃ t,u = Value.int i t from r);cases e;rfl
 | str x=>obtain ⟨t,e⟩:=(show ∃ t,u = Value.str x t from r);cases e;rfl
 | byt b=>obtain ⟨t,e⟩:=(show ∃ t,u = Value.bytes b t from r);cases e;rfl
 | flt b=>obtain ⟨t,e⟩:=(show ∃ t,u = Value.float b t from r);cases e;rfl
 | ref a=>cases (show u = Value.ref a from r);rfl
 | ty n=>cases (show u = Value.type n from r);rfl
section
variable {P : Program} {w : World} {H H' : Hp} {h h' : Heap} {a C dx : Addr} {fs fs' : List (Str × V)}
theorem ins_get (hok : HOk P w H h) (e : H a = some (.ins C dx fs)) : ∃ mA,ObjM h a dx C mA/\(∀ f,RelO (fs.lookup f) (mA f))/\PySem.Within mA (fs.map (·.1))/\fs.length <= 1000/\H dx = some (.own a):=by
 obtain ⟨d,z,ne,ob,mA,n,r,q⟩:=(show ObjOk P w H h a (.ins C dx fs) from hok a _ e)
 exact ⟨mA,⟨ob,n,ne⟩,r,q,z,d⟩
end
structure Cls (K : PySem.W.Frag) (C : Addr) : Prop where
 pg : PySem.W.plainGet K C Str.empty = true
 hd : PySem.W.hasDictIn K C = true
 po : PySem.W.plainOver K C = true
 sa : PySem.W.findIn K (.ref C) "__setattr__" = some (some (.builtin "object.__setattr__"))
theorem Cls.get {K : PySem.W.Frag} {C : Addr} (c : Cls K C) (f : Str) : PySem.W.plainGet K C f = true:=c.pg
section
variable {X : Cx} {pins : List (Addr × Obj)} {σ : St} {H : Hp} {s : Shared} {a C dx : Addr} {fs : List (Str × V)} {f : Str} {v : V} {A : Around} {E : Value->Shared->Prop}
theorem attr_of {prog : Program} {w : World} {env : Env} {e : Expr} {f : Str} {pos : Pos} {s : Shared} {Q : Value->Shared->Prop} (hb : attributeBase e f env (eval e env) = eval e env)
  (h : wpAny (model prog w) A (eval e env) (fun o s₁=>wpAny (model prog w) A (getAttr o f true) Q E s₁) E s) : wpAny (model prog w) A (eval (.Attribute e f pos) env) Q E s :=
 Attribute_any_ h (by rw [arm_eval_Attribute,hb])
end
section
variable {X : Cx} {o e value : Expr} {f : Str} {pos pos' tpos : Pos} {ta tv : TE}
end
section
variable {X : Cx} {pins : List (Addr × Obj)} {σ : St} {H : Hp} {s : Shared} {A : Around} {E : Value->Shared->Prop} {Q : Value->Shared->Prop} {c : Value} {b : Bool}
inductive TyOf (K : PySem.W.Frag) (H : Hp) : V->Value->Prop where
 | non : TyOf K H .non (.type "NoneType")
 | bl (x : Bool) : TyOf K H (.bl x) (.type "bool")
 | int (i : Int) : TyOf K H (.int i) (.type "int")
 | str (x : Str) : TyOf K H (.str x) (.type "str")
 | flt (x : UInt64) : TyOf K H (.flt x) (.type "float")
 | lst {a : Addr} {xs : List V} (e : H a = some (.lst xs)) : TyOf K H (.ref a) (.type "list")
 | frz {a : Addr} {o : Obj} {xs : List V} (e : H a = some (.frz o (.lst xs))) : TyOf K H (.ref a) (.type "list")
 | tup {a : Addr} {xs : List V} (e : H a = some (.tup xs)) : TyOf K H (.ref a) (.type "tuple")
 | dK {a : Addr} {kvs : List (Key × V)} (e : H a = some (.dK kvs)) : TyOf K H (.ref a) (.type "dict")
 | dT {a : Addr} {kvs : List (List Key × V)} (e : H a = some (.dT kvs)) : TyOf K H (.ref a) (.type "dict")
 | ins {a C dx : Addr} {fs : List (Str × V)} (e : H a = some (.ins C dx fs)) (cl : Cls K C) (ha : PySem.W.findIn K (.ref C) "__class__" = some (some (.builtin "object.__class__")))
   (hn : PySem.W.specialIn K (.builtin "object.__class__") "__get__" = some (some (.builtin "getset_descriptor.__get__"))) (htk : PySem.W.takesIn K (.builtin "object.__class__") = some true)
   (hm : PySem.W.mroIn K C (.type "object") = some true) : TyOf K H (.ref a) (.ref C)
theorem isinst_ok {x : V} {u t : Value} (I : Inv X pins σ H s) (rx : RelV x u) (ty : TyOf X.K H x t) (e : PySem.W.kitOne X.K t c = some b) (h : ∀ tk,Q (.bool b) { s with toks:=tk }) :
  wpAny (model X.prog X.w) A (call (.builtin "isinstance") [u,c]) Q E s:=by
 cases ty with
 | non=>cases (show u = Value.none from rx);exact PySem.W.kia_one PySem.W.kitx_none I.kIn True.intro e (fun z=>nomatch z) h
 | bl y=>cases (show u = Value.bool y from rx);exact PySem.W.kia_one PySem.W.kitx_bool I.kIn True.intro e (fun z=>nomatch z) h
 | int i=>obtain ⟨t,q⟩:=(show ∃ t,u = Value.int i t from rx);cases q;exact PySem.W.kia_one PySem.W.kitx_int I.kIn True.intro e (fun z=>nomatch z) h
 | str y=>obtain ⟨t,q⟩:=(show ∃ t,u = Value.str y t from rx);cases q;exact PySem.W.kia_one PySem.W.kitx_str I.kIn True.intro e (fun z=>nomatch z) h
 | flt y=>obtain ⟨t,q⟩:=(show ∃ t,u = Value.float y t from rx);cases q;exact PySem.W.kia_one PySem.W.kitx_float I.kIn True.intro e (fun z=>nomatch z) h
 | @lst a xs ea =>
  cases (show u = Value.ref a from rx)
  obtain ⟨_,_,n,_,h1⟩:=(show ObjOk X.prog X.w H s.heap a (.lst xs) from I.hok a _ ea)
  exact PySem.W.kia_one PySem.W.kitx_list I.kIn ⟨_,h1,rfl⟩ e (fun z=>nomatch z) h
 | @frz a ob xs ea =>
  cases (show u = Value.ref a from rx)
  obtain ⟨_,_,_,n,_,h1⟩:=(show ObjOk X.prog X.w H s.heap a (.frz ob (.lst xs)) from I.hok a _ ea)
  exact PySem.W.kia_one PySem.W.kitx_list I.kIn ⟨_,h1,rfl⟩ e (fun z=>nomatch z) h
 | @tup a xs ea =>
  cases (show u = Value.ref a from rx)
  obtain ⟨_,_,_,p⟩:=(show ObjOk X.prog X.w H s.heap a (.tup xs) from I.hok a _ ea)
  obtain ⟨o,h1,h2,_⟩:=p
  exact PySem.W.kia_one PySem.W.kitx_tuple I.kIn ⟨o,h1,h2⟩ e (fun z=>nomatch z) h
 | @dK a kvs ea =>
  cases (show u = Value.ref a from rx)
  obtain ⟨_,_,vs,_,p⟩:=(show ObjOk X.prog X.w H s.heap a (.dK kvs) from I.hok a _ ea)
  obtain ⟨o,es,ep,h1,h2,_⟩:=p
  exact PySem.W.kia_one PySem.W.kitx_dict I.kIn ⟨o,h1,h2.1⟩ e (fun z=>nomatch z) h
 | @dT a kvs ea =>
  cases (show u = Value.ref a from rx)
  obtain ⟨_,_,xs,_,o,es,ep,h1,h2,_⟩:=(show ObjOk X.prog X.w H s.heap a (.dT kvs) from I.hok a _ ea)
  exact PySem.W.kia_one PySem.W.kitx_dict I.kIn ⟨o,h1,h2.1⟩ e (fun z=>nomatch z) h
 | @ins a C dx fs ea cl ha hn htk hm =>
  cases (show u = Value.ref a from rx)
  obtain ⟨mA,O,_⟩:=ins_get I.hok ea
  obtain ⟨od,J,_⟩:=O.look
  exact PySem.W.kia_one (PySem.W.kitx_own (cl.get _) cl.hd ha hn htk hm) I.kIn J e (fun z=>nomatch z) h
end
end L2
namespace L2
open PySem PySem.Spec PyProof.Rows
structure Room (k : Nat) (A : Around) : Prop where
 hd : A.handled = none
 dp : A.depth + 3 * k + 5 < recursionLimit
 un : A.units + 16 * k + 200 < cLine
theorem Room.mono {j k : Nat} {A : Around} (r : Room k A) (h : j <= k) : Room j A:=⟨r.hd,by have:=r.dp;omega,by have:=r.un;omega⟩
theorem Room.deeper {k : Nat} {A : Around} (r : Room (k + 1) A) (env : Env) : Room k (A.deeper env) :=
 ⟨r.hd,by have:=r.dp;show A.depth + 1 + 3 * k + 5 < _;omega,by have:=r.un;show A.units + 3 + 16 * k + 200 < _;omega⟩
theorem Room.in1 {k : Nat} {A : Around} (r : Room (k + 1) A) : Room k A.in1 :=
 ⟨r.hd,by have:=r.dp;show A.depth + 3 * k + 5 < _;omega,by have:=r.un;show A.units + 1 + 16 * k + 200 < _;omega⟩
theorem make_depth {A : Around} {C : Addr} {us : List Value} {kw : List (Str × Value)} : (A.under (.builtin "type.__call__" ⟨.ref C :: us,kw⟩)).depth = A.depth + 1:=by
 first | rfl | simp [Around.under,Code.weight,Code.isCreation,Code.isGuard,Code.isCaller,Code.frames,Code.isFrame,guardIds]
theorem make_units {A : Around} {C : Addr} {us : List Value} {kw : List (Str × Value)} : (A.under (.builtin "type.__call__" ⟨.ref C :: us,kw⟩)).units = A.units + 1:=by
 first | rfl | simp [Around.under,Code.cUnits,Code.frames,Code.isFrame]
theorem Room.make {k : Nat} {A : Around} (r : Room (k + 1) A) (C : Addr) (us : List Value) (kw : List (Str × Value)) : Room k (A.under (.builtin "type.__call__" ⟨.ref C :: us,kw⟩)) :=
 ⟨r.hd,by have:=r.dp;rw [make_depth];omega,by have:=r.un;rw [make_units];omega⟩
theorem Room.depth {k : Nat} {A : Around} (r : Room k A) : A.depth < recursionLimit:=by have:=r.dp;omega
theorem Room.units {k : Nat} {A : Around} (r : Room k A) : A.units + 64 < cLine:=by have:=r.un;omega
def tNil : TA:=fun _ H Q=>Q [] H
def tCons (ta : TE) (tr : TA) : TA:=fun σ H Q=>ta σ H fun x H1=>tr σ H1 fun xs H2=>Q (x :: xs) H2
section
variable {X : Cx} {e : Expr} {es : List Expr} {te : TE} {t : TA} {pos : Pos}
theorem pa_nil : PA X [] tNil:=fun _ _ _ _ H Q I h=>Calls.spliced_nil ⟨[],H,I,.nil,h⟩
theorem pa_cons (ha : PE X e te) (hr : PA X es t) (hs : starEach (e :: es) X.env = (false,eval e X.env) :: starEach es X.env:=by rfl) : PA X (e :: es) (tCons te t):=by
 intro pos pins s σ H Q I h
 rw [hs]
 show wpAny _ _ (spliced ((false,eval e X.env) :: backTo pos (starEach es X.env))) _ _ s
 refine Calls.spliced_cons (thn (ha pins s σ H _ I h) fun u s1 ⟨x,H1,I1,r1,q1⟩=>?_)
 exact thn (hr pos pins s1 σ H1 _ I1 q1) fun us s2 ⟨xs,H2,I2,r2,q2⟩=>⟨x :: xs,H2,I2,.cons r1 r2,q2⟩
def tTup (t : TA) : TE:=fun σ H Q=>t σ H fun xs H1=>xs.length <= sizeLine/\∀ p,H1 p = none->Q (.ref p) (upd H1 p (.tup xs))
def tLst (t : TA) : TE:=fun σ H Q=>t σ H fun xs H1=>xs.length <= sizeLine/\∀ p,H1 p = none->Q (.ref p) (upd H1 p (.lst xs))
theorem pe_tup {x1} (h : PA X es t) : PE X (.Tuple es x1 pos) (tTup t):=by
 intro pins s σ H Q I hq
 refine wpAny_Tuple_spliced (thn (h pos pins s σ H _ I hq) fun us s1 ⟨xs,H1,I1,r,z,q⟩=>⟨by rw [<- r.length];exact z,?_⟩)
 have hf : H1 s1.heap.objs.size = none:=I1.hok.fresh (Nat.le_refl _)
 refine ⟨.ref s1.heap.objs.size,upd H1 s1.heap.objs.size (.tup xs),I1.laid (t':=s1.toks) (fun b u e=>Heap.get?_push_of_some _ e) (Nat.le_refl _) ?_,rfl,q _ hf⟩
 exact ⟨z,us,r,⟨_,Heap.get?_push_size _ rfl,rfl,_,rfl⟩⟩
theorem pe_lst (h : PA X es t) : PE X (.List es pos) (tLst t):=by
 intro pins s σ H Q I hq
 refine wpAny_List_spliced (thn (h pos pins s σ H _ I hq) fun us s1 ⟨xs,H1,I1,r,z,q⟩=>⟨by rw [<- r.length];exact z,?_⟩)
 have hf : H1 s1.heap.objs.size = none:=I1.hok.fresh (Nat.le_refl _)
 refine ⟨.ref s1.heap.objs.size,upd H1 s1.heap.objs.size (.lst xs),I1.laid (t':=s1.toks) (fun b u e=>Heap.get?_push_of_some _ e) (Nat.le_refl _) ?_,rfl,q _ hf⟩
 exact ⟨z,us,0,r,Heap.get?_push_size _ rfl⟩
end
abbrev Sp:=List V->Hp->VK->XK->Prop
abbrev CXT:=List Env->Hp->Shared->XK->Value->Shared->Prop
structure Env0 (P : Program) (w : World) (K : PySem.W.Frag) (mg : Str->Option Value) (base : Heap) (A : Around) (outer : List Env) (s : Shared) (H : Hp) : Prop where
 frames : A.frames = some outer
 mod : Mod K mg base
 bs : ∀ b o,base.get? b = some o->s.heap.get? b = some o/\H b = none
 bsz : base.objs.size <= s.heap.objs.size
 funs : s.heap.FunFrames base outer
 frf : ∀ b ∈ frs outer,H b = none
 hok : HOk P w H s.heap
 bare : AllBare s.gens
def CE (outer : List Env) (P : Program) (w : World) (H : Hp) (s : Shared) (Q : VK) (u : Value) (s' : Shared) : Prop :=
 ∃ v H',s'.os = s.os/\GOk s.gens s'.gens/\Un (frs outer) [] H H' s.heap s'.heap/\HOk P w H' s'.heap/\RelV v u/\Q v H'
def CR (CX : CXT) (outer : List Env) (P : Program) (w : World) (H : Hp) (s : Shared) (Q : VK) (E : XK) (r : Result) (s' : Shared) : Prop :=
 match r with
 | .ok (.ret u)=>CE outer P w H s Q u s'
 | .ok _=>False
 | .error e=>CX outer H s E e s'
structure FnOk (P : Program) (w : World) (K : PySem.W.Frag) (mg : Str->Option Value) (base : Heap) (CX : CXT) (k : Nat) (f : Addr) (fd : FuncData) (ps : List Str) (sp : Sp) : Prop where
 len : ∀ vs H Q E,sp vs H Q E->vs.length = ps.length
 run : ∀ (A : Around) (outer : List Env) (s : Shared) (H : Hp) (args : Args) (us : List Value) (vs : List V) (Q : VK) (E : XK),Room k A->Env0 P w K mg base A outer s H->BindsTo s fd args (ps.zip us)->Vals vs us->sp vs H Q E ->
  codeAny (model P w) A (.call (.ref f) args) (CR CX outer P w H s Q E) s
theorem FnOk.mono {P : Program} {w : World} {K : PySem.W.Frag} {mg : Str->Option Value} {base : Heap} {CX : CXT} {j k : Nat} {f : Addr} {fd : FuncData} {ps : List Str} {sp : Sp} (F : FnOk P w K mg base CX j f fd ps sp) (h : j <= k) :
  FnOk P w K mg base CX k f fd ps sp:=⟨F.len,fun A outer s H args us vs Q E hr=>F.run A outer s H args us vs Q E (hr.mono h)⟩
theorem FnOk.imp {P : Program} {w : World} {K : PySem.W.Frag} {mg : Str->Option Value} {base : Heap} {CX : CXT} {k : Nat} {f : Addr} {fd : FuncData} {ps : List Str} {sp sp' : Sp} (F : FnOk P w K mg base CX k f fd ps sp)
  (h : ∀ vs H Q E,sp' vs H Q E->sp vs H Q E) : FnOk P w K mg base CX k f fd ps sp' :=
 ⟨fun vs H Q E q=>F.len vs H Q E (h _ _ _ _ q),fun A outer s H args us vs Q E hr he hb hv hs=>F.run A outer s H args us vs Q E hr he hb hv (h _ _ _ _ hs)⟩
theorem Env0.make {P : Program} {w : World} {K : PySem.W.Frag} {mg : Str->Option Value} {base : Heap} {A : Around} {outer : List Env} {s : Shared} {H : Hp} (e : Env0 P w K mg base A outer s H) (C : Addr) (us : List Value) (kw : List (Str × Value)) :
  Env0 P w K mg base (A.under (.builtin "type.__call__" ⟨.ref C :: us,kw⟩)) outer s H:=⟨by first | exact e.frames | (simpa [Around.under,Code.envs,Code.isFrame,pushEnvs] using e.frames),e.mod,e.bs,e.bsz,e.funs,e.frf,e.hok,e.bare⟩
theorem Env0.in1 {P : Program} {w : World} {K : PySem.W.Frag} {mg : Str->Option Value} {base : Heap} {A : Around} {outer : List Env} {s : Shared} {H : Hp} (e : Env0 P w K mg base A outer s H) :
  Env0 P w K mg base A.in1 outer s H:=⟨e.frames,e.mod,e.bs,e.bsz,e.funs,e.frf,e.hok,e.bare⟩
section
variable {X : Cx} {pins : List (Addr × Obj)} {σ : St} {H : Hp} {s s' : Shared}
theorem Inv.env0 (I : Inv X pins σ H s) : Env0 X.prog X.w X.K X.mg X.base X.A X.stack s H :=
 ⟨I.ok.frames,I.ok.mod,I.bs,Nat.le_trans I.ok.bsz I.sz,I.stack,I.stkFree,I.hok,I.bare.1⟩
theorem Inv.after {Q : VK} {u : Value} (I : Inv X pins σ H s) (h : CE X.stack X.prog X.w H s Q u s') : EP X pins σ Q u s':=by
 obtain ⟨v,H',os,bare,un,hok,r,q⟩:=h
 obtain ⟨hh,g,d,t,os'⟩:=s'
 obtain rfl : os' = s.os:=os
 exact ⟨v,H',I.call (h':=hh) (g':=g) (d':=d) (t':=t) (ch:=[]) un hok bare (fun b z=>absurd z (by simp)),r,q⟩
end
def tCall (sp : Sp) (dvs : List V) (E : XK) (t : TA) : TE:=fun σ H Q=>t σ H fun vs H1=>sp (vs ++ dvs) H1 Q E
def Binds (K : PySem.W.Frag) (fd : FuncData) (ps : List Str) (ds : List Value) : Prop :=
 ∀ (s : Shared) (us : List Value),K.In s.heap->(us ++ ds).length = ps.length->BindsTo s fd ⟨us,[]⟩ (ps.zip (us ++ ds))
theorem Binds.all {K : PySem.W.Frag} {fd : FuncData} {ps : List Str} (h : ∀ us : List Value,us.length = ps.length->bindArgs fd ⟨us,[]⟩ = pure (ps.zip us)) : Binds K fd ps []:=fun s us _ hl=>by
 rw [List.append_nil] at hl ⊢
 exact .of_eq (h us hl)
def Passes (CX : CXT) (X : Cx) (E : XK) : Prop := ∀ (pins : List (Addr × Obj)) (σ : St) (H : Hp) (s : Shared) (e : Value) (s' : Shared),Inv X pins σ H s->CX X.stack H s E e s'->X.xe e s'
section
variable {X : Cx} {CX : CXT} {k : Nat} {f C : Addr} {fd : FuncData} {ps : List Str} {sp : Sp} {dvs : List V} {ds : List Value} {E : XK} {x m : Str} {p pos apos : Pos} {e o : Expr} {es : List Expr} {ta : TE} {t : TA}
theorem run_fn {pins : List (Addr × Obj)} {σ : St} {H : Hp} {s : Shared} {Q : VK} {us : List Value} {vs : List V} (F : FnOk X.prog X.w X.K X.mg X.base CX k f fd ps sp) (hr : Room k X.A) (hb : Binds X.K fd ps ds) (hd : Vals dvs ds) (hx : Passes CX X E)
  (I : Inv X pins σ H s) (r : Vals vs us) (h : sp (vs ++ dvs) H Q E) : wpAny (model X.prog X.w) X.A (call (.ref f) us) (EP X pins σ Q) X.xe s:=by
 have r2 : Vals (vs ++ dvs) (us ++ ds):=r.append hd
 have hl : (us ++ ds).length = ps.length:=by rw [<- r2.length];exact F.len _ _ _ _ h
 refine wpAny_call (codeAny_mono (F.run X.A X.stack s H ⟨us,[]⟩ (us ++ ds) (vs ++ dvs) Q E hr I.env0 (hb s us I.kIn hl) r2 h) fun r s' hq=>?_)
 cases r with
 | error e=>exact hx pins σ H s e s' I hq
 | ok fl =>
  cases fl with
  | ret u=>exact I.after hq
  | next=>exact False.elim hq
  | brk=>exact False.elim hq
  | cont=>exact False.elim hq
theorem pe_call (F : FnOk X.prog X.w X.K X.mg X.base CX k f fd ps sp) (hr : Room k X.A) (hg : Gl X x) (hm : X.mg x = some (.ref f)) (hk : PySem.W.keepIn X.K (.ref f) = true) (hb : Binds X.K fd ps ds) (hd : Vals dvs ds) (hx : Passes CX X E)
  (ha : PA X (e :: es) t) (hdb : (x == ("__debug__" : Str)) = false:=by decide) (he : starEach (e :: es) X.env = (false,eval e X.env) :: starEach es X.env:=by rfl) (hpl : (backTo pos (starEach es X.env)).any (·.1) = false:=by rfl) :
  PE X (.Call (.Name x p) (e :: es) [] pos) (tCall sp dvs E t):=by
 intro pins s σ H Q I h
 refine wpAny_Call_Name_kw (ld_glob I hg hm ?_ hdb)
 refine PySem.W.callWith_K (h₀:=X.base) I.ok.mod.kin hk (thn (ha pos pins s σ H _ I h) fun us s1 ⟨vs,H1,I1,r,q⟩=>⟨I1.kIn,?_⟩) he hpl
 exact run_fn F hr hb hd hx I1 r q
end
section
variable {X : Cx} {CX : CXT} {k : Nat} {f C : Addr} {fd : FuncData} {ps ks : List Str} {sp : Sp} {E : XK} {x m : Str} {p pos apos kpos : Pos} {e o : Expr} {es : List Expr} {kws : List Keyword} {te ta : TE} {t tk : TA} {nm : Option Str}
variable {g : List Value->List Value->List Value} {gV : List V->List V->List V}
end
structure FnScope (N P : List Str) (sc : Scope) : Prop where
 kind : sc.kind = .function
 co : sc.isCoroutine = false
 gen : sc.isGenerator = false
 nd : N.Nodup
 pre : N.take P.length = P
 par : ∀ x ∈ P,sc.names.lookup x = some .local\/sc.names.lookup x = some .cell
 nofree : ∀ y ∈ sc.names,y.2 ≠ .free
theorem bindL_out {kindOf : Str->Option NameKind} {x : Str} : ∀ {binds : List (Str × Value)} {m : Str->Option Value},(∀ v,(x,v) ∉ binds)->bindL kindOf binds m x = m x
 | [],_,_=>rfl
 | (n,v) :: r,m,h=>by
  unfold bindL
  rw [bindL_out fun w hw=>h w (List.mem_cons_of_mem _ hw)]
  split
  ·have : x ≠ n:=by rintro rfl;exact h v List.mem_cons_self
   simp [this]
  ·rfl
theorem bindC_out {kindOf : Str->Option NameKind} {x : Str} : ∀ {binds : List (Str × Value)} {m : Str->Option Value},(∀ v,(x,v) ∉ binds)->bindC kindOf binds m x = m x
 | [],_,_=>rfl
 | (n,v) :: r,m,h=>by
  unfold bindC
  rw [bindC_out fun w hw=>h w (List.mem_cons_of_mem _ hw)]
  split
  ·rfl
  ·have : x ≠ n:=by rintro rfl;exact h v List.mem_cons_self
   simp [this]
theorem bindL_get {kindOf : Str->Option NameKind} {x : Str} {v : Value} : ∀ {P : List Str} {vs : List Value} {i : Nat} {m : Str->Option Value},P.Nodup->P[i]? = some x->vs[i]? = some v->kindOf x = some .local ->
  bindL kindOf (P.zip vs) m x = some v
 | [],_,_,_,_,h,_,_=>by simp at h
 | _ :: _,[],_,_,_,_,h,_=>by simp at h
 | p :: P,w :: vs,0,m,nd,h1,h2,hk=>by
  simp at h1 h2;subst h1;subst h2
  show bindL kindOf ((p,w) :: P.zip vs) m p = _
  unfold bindL
  rw [bindL_out fun v hv=>(List.nodup_cons.mp nd).1 (List.of_mem_zip hv).1,if_pos hk]
  simp
 | p :: P,w :: vs,i + 1,m,nd,h1,h2,hk=>by
  show bindL kindOf ((p,w) :: P.zip vs) m x = _
  unfold bindL
  exact bindL_get (i:=i) (List.nodup_cons.mp nd).2 (by simpa using h1) (by simpa using h2) hk
theorem bindC_get {kindOf : Str->Option NameKind} {x : Str} {v : Value} : ∀ {P : List Str} {vs : List Value} {i : Nat} {m : Str->Option Value},P.Nodup->P[i]? = some x->vs[i]? = some v->kindOf x ≠ some .local ->
  bindC kindOf (P.zip vs) m x = some v
 | [],_,_,_,_,h,_,_=>by simp at h
 | _ :: _,[],_,_,_,_,h,_=>by simp at h
 | p :: P,w :: vs,0,m,nd,h1,h2,hk=>by
  simp at h1 h2;subst h1;subst h2
  show bindC kindOf ((p,w) :: P.zip vs) m p = _
  unfold bindC
  rw [bindC_out fun v hv=>(List.nodup_cons.mp nd).1 (List.of_mem_zip hv).1,if_neg hk]
  simp
 | p :: P,w :: vs,i + 1,m,nd,h1,h2,hk=>by
  show bindC kindOf ((p,w) :: P.zip vs) m x = _
  unfold bindC
  exact bindC_get (i:=i) (List.nodup_cons.mp nd).2 (by simpa using h1) (by simpa using h2) hk
def start (N : List Str) (vs : List V) : St:=vs.map some ++ List.replicate (N.length - vs.length) none
def cxOf (CX : CXT) (P : Program) (w : World) (K : PySem.W.Frag) (mg : Str->Option Value) (base : Heap) (N : List Str) (qual : Str) (scope : Scope) (f : Addr) (cd : Value) (A : Around) (outer : List Env) (s : Shared) (H : Hp) (E : XK) : Cx where
 prog:=P
 w:=w
 K:=K
 mg:=mg
 base:=base
 A:=A.deeper (envOfC qual scope s.heap.objs.size f cd)
 N:=N
 s₀:=s
 H₀:=H
 env:=envOfC qual scope s.heap.objs.size f cd
 outer:=outer
 stack:=envOfC qual scope s.heap.objs.size f cd :: outer
 ex:=[]
 calm:=true
 fn:=fun _=>true
 pn:=[]
 xe:=fun e s'=>wpAny (model P w) (A.deeper (envOfC qual scope s.heap.objs.size f cd)) (leaving (envOfC qual scope s.heap.objs.size f cd) e) (fun _ s''=>CX outer H s E e s'') (fun e' s''=>CX outer H s E e' s'') s'
theorem cell_has {sc : Scope} {n : Nat} {x : Str} (h : sc.names.lookup x = some .cell) : ∃ c,(cellsFrom n sc.names []).lookup x = some c:=by
 have q:=PySem.W.cellsFrom_some sc.names n [] (.inl h)
 exact Option.isSome_iff_exists.mp q
theorem inv_start {CX : CXT} {P : Program} {w : World} {K : PySem.W.Frag} {mg : Str->Option Value} {base : Heap} {N ps : List Str} {qual : Str} {scope : Scope} {f : Addr} {cd : Value} {A : Around} {outer : List Env} {s s1 : Shared} {H : Hp} {E : XK} {us : List Value} {vs : List V}
  (S : FnScope N ps scope) (hd : A.handled = none) (e0 : Env0 P w K mg base A outer s H) (hl : vs.length = ps.length) (r : Vals vs us)
  (x : InCallC s s.heap.objs.size (bindL (envOfC qual scope s.heap.objs.size f cd).kindOf (ps.zip us) fun _=>none) (cellsFrom (s.heap.objs.size + 1) scope.names []) (bindC (envOfC qual scope s.heap.objs.size f cd).kindOf (ps.zip us) fun _=>none) s1) :
  Inv (cxOf CX P w K mg base N qual scope f cd A outer s H E) [] (start N vs) H s1:=by
 have hpl : ps.length <= N.length:=by have:=congrArg List.length S.pre;rw [List.length_take] at this;omega
 obtain ⟨h1,tk,rfl,hk⟩:=x.done
 have noA : ∀ b : Addr,b ∉ (cxOf CX P w K mg base N qual scope f cd A outer s H E).ex:=fun b z=>absurd (show b ∈ ([] : List Addr) from z) (by simp)
 refine ⟨⟨e0.mod,S.kind,rfl,rfl,Nat.le_refl _,fun y z c h1 h2=>?_,fun y hy=>?_,fun y c _ h=>?_,fun _=>hd,Around.frames_deeper e0.frames,.inr ⟨rfl,rfl⟩,fun b z=>absurd z (noA b),e0.bs,e0.bsz,fun b _ _=>noA b,fun b z=>absurd z (noA b),e0.funs,e0.frf⟩,
  rfl,⟨e0.bare,Nat.le_refl _⟩,Un.kept hk,⟨_,x.toInCall.ns,fun i y v h1 h2 h3=>?_⟩,fun y c h=>⟨_,x.cell y c h⟩,e0.hok.fresh (Nat.le_refl _),fun y c h=>?_,fun p hp=>absurd (show p ∈ ([] : List (Addr × Obj)) from hp) (by simp),e0.hok.kept hk,?_⟩
 ·exact name_of_addr x.apart (PySem.mem_of_lookup h1) (PySem.mem_of_lookup h2)
 ·have hy : scope.names.lookup y = some .cell\/scope.names.lookup y = some .free:=hy
  rcases hy with hy | hy
  ·exact cell_has hy
  ·exact absurd rfl (S.nofree _ (PySem.mem_of_lookup hy))
 ·exact Nat.le_of_lt (x.above y c (PySem.mem_of_lookup h))
 ·have hi : i < vs.length:=by
   unfold start at h2
   by_cases hi : i < vs.length
   ·exact hi
   ·rw [List.getElem?_append_right (by simpa using hi)] at h2
    rw [List.getElem?_replicate] at h2
    split at h2 <;> cases h2
  have ha : vs[i]? = some v:=by
   unfold start at h2
   rw [List.getElem?_append_left (by simpa using hi),List.getElem?_map] at h2
   cases e : vs[i]? with
   | none=>rw [e] at h2;cases h2
   | some a=>rw [e] at h2;cases h2;rfl
  obtain ⟨u,hu,rv⟩:=r.get ha
  have hp : ps[i]? = some y:=by
   rw [<- S.pre,List.getElem?_take_of_lt (by omega)];exact h1
  have ndP : ps.Nodup:=by rw [<- S.pre];exact S.nd.sublist (List.take_sublist _ _)
  refine ⟨u,rv,?_⟩
  rcases S.par y (List.mem_of_getElem? hp) with k | k
  ·exact .inl ⟨k,bindL_get ndP hp hu k⟩
  ·obtain ⟨c,e⟩:=cell_has (n:=s.heap.objs.size + 1) k
   refine .inr ⟨.inl k,c,e,?_⟩
   have q:=x.cell y c e
   rw [bindC_get ndP hp hu (by show scope.names.lookup y ≠ _;rw [k];decide)] at q
   exact q
 ·exact e0.hok.fresh (Nat.le_of_lt (x.above y c (PySem.mem_of_lookup h)))
 ·unfold start
  show _ = N.length
  rw [List.length_append,List.length_map,List.length_replicate]
  omega
theorem fn_of {CX : CXT} {P : Program} {w : World} {K : PySem.W.Frag} {mg : Str->Option Value} {base : Heap} {k : Nat} {f : Addr} {name qual : Str} {params : Arguments} {body : List Stmt} {scope : Scope} {dV kV doc pm cdv ct oc : Value} {an od : Option Addr}
  {osl : Array (Option Value)} {N ps : List Str} {sp : Sp} (lk : K.lookup f = some ⟨oc,od,.func (PySem.W.fnOf name qual params body scope dV kV doc pm an cdv ct),osl⟩) (hcd : PySem.W.codeIn K cdv qual = true) (S : FnScope N ps scope)
  (len : ∀ vs H Q E,sp vs H Q E->vs.length = ps.length)
  (hbody : ∀ (A : Around) (outer : List Env) (s : Shared) (H : Hp) (vs : List V) (Q : VK) (E : XK),Room k (A.deeper (envOfC qual scope s.heap.objs.size f cdv))->sp vs H Q E ->
   ∃ t,PSs (cxOf CX P w K mg base N qual scope f cdv A outer s H E) body t/\t { nx:=fun _ H'=>Q .non H',rt:=Q } (start N vs) H) :
  FnOk P w K mg base CX (k + 1) f (PySem.W.fnOf name qual params body scope dV kV doc pm an cdv ct) ps sp:=by
 refine ⟨len,fun A outer s H args us vs Q E hr e0 hb r hsp=>?_⟩
 have hl:=len _ _ _ _ hsp
 have KX : K.In s.heap:=e0.mod.kin.keeps fun b o e=>(e0.bs b o e).1
 have lim : s.heap.NoLimit:=e0.mod.nolimit.keeps fun b o e=>(e0.bs b o e).1
 have hkind : ∀ y ∈ ps.zip us,scope.names.lookup y.1 = some .local\/(scope.names.lookup y.1 = some .cell/\((cellsFrom (s.heap.objs.size + 1) scope.names []).lookup y.1).isSome = true):=fun ⟨n,v⟩ hy=>by
  rcases S.par n (List.of_mem_zip hy).1 with q | q
  ·exact .inl q
  ·exact .inr ⟨q,PySem.W.cellsFrom_some _ _ _ (.inl q)⟩
 refine codeAny_call_function hr.depth (KX _ _ lk) rfl S.co S.gen rfl (PySem.W.codeRec_of KX hcd) (hb _ _ _ _ ?_)
 refine wpAny_newFunctionEnv_cells S.kind hkind fun env he s1 x=>?_
 subst he
 refine ⟨lim.keeps x.toInCall.keep,codeAny_func ?_⟩
 obtain ⟨t,ht,hq⟩:=hbody A outer s H vs Q E (hr.deeper _) hsp
 have I : Inv (cxOf CX P w K mg base N qual scope f cdv A outer s H E) [] (start N vs) H s1:=inv_start S hr.hd e0 hl r x
 refine wpAny_mono (ht [] s1 (start N vs) H _ I hq) (fun fl s' hs=>?_) fun e s' hs=>hs
 have fin : ∀ {σ' : St} {H' : Hp} {v : V} {u : Value},Inv (cxOf CX P w K mg base N qual scope f cdv A outer s H E) [] σ' H' s'->RelV v u->Q v H'->CE outer P w H s Q u s' :=
  fun {σ' H' v u} J rv q=>⟨v,H',J.os,J.bare,J.base,J.hok,rv,q⟩
 cases fl with
 | ret u =>
  obtain ⟨v,σ',H',J,rv,q⟩:=hs
  exact fin J rv q
 | next =>
  obtain ⟨σ',H',J,q⟩:=hs
  exact fin (v:=V.non) (u:=Value.none) J rfl q
 | brk =>
  obtain ⟨_,_,_,q⟩:=hs
  exact False.elim q
 | cont =>
  obtain ⟨_,_,_,q⟩:=hs
  exact False.elim q
end L2
namespace L2
open PySem PySem.Spec PyProof.Rows
section
variable {X : Cx} {x : Str} {p pos : Pos} {e : Expr} {es : List Expr} {t : TA} {id T : String} {r : List V->Hp->VK->Prop}
def tCB (r : List V->Hp->VK->Prop) (t : TA) : TE:=fun σ H Q=>t σ H fun vs H1=>r vs H1 Q
theorem pe_callB (hc : CallR X (.builtin id) r) (hg : Gl X x) (hm : X.mg x = none) (hv : bootBuiltins x = some (.builtin id)) (ha : PA X (e :: es) t) (hn : x ≠ "__name__" := by decide) (hdb : (x == ("__debug__" : Str)) = false:=by decide)
  (he : starEach (e :: es) X.env = (false,eval e X.env) :: starEach es X.env:=by rfl) (hpl : (backTo pos (starEach es X.env)).any (·.1) = false:=by rfl) : PE X (.Call (.Name x p) (e :: es) [] pos) (tCB r t):=by
 intro pins s σ H Q I h
 refine wpAny_Call_Name_kw (ld_blt I hg hm hv ?_ hn hdb)
 exact PyProof.Rows.callWith_builtin1 (thn (ha pos pins s σ H _ I h) fun us s1 ⟨vs,H1,I1,r1,q1⟩=>hc pins s1 σ H1 vs us Q I1 r1 q1) he hpl
theorem pe_callTy (hc : CallR X (.type T) r) (hg : Gl X x) (hm : X.mg x = none) (hv : bootBuiltins x = some (.type T)) (ha : PA X (e :: es) t) (hn : x ≠ "__name__" := by decide) (hdb : (x == ("__debug__" : Str)) = false:=by decide)
  (he : starEach (e :: es) X.env = (false,eval e X.env) :: starEach es X.env:=by rfl) (hpl : (backTo pos (starEach es X.env)).any (·.1) = false:=by rfl) : PE X (.Call (.Name x p) (e :: es) [] pos) (tCB r t):=by
 intro pins s σ H Q I h
 refine wpAny_Call_Name_kw (ld_blt I hg hm hv ?_ hn hdb)
 exact PyProof.Rows.callWith_type1 (thn (ha pos pins s σ H _ I h) fun us s1 ⟨vs,H1,I1,r1,q1⟩=>hc pins s1 σ H1 vs us Q I1 r1 q1) he hpl
end
end L2
namespace HT
open PySem PyProof.Rows
section
open PySem.SeqAt
open PySem.AutoSeq1 (wpAny_loadPart')
open PySem.MeetsSeq PySem.MeetsSeq2 PySem.MeetsSeq3
end
section
variable {prog : Program} {w : World} {A : Around} {E : Value->Shared->Prop} {s : Shared}
theorem cat_tup {t b : Addr} {vs ws : List Value} {Q : Value->Shared->Prop} (ht : IsTup s.heap t vs.toArray) (hb : IsTup s.heap b ws.toArray) (hv : vs ≠ [])
  (h1 : ws = []->Q (.ref t) s) (h2 : ws ≠ []->Q (.ref s.heap.objs.size) { s with heap:=s.heap.push { cls:=.type "tuple",data:=.seq (vs ++ ws).toArray } })
  (hsz : vs.length + ws.length <= sizeLine) : wpAny (model prog w) A (binaryOp .Add (.ref t) (.ref b)) Q E s:=by
 obtain ⟨⟨cls,dd,data,sl⟩,ho,hc,n,hd⟩:=id ht
 obtain ⟨⟨cls2,dd2,data2,sl2⟩,ho2,hc2,n2,hd2⟩:=id hb
 simp only at hc hd hc2 hd2
 subst hc hd hc2 hd2
 have e : vs.toArray ++ ws.toArray = (vs ++ ws).toArray:=by simp
 by_cases hw : ws = []
 ·exact concat_meets ⟨_,ho,rfl⟩ ⟨_,ho2,rfl⟩ noFill_tuple_add seq_tuple_add PySem.F.slot_tuple_add PySem.F.entry_tuple_add (PySem.F.args_tuple_add_2 _ _)
   (tuple_addW1 t b vs.toArray ws.toArray n n2 dd dd2 sl sl2 (by simpa using hv) (by simp [hw])) ⟨ho,ho2,h1 hw⟩
 ·refine concat_meets ⟨_,ho,rfl⟩ ⟨_,ho2,rfl⟩ noFill_tuple_add seq_tuple_add PySem.F.slot_tuple_add PySem.F.entry_tuple_add (PySem.F.args_tuple_add_2 _ _)
   (tuple_addW2 t b vs.toArray ws.toArray n n2 dd dd2 sl sl2 (by simpa using hv) (by simpa using hw) (by rw [List.size_toArray,List.size_toArray];exact hsz)) ⟨ho,ho2,?_⟩
  rw [e]
  exact h2 hw
def sIx (n d : Nat) : Option Int->Nat
 | none=>d
 | some v=>if v < 0 then (v + (n : Int)).toNat else min v.toNat n
end
end HT
namespace L2
open PySem PySem.Spec PyProof.Rows
abbrev TO:=St->Hp->(Option Int->Hp->Prop)->Prop
def PO (X : Cx) (e : Option Expr) (t : TO) : Prop :=
 ∀ (pins : List (Addr × Obj)) (s : Shared) (σ : St) (H : Hp) (Q : Option Int->Hp->Prop),Inv X pins σ H s->t σ H Q ->
  wpAny (model X.prog X.w) X.A (evalPart e X.env) (fun u s'=>∃ o H',Inv X pins σ H' s'/\IsPart u o/\Q o H') X.xe s
def tNoPart : TO:=fun _ H Q=>Q none H
def tPart (t : TE) : TO:=fun σ H Q=>t σ H fun x H1=>∃ i,x = .int i/\Q (some i) H1
section
variable {X : Cx} {e : Expr} {te : TE} {lo hi : Option Expr} {tl th : TO} {pos p2 : Pos}
theorem po_none : PO X none tNoPart:=by
 intro pins s σ H Q I h
 rw [evalPart_none]
 exact wpAny_pure ⟨none,H,I,.none,h⟩
theorem po_some (h : PE X e te) : PO X (some e) (tPart te):=by
 intro pins s σ H Q I hw
 rw [evalPart_some]
 refine thn (h pins s σ H _ I hw) fun u s1 ⟨x,H1,I1,r1,q1⟩=>?_
 obtain ⟨i,rfl,q⟩:=q1
 obtain ⟨t,rfl⟩:=r1
 exact ⟨some i,H1,I1,.int i t,q⟩
def SlR (X : Cx) (r : V->Option Int->Option Int->Hp->VK->Prop) : Prop :=
 ∀ (pins : List (Addr × Obj)) (s : Shared) (σ : St) (H : Hp) (x : V) (v vl vu : Value) (lo hi : Option Int) (sl : Addr) (Q : VK),Inv X pins σ H s->RelV x v->s.heap.IsSliceOf sl vl vu .none->IsPart vl lo->IsPart vu hi->r x lo hi H Q ->
  ∃ T id,typeLookup (.type T) "__getitem__" = pure (some (.builtin id))/\s.TypeIs v T/\wpAny (model X.prog X.w) X.A (getItem v (.ref sl)) (EP X pins σ Q) X.xe s
theorem SlR.or {r r' : V->Option Int->Option Int->Hp->VK->Prop} (h : SlR X r) (h' : SlR X r') : SlR X (fun x lo hi H Q=>r x lo hi H Q\/r' x lo hi H Q):=by
 intro pins s σ H x v vl vu lo hi sl Q I rx hs pl pu q
 rcases q with q | q
 ·exact h pins s σ H x v vl vu lo hi sl Q I rx hs pl pu q
 ·exact h' pins s σ H x v vl vu lo hi sl Q I rx hs pl pu q
def tSl (r : V->Option Int->Option Int->Hp->VK->Prop) (te : TE) (tl th : TO) : TE:=fun σ H Q=>te σ H fun x H1=>tl σ H1 fun l H2=>th σ H2 fun u H3=>r x l u H3 Q
theorem pe_slice {r : V->Option Int->Option Int->Hp->VK->Prop} (hr : SlR X r) (he : PE X e te) (hl : PO X lo tl) (hu : PO X hi th) : PE X (.Subscript e (.Slice lo hi none p2) pos) (tSl r te tl th):=by
 intro pins s σ H Q I h
 refine Subscript_ (thn (he pins s σ H _ I h) fun v s1 ⟨x,H1,I1,r1,q1⟩=>?_)
 refine wpAny_Slice (thn (hl pins s1 σ H1 _ I1 q1) fun vl s2 ⟨l,H2,I2,pl,q2⟩=>thn (hu pins s2 σ H2 _ I2 q2) fun vu s3 ⟨u,H3,I3,pu,q3⟩=>?_)
 rw [evalPart_none]
 refine wpAny_pure ?_
 have I4 : Inv X pins σ H3 { s3 with heap:=s3.heap.push { cls:=.type "slice",data:=.fields #[vl,vu,.none] } }:=I3.kept (t':=s3.toks) fun b ob q=>Heap.get?_push_of_some _ q
 obtain ⟨T,id,hT,ht,hg⟩:=hr pins { s3 with heap:=s3.heap.push { cls:=.type "slice",data:=.fields #[vl,vu,.none] } } σ H3 x v vl vu l u s3.heap.objs.size Q I4 r1 (Heap.IsSliceOf.new ..) pl pu q3
 show wpAny (model X.prog X.w) X.A (subscriptTail e (.Slice lo hi none p2) v (.ref s3.heap.objs.size)) (EP X pins σ Q) X.xe { s3 with heap:=s3.heap.push { cls:=.type "slice",data:=.fields #[vl,vu,.none] } }
 exact tail_any (ops:=[.ref s3.heap.objs.size,v]) ht hT hg (by with_unfolding_all rfl)
def cutV (xs : List V) (lo hi : Option Int) : List V:=(xs.drop (HT.sIx xs.length 0 lo)).take (HT.sIx xs.length xs.length hi - HT.sIx xs.length 0 lo)
theorem cutV_length (xs : List V) (lo hi : Option Int) : (cutV xs lo hi).length <= xs.length:=by
 unfold cutV
 rw [List.length_take,List.length_drop]
 omega
def rCatT (K : PySem.W.Frag) : R2:=fun x y H Q=>∃ a b xs ys,x = .ref a/\y = .ref b/\SqT K H a xs/\SqT K H b ys/\xs ≠ []/\xs.length + ys.length <= sizeLine /\
 (ys = []->Q (.ref a) H)/\(ys ≠ []->∀ p,H p = none->Q (.ref p) (upd H p (.tup (xs ++ ys))))
theorem Vals.nil_iff {xs : List V} {us : List Value} (r : Vals xs us) : us = [] ↔ xs = []:=by
 cases r with
 | nil=>simp
 | cons _ _=>simp
theorem op_catT : OpR X (binaryOp .Add) (rCatT X.K):=by
 intro pins s σ H x y v u Q I rx ry h
 obtain ⟨a,b,xs,ys,rfl,rfl,ha,hb,hx,hz,q1,q2⟩:=h
 cases rx
 cases ry
 obtain ⟨its,r1,p1,_⟩:=I.tuple ha
 obtain ⟨its2,r2,p2,_⟩:=I.tuple hb
 refine HT.cat_tup p1 p2 (fun z=>hx (r1.nil_iff.mp z)) (fun z=>⟨.ref a,H,I,rfl,q1 (r2.nil_iff.mp z)⟩) (fun z=>?_) (by rw [<- r1.length,<- r2.length];exact hz)
 refine ⟨.ref s.heap.objs.size,_,I.laid (t':=s.toks) (o:=.tup (xs ++ ys)) (fun b ob q=>Heap.get?_push_of_some _ q) (Nat.le_refl _) ?_,rfl,q2 (fun w=>z (r2.nil_iff.mpr w)) _ (I.hok.fresh (Nat.le_refl _))⟩
 exact ⟨by rw [List.length_append];exact hz,_,r1.append r2,IsTup.new _ _⟩
end
end L2
namespace L2
open PySem PySem.Spec PyProof.Rows
def ixN (n : Nat) (i : Int) : Option Nat:=if 0 <= i then (if i < n then some i.toNat else none) else if -(n : Int) <= i then some (i + n).toNat else none
def atI {α : Type} (xs : List α) (i : Int) : Option α:=(ixN xs.length i).bind fun j=>xs[j]?
theorem ixN_seq {n : Nat} {i : Int} {j : Nat} (h : ixN n i = some j) : seqIndex? i n = some j/\j < n/\-(n : Int) <= i/\i < n:=by
 unfold ixN at h
 by_cases h0 : 0 <= i
 ·rw [if_pos h0] at h
  by_cases h1 : i < n
  ·rw [if_pos h1] at h
   have e : i.toNat = j:=Option.some.inj h
   exact ⟨by rw [seqIndex_of h0 h1,e],by omega,by omega,h1⟩
  ·rw [if_neg h1] at h;cases h
 ·rw [if_neg h0] at h
  by_cases h1 : -(n : Int) <= i
  ·rw [if_pos h1] at h
   have e : (i + n).toNat = j:=Option.some.inj h
   exact ⟨by rw [seqIndex_neg (by omega) h1,e],by omega,h1,by omega⟩
  ·rw [if_neg h1] at h;cases h
theorem atI_get {α : Type} {xs : List α} {i : Int} {v : α} (h : atI xs i = some v) : ∃ j,seqIndex? i xs.length = some j/\xs[j]? = some v/\j < xs.length/\-(xs.length : Int) <= i/\i < xs.length:=by
 unfold atI at h
 cases e : ixN xs.length i with
 | none=>rw [e] at h;cases h
 | some j =>
  rw [e] at h
  obtain ⟨h1,h2,h3,h4⟩:=ixN_seq e
  exact ⟨j,h1,h,h2,h3,h4⟩
theorem atI_nat {α : Type} {xs : List α} {j : Nat} {v : α} (h : xs[j]? = some v) : atI xs (j : Int) = some v:=by
 have hj : j < xs.length:=(List.getElem?_eq_some_iff.mp h).1
 have e : ixN xs.length (j : Int) = some j:=by
  unfold ixN
  rw [if_pos (by omega),if_pos (by omega)];simp
 unfold atI;rw [e];exact h
def PlainIx (b : Expr) : Prop := ∀ o i,subscripted b false o i = operate [o,i] (getItem o i)
def IxR (X : Cx) (r : R2) : Prop :=
 ∀ (value slice : Expr) (pins : List (Addr × Obj)) (s : Shared) (σ : St) (H : Hp) (x y : V) (v u : Value) (Q : VK),Inv X pins σ H s->RelV x v->RelV y u->r x y H Q ->
  subscripted slice false v u = operate [v,u] (getItem v u)->wpAny (model X.prog X.w) X.A (subscriptTail value slice v u) (EP X pins σ Q) X.xe s
def MtR (X : Cx) (id : String) (r : V->List V->Hp->VK->Prop) : Prop :=
 ∀ (pins : List (Addr × Obj)) (s : Shared) (σ : St) (H : Hp) (x : V) (xs : List V) (v : Value) (us : List Value) (Q : VK),Inv X pins σ H s->RelV x v->Vals xs us->r x xs H Q ->
  wpAny (model X.prog X.w) X.A (call (.builtin id) (v :: us)) (EP X pins σ Q) X.xe s
section
variable {X : Cx} {a b : Expr} {ta tb : TE} {pos : Pos}
theorem IxR.or {r r' : R2} (h : IxR X r) (h' : IxR X r') : IxR X (fun x y H Q=>r x y H Q\/r' x y H Q):=by
 intro value slice pins s σ H x y v u Q I rx ry q hs
 rcases q with q | q
 ·exact h value slice pins s σ H x y v u Q I rx ry q hs
 ·exact h' value slice pins s σ H x y v u Q I rx ry q hs
theorem MtR.or {id : String} {r r' : V->List V->Hp->VK->Prop} (h : MtR X id r) (h' : MtR X id r') : MtR X id (fun x xs H Q=>r x xs H Q\/r' x xs H Q):=by
 intro pins s σ H x xs v us Q I rx rs q
 rcases q with q | q
 ·exact h pins s σ H x xs v us Q I rx rs q
 ·exact h' pins s σ H x xs v us Q I rx rs q
theorem pe_ix {r : R2} (hr : IxR X r) (ha : PE X a ta) (hb : PE X b tb) (hs : PlainIx b) : PE X (.Subscript a b pos) (tOp r ta tb):=by
 intro pins s σ H Q I h
 exact Subscript_ (binT ha hb I h fun v u s2 x y H2 I2 rx ry q=>hr a b pins s2 σ H2 x y v u Q I2 rx ry q (hs _ _))
def rIxL (K : PySem.W.Frag) : R2:=fun x y H Q=>∃ p xs i v,x = .ref p/\y = .int i/\SqL K H p xs/\atI xs i = some v/\Q v H
def rIxT (K : PySem.W.Frag) : R2:=fun x y H Q=>∃ p xs i v,x = .ref p/\y = .int i/\SqT K H p xs/\atI xs i = some v/\Q v H
def rIxS : R2:=fun x y H Q=>∃ z i c,x = .str z/\y = .int i/\z.length <= sizeLine/\atI z.cps.toList i = some c/\Q (.str ⟨#[c]⟩) H
theorem ix_list : IxR X (rIxL X.K):=by
 intro value slice pins s σ H x y v u Q I rx ry h hs
 obtain ⟨p,xs,i,z,rfl,rfl,hq,he,q⟩:=h
 cases rx
 obtain ⟨t,rfl⟩:=ry
 obtain ⟨its,r,pl,hz⟩:=I.list hq
 obtain ⟨j,h1,h2,h3,h4,h5⟩:=atI_get he
 obtain ⟨w,ew,rw'⟩:=r.get h2
 have hl:=r.length
 have hn:=line63
 have fin : EP X pins σ Q w s:=⟨z,H,I,rw',q⟩
 by_cases h0 : 0 <= i
 ·have hj : i.toNat = j:=by
   rw [seqIndex_of h0 h5] at h1
   exact Option.some.inj h1
  exact item_listR pl.isList h0 (by omega) (by rw [hj];simpa using ew) fin hs
 ·have hj : (i + (its.toArray.size : Int)).toNat = j:=by
   rw [seqIndex_neg (by omega) h4] at h1
   rw [List.size_toArray,<- hl]
   exact Option.some.inj h1
  exact subscriptTail_builtinR (x:=w) pl.isList.typeIs slot_list_getitem.lookup
   (wpAny_getItem_list_neg (Q:=fun r s'=>r = w/\EP X pins σ Q r s') pl.isList (by omega) (by rw [List.size_toArray] <;> omega) (by omega) (by rw [hj];simpa using ew) ⟨rfl,fin⟩) hs
theorem ix_tup : IxR X (rIxT X.K):=by
 intro value slice pins s σ H x y v u Q I rx ry h hs
 obtain ⟨p,xs,i,z,rfl,rfl,hq,he,q⟩:=h
 cases rx
 obtain ⟨t,rfl⟩:=ry
 obtain ⟨its,r,pl,hz⟩:=I.tuple hq
 obtain ⟨j,h1,h2,h3,h4,h5⟩:=atI_get he
 obtain ⟨w,ew,rw'⟩:=r.get h2
 have hl:=r.length
 have hn:=line63
 have fin : EP X pins σ Q w s:=⟨z,H,I,rw',q⟩
 exact subscriptTail_builtinR (x:=w) pl.typeIs slot_tuple_getitem.lookup
  (getItem_tuple (j:=j) (Q:=fun r s'=>r = w/\EP X pins σ Q r s') pl (by omega) (by omega) (by rw [List.size_toArray,<- hl];exact h1) (by simpa using ew) ⟨rfl,fin⟩) hs
theorem ix_str : IxR X rIxS:=by
 intro value slice pins s σ H x y v u Q I rx ry h hs
 obtain ⟨z,i,c,rfl,rfl,hz,he,q⟩:=h
 obtain ⟨t,rfl⟩:=rx
 obtain ⟨t',rfl⟩:=ry
 obtain ⟨j,h1,h2,h3,h4,h5⟩:=atI_get he
 have hl : z.cps.toList.length = z.length:=by simp [Str.length]
 rw [hl] at h1 h4 h5
 have hn:=line63
 exact tail_any (typeIs_str s z t) slot_str_getitem.lookup (getItem_str (c:=c) (by
  have e1 : decide (i < -(2 ^ 63 : Int)) = false:=decide_eq_false (by omega)
  have e2 : decide (i ≥ 2 ^ 63) = false:=decide_eq_false (by omega)
  rw [e1,e2,Bool.or_false]) (by rw [h1];simpa using h2) ⟨.str ⟨#[c]⟩,H,I.tok _,⟨_,rfl⟩,q⟩) hs
theorem mapSeq_set (its : List Value) (n j : Nat) (u : Value) : Obj.mapSeq (·.setIfInBounds j u) { cls:=.type "list",data:=.seq its.toArray n } = { cls:=.type "list",data:=.seq (its.set j u).toArray n }:=by
 simp [Obj.mapSeq]
theorem Inv.lst {pins : List (Addr × Obj)} {σ : St} {H : Hp} {s : Shared} {p : Addr} {xs : List V} (I : Inv X pins σ H s) (h : H p = some (.lst xs)) :
  ∃ (its : List Value) (n : Nat),Vals xs its/\s.heap.get? p = some { cls:=.type "list",data:=.seq its.toArray n }/\xs.length <= sizeLine:=by
 obtain ⟨z,its,n,r,e⟩:=I.hok p _ h
 exact ⟨its,n,r,e,z⟩
theorem Inv.lstUpd {pins : List (Addr × Obj)} {σ : St} {H : Hp} {s : Shared} {p : Addr} {xs ys : List V} {its its' : List Value} {n n' : Nat} {f : Obj->Obj} (I : Inv X pins σ H s) (h : H p = some (.lst xs))
  (ho : s.heap.get? p = some { cls:=.type "list",data:=.seq its.toArray n }) (hf : f { cls:=.type "list",data:=.seq its.toArray n } = { cls:=.type "list",data:=.seq its'.toArray n' }) (r : Vals ys its') (hz : ys.length <= sizeLine) (t : Nat) :
  Inv X pins σ (upd H p (.lst ys)) { s with heap:=s.heap.update p f,toks:=t }:=by
 have e : (s.heap.update p f).get? p = some { cls:=.type "list",data:=.seq its'.toArray n' }:=by
  rw [Heap.get?_update_self f ho (by rw [hf] <;> rfl),hf]
 refine I.write (x:=p) (e:=p) (by rw [h];trivial) (.inl rfl) (fun b u hb q=>(Heap.get?_update_other _ _ (Ne.symm hb)).trans q) ⟨_,e⟩ ?_
 exact ⟨hz,its',n',r,e⟩
def rSetL : V->V->V->Hp->(Hp->Prop)->Prop:=fun o i v H Q=>∃ p xs k j,o = .ref p/\i = .int k/\H p = some (.lst xs)/\ixN xs.length k = some j/\Q (upd H p (.lst (xs.set j v)))
theorem set_list : PSet X rSetL:=by
 intro pins s σ H o i v ov iv u Q I ro ri rv h
 obtain ⟨p,xs,k,j,rfl,rfl,hp,hj,q⟩:=h
 cases ro
 obtain ⟨t,rfl⟩:=ri
 obtain ⟨its,n,r,ho,hz⟩:=I.lst hp
 obtain ⟨h1,h2,h3,h4⟩:=ixN_seq hj
 have hl:=r.length
 have hn:=line63
 have I' : Inv X pins σ (upd H p (.lst (xs.set j v))) { s with heap:=s.heap.update p (Obj.mapSeq (·.setIfInBounds j u)) } :=
  I.lstUpd hp ho (mapSeq_set its n j u) (r.set rv j) (by rw [List.length_set];exact hz) s.toks
 by_cases h0 : 0 <= k
 ·have hk : k.toNat = j:=by
   rw [seqIndex_of h0 h4] at h1
   exact Option.some.inj h1
  exact PySem.W.ki_setAt ho h0 (by omega) (by rw [List.size_toArray,<- hl];exact h4) (by rw [hk];exact ⟨_,I',q⟩)
 ·have hk : (k + (its.toArray.size : Int)).toNat = j:=by
   rw [seqIndex_neg (by omega) h3] at h1
   rw [List.size_toArray,<- hl]
   exact Option.some.inj h1
  exact PySem.W.ki_setBack ho (by omega) (by rw [List.size_toArray,<- hl];exact h3) (by omega) (by rw [hk];exact ⟨_,I',q⟩)
theorem slice_bounds (lo hi : Option Int) (n : Nat) : (sliceBounds lo hi none n).1 = ((HT.sIx n 0 lo : Nat) : Int)/\(sliceBounds lo hi none n).2.1 = ((HT.sIx n n hi : Nat) : Int)/\(sliceBounds lo hi none n).2.2 = 1:=by
 refine ⟨?_,?_,rfl⟩
 ·cases lo with
  | none=>simp [sliceBounds,HT.sIx]
  | some i =>
   simp only [sliceBounds,HT.sIx,Option.getD_none,show (1 : Int) > 0 by decide,if_true]
   by_cases h : i < 0
   ·simp only [h,if_true] <;> omega
   ·simp only [h,if_false] <;> omega
 ·cases hi with
  | none=>simp [sliceBounds,HT.sIx]
  | some i =>
   simp only [sliceBounds,HT.sIx,Option.getD_none,show (1 : Int) > 0 by decide,if_true]
   by_cases h : i < 0
   ·simp only [h,if_true] <;> omega
   ·simp only [h,if_false] <;> omega
theorem slicePick_cut (its : List Value) (lo hi : Option Int) : slicePick its.toArray lo hi none = ((its.drop (HT.sIx its.length 0 lo)).take (HT.sIx its.length its.length hi - HT.sIx its.length 0 lo)).toArray:=by
 obtain ⟨h1,h2,h3⟩:=slice_bounds lo hi its.toArray.size
 unfold slicePick
 rw [h1,h2,h3]
 simp only [sliceRange_one,pick_run,List.size_toArray] <;> rfl
def rSlL (K : PySem.W.Frag) : V->Option Int->Option Int->Hp->VK->Prop:=fun x lo hi H Q=>∃ a xs,x = .ref a/\SqL K H a xs/\∀ p,H p = none->Q (.ref p) (upd H p (.lst (cutV xs lo hi)))
theorem sl_list : SlR X (rSlL X.K):=by
 intro pins s σ H x v vl vu lo hi sl Q I rx hs pl pu h
 obtain ⟨a,xs,rfl,hx,q⟩:=h
 cases rx
 obtain ⟨its,r,ht,hz⟩:=I.list hx
 have hlen:=r.length
 refine ⟨"list",_,slot_list_getitem.lookup,ht.isList.typeIs,?_⟩
 refine wpAny_getItem_list_slice ht.isList hs pl pu .none (by simp) ?_ (by rw [List.size_toArray] <;> omega)
 rw [slicePick_cut,<- hlen]
 refine ⟨.ref s.heap.objs.size,_,I.laid (t':=s.toks) (o:=.lst (cutV xs lo hi)) (fun b ob q=>Heap.get?_push_of_some _ q) (Nat.le_refl _) ?_,rfl,q _ (I.hok.fresh (Nat.le_refl _))⟩
 exact ⟨Nat.le_trans (cutV_length xs lo hi) hz,_,0,(r.drop (HT.sIx xs.length 0 lo)).take (HT.sIx xs.length xs.length hi - HT.sIx xs.length 0 lo),Heap.get?_push_size _ rfl⟩
def flatV : V->Bool
 | .non=>true
 | .bl _=>true
 | .int _=>true
 | .str _=>true
 | _=>false
def eqV : V->V->Bool
 | .non,.non=>true
 | .bl a,.bl b=>a == b
 | .bl a,.int b=>(if a then 1 else 0) == b
 | .int a,.bl b=>a == (if b then 1 else 0)
 | .int a,.int b=>a == b
 | .str a,.str b=>a == b
 | _,_=>false
theorem eqAt_V {A : Around} {s : Shared} {y x : V} {u v : Value} (ry : RelV y u) (rx : RelV x v) (fy : flatV y = true) (fx : flatV x = true) : SeqAt.EqAt A s u v (eqV y x):=by
 cases y with
 | non =>
  cases ry
  cases x with
  | non=>cases rx;exact SeqAt.EqAt.same _
  | bl b=>cases rx;exact SeqAt.EqAt.none_bool b
  | int b=>obtain ⟨t,rfl⟩:=rx;exact SeqAt.EqAt.none_int b t
  | str b=>obtain ⟨t,rfl⟩:=rx;exact SeqAt.EqAt.none_str b t
  | _=>exact absurd (show false = true from fx) Bool.false_ne_true
 | bl a =>
  cases ry
  cases x with
  | non=>cases rx;exact SeqAt.EqAt.bool_none a
  | bl b=>cases rx;exact SeqAt.EqAt.bool_bool a b
  | int b=>obtain ⟨t,rfl⟩:=rx;exact SeqAt.EqAt.bool_int a b t
  | str b=>obtain ⟨t,rfl⟩:=rx;exact SeqAt.EqAt.bool_str a b t
  | _=>exact absurd (show false = true from fx) Bool.false_ne_true
 | int a =>
  obtain ⟨t',rfl⟩:=ry
  cases x with
  | non=>cases rx;exact SeqAt.EqAt.int_none a t'
  | bl b=>cases rx;exact SeqAt.EqAt.int_bool a t' b
  | int b=>obtain ⟨t,rfl⟩:=rx;exact SeqAt.EqAt.int_int a t' b t
  | str b=>obtain ⟨t,rfl⟩:=rx;exact SeqAt.EqAt.int_str a t' b t
  | _=>exact absurd (show false = true from fx) Bool.false_ne_true
 | str a =>
  obtain ⟨t',rfl⟩:=ry
  cases x with
  | non=>cases rx;exact SeqAt.EqAt.str_none a t'
  | bl b=>cases rx;exact SeqAt.EqAt.str_bool a t' b
  | int b=>obtain ⟨t,rfl⟩:=rx;exact SeqAt.EqAt.str_int a t' b t
  | str b=>obtain ⟨t,rfl⟩:=rx;exact SeqAt.EqAt.str_str a t' b t
  | _=>exact absurd (show false = true from fx) Bool.false_ne_true
 | _=>exact absurd (show false = true from fy) Bool.false_ne_true
def eqU (x : V) (u : Value) : Bool:=match u with
 | .none=>eqV .non x
 | .bool b=>eqV (.bl b) x
 | .int i _=>eqV (.int i) x
 | .str z _=>eqV (.str z) x
 | _=>false
theorem eqU_of {x y : V} {u : Value} (r : RelV y u) (f : flatV y = true) : eqU x u = eqV y x:=by
 cases y with
 | non=>cases r;rfl
 | bl b=>cases r;rfl
 | int i=>obtain ⟨t,rfl⟩:=r;rfl
 | str z=>obtain ⟨t,rfl⟩:=r;rfl
 | _=>exact absurd (show false = true from f) Bool.false_ne_true
theorem any_eqU {x : V} : ∀ {xs : List V} {us : List Value},Vals xs us->xs.all flatV = true->us.any (eqU x) = xs.any fun y=>eqV y x
 | _,_,.nil,_=>rfl
 | y :: xs,u :: us,.cons r t,f=>by
  rw [List.all_cons,Bool.and_eq_true] at f
  rw [List.any_cons,List.any_cons,eqU_of r f.1,any_eqU t f.2]
theorem mem_eqAt {A : Around} {s : Shared} {x : V} {v : Value} (rx : RelV x v) (fx : flatV x = true) : ∀ {xs : List V} {us : List Value},Vals xs us->xs.all flatV = true->∀ u ∈ us,SeqAt.EqAt A s u v (eqU x u)
 | _,_,.nil,_=>fun u hu=>by cases hu
 | y :: xs,u :: us,.cons r t,f=>fun u' hu=>by
  rw [List.all_cons,Bool.and_eq_true] at f
  rcases List.mem_cons.mp hu with rfl | hu
  ·rw [eqU_of r f.1];exact eqAt_V r rx f.1 fx
  ·exact mem_eqAt rx fx t f.2 u' hu
def inV (x : V) (xs : List V) : Bool:=xs.any fun y=>eqV y x
def rIn (K : PySem.W.Frag) (neg : Bool) : R2:=fun x y H Q=>∃ p xs,y = .ref p/\(SqL K H p xs\/SqT K H p xs)/\flatV x = true/\xs.all flatV = true/\Q (.bl (if neg then !inV x xs else inV x xs)) H
theorem op_in_seq : OpR X (compareOp .In) (rIn X.K false):=by
 intro pins s σ H x y v u Q I rx ry h
 obtain ⟨p,xs,rfl,hq,fx,fs,q⟩:=h
 cases ry
 rcases hq with hq | hq
 ·obtain ⟨its,r,pl,hz⟩:=I.list hq
  refine SeqAt.in_listAt (eqU x) pl.isList (fun w hw=>mem_eqAt rx fx r fs w (by simpa using hw)) ⟨.bl _,H,I,rfl,?_⟩
  rw [show its.toArray.any (eqU x) = its.any (eqU x) by simp,any_eqU r fs]
  exact q
 ·obtain ⟨its,r,pl,hz⟩:=I.tuple hq
  refine SeqAt.in_tupleAt (eqU x) pl (fun w hw=>mem_eqAt rx fx r fs w (by simpa using hw)) ⟨.bl _,H,I,rfl,?_⟩
  rw [show its.toArray.any (eqU x) = its.any (eqU x) by simp,any_eqU r fs]
  exact q
theorem op_notIn_seq : OpR X (compareOp .NotIn) (rIn X.K true):=by
 intro pins s σ H x y v u Q I rx ry h
 obtain ⟨p,xs,rfl,hq,fx,fs,q⟩:=h
 cases ry
 rcases hq with hq | hq
 ·obtain ⟨its,r,pl,hz⟩:=I.list hq
  refine SeqAt.notIn_listAt (eqU x) pl.isList (fun w hw=>mem_eqAt rx fx r fs w (by simpa using hw)) ⟨.bl _,H,I,rfl,?_⟩
  rw [show its.toArray.any (eqU x) = its.any (eqU x) by simp,any_eqU r fs]
  exact q
 ·obtain ⟨its,r,pl,hz⟩:=I.tuple hq
  refine SeqAt.notIn_tupleAt (eqU x) pl (fun w hw=>mem_eqAt rx fx r fs w (by simpa using hw)) ⟨.bl _,H,I,rfl,?_⟩
  rw [show its.toArray.any (eqU x) = its.any (eqU x) by simp,any_eqU r fs]
  exact q
theorem call_len_seq : CallR X (.builtin "len") (fun xs H Q=>∃ p ys,xs = [.ref p]/\(SqL X.K H p ys\/SqT X.K H p ys)/\Q (.int ys.length) H):=by
 intro pins s σ H xs us Q I r h
 obtain ⟨p,ys,rfl,hq,q⟩:=h
 obtain ⟨u,rfl,rx⟩:=vals1 r
 cases rx
 have hn:=line63
 rcases hq with hq | hq
 ·obtain ⟨its,r',pl,hz⟩:=I.list hq
  have hlen:=r'.length
  exact Calls.call_len_list pl.isList (by simp only [List.size_toArray] <;> omega) ⟨.int ys.length,H,I.tok _,⟨s.toks + 1,by rw [List.size_toArray,hlen]⟩,q⟩
 ·obtain ⟨its,r',pl,hz⟩:=I.tuple hq
  have hlen:=r'.length
  exact len_tuple pl (by simp only [List.size_toArray] <;> omega) ⟨.int ys.length,H,I.tok _,⟨s.toks + 1,by rw [List.size_toArray,hlen]⟩,q⟩
theorem call_len_str : CallR X (.builtin "len") (fun xs H Q=>∃ z,xs = [.str z]/\z.length <= sizeLine/\Q (.int z.length) H):=by
 intro pins s σ H xs us Q I r h
 obtain ⟨z,rfl,hz,q⟩:=h
 obtain ⟨u,rfl,t,rfl⟩:=vals1 r
 have hn:=line63
 exact len_str (by omega) ⟨.int z.length,H,I.tok _,⟨_,rfl⟩,q⟩
theorem CallR.or {f : Value} {r r' : List V->Hp->VK->Prop} (h : CallR X f r) (h' : CallR X f r') : CallR X f (fun xs H Q=>r xs H Q\/r' xs H Q):=by
 intro pins s σ H xs us Q I rs q
 rcases q with q | q
 ·exact h pins s σ H xs us Q I rs q
 ·exact h' pins s σ H xs us Q I rs q
theorem call_list_of : CallR X (.type "list") (fun xs H Q=>∃ p ys,xs = [.ref p]/\(SqL X.K H p ys\/SqT X.K H p ys)/\∀ l,H l = none->Q (.ref l) (upd H l (.lst ys))):=by
 intro pins s σ H xs us Q I r h
 obtain ⟨p,ys,rfl,hq,q⟩:=h
 obtain ⟨u,rfl,rx⟩:=vals1 r
 cases rx
 have fin : ∀ (its : List Value),Vals ys its->ys.length <= sizeLine->∀ (h' : Heap) (c' : Nat),(∀ b o',s.heap.get? b = some o'->h'.get? b = some o') ->
   h'.get? s.heap.objs.size = some { cls:=.type "list",dict:=none,data:=.seq its.toArray c',slots := #[] }->EP X pins σ Q (.ref s.heap.objs.size) { s with heap:=h' }:=fun its r' hz h' c' kp e =>
  ⟨.ref s.heap.objs.size,_,I.laid (t':=s.toks) kp (Nat.le_refl _) (show ObjOk X.prog X.w _ h' _ (.lst ys) from ⟨hz,its,c',r',e⟩),rfl,q _ (I.hok.fresh (Nat.le_refl _))⟩
 rcases hq with hq | hq
 ·obtain ⟨its,r',pl,hz⟩:=I.list hq
  have hlen:=r'.length
  obtain ⟨o,ho,hc,n,hd⟩:=pl.isList
  exact call_list_seq p (.inl rfl) ho hc hd (fun h' c' kp e=>fin its r' hz h' c' kp e) (by simp only [List.size_toArray] <;> omega)
 ·obtain ⟨its,r',pl,hz⟩:=I.tuple hq
  have hlen:=r'.length
  obtain ⟨o,ho,hc,n,hd⟩:=pl
  exact call_list_seq p (.inr rfl) ho hc hd (fun h' c' kp e=>fin its r' hz h' c' kp e) (by simp only [List.size_toArray] <;> omega)
theorem call_tuple_of : CallR X (.type "tuple") (fun xs H Q=>∃ p ys,xs = [.ref p]/\((SqL X.K H p ys/\∀ l,H l = none->Q (.ref l) (upd H l (.tup ys)))\/(SqT X.K H p ys/\Q (.ref p) H))):=by
 intro pins s σ H xs us Q I r h
 obtain ⟨p,ys,rfl,h⟩:=h
 obtain ⟨u,rfl,rx⟩:=vals1 r
 cases rx
 rcases h with ⟨hq,q⟩ | ⟨hq,q⟩
 ·obtain ⟨its,r',pl,hz⟩:=I.list hq
  have hlen:=r'.length
  refine call_tuple_list pl.isList (fun h' kp=>?_) (by simp only [List.size_toArray] <;> omega)
  have I1 : Inv X pins σ H { s with heap:=h' }:=I.kept (t':=s.toks) kp
  have I2 : Inv X pins σ (upd H h'.objs.size (.tup ys)) { s with heap:=h'.push { cls:=.type "tuple",data:=.seq its.toArray } } :=
   I1.laid (t':=s.toks) (fun b o e=>Heap.get?_push_of_some _ e) (Nat.le_refl _) (show ObjOk X.prog X.w _ _ _ (.tup ys) from ⟨hz,its,r',IsTup.new _ _⟩)
  exact ⟨.ref h'.objs.size,_,I2,rfl,q _ (I1.hok.fresh (Nat.le_refl _))⟩
 ·obtain ⟨its,r',pl,hz⟩:=I.tuple hq
  exact call_tuple_same pl ⟨.ref p,H,I,rfl,q⟩
def tyV (K : PySem.W.Frag) (T : String) (x : V) (H : Hp) : Prop:=match x with
 | .str _=>T = "str"
 | .int _=>T = "int"
 | .ref p=>(T = "list"/\∃ xs,SqL K H p xs)\/(T = "tuple"/\∃ o,K.lookup p = some o/\o.cls = .type "tuple"/\o.dict = none) \/
   (T = "dict"/\((∃ kvs,H p = some (.dK kvs))\/∃ kvs,H p = some (.dT kvs)))\/(T = "set"/\∃ S n,H p = some (.set S n))
 | _=>False
theorem tyV_is {pins : List (Addr × Obj)} {σ : St} {H : Hp} {s : Shared} {T : String} {x : V} {v : Value} (I : Inv X pins σ H s) (r : RelV x v) (ty : tyV X.K T x H) :
  s.TypeIs v T/\∀ a,v = .ref a->∃ ob,s.heap.get? a = some ob/\ob.dict = none:=by
 cases x with
 | str z =>
  obtain ⟨t,rfl⟩:=r
  cases (show T = "str" from ty)
  exact ⟨typeIs_str s z t,fun _ e=>nomatch e⟩
 | int i =>
  obtain ⟨t,rfl⟩:=r
  cases (show T = "int" from ty)
  exact ⟨typeIs_int s i t,fun _ e=>nomatch e⟩
 | ref p =>
  cases r
  rcases ty with ⟨rfl,xs,hq⟩ | ⟨rfl,o,hk,hc,hd⟩ | ⟨rfl,hk⟩ | ⟨rfl,S,n,hk⟩
  ·obtain ⟨its,_,pl,_⟩:=I.list hq
   refine ⟨pl.isList.typeIs,fun a e=>?_⟩
   cases e
   obtain ⟨o,n,e,c,hd,_⟩:=pl
   exact ⟨o,e,hd⟩
  ·refine ⟨⟨o,I.kIn p o hk,hc⟩,fun a e=>?_⟩
   cases e
   exact ⟨o,I.kIn _ o hk,hd⟩
  ·have z : ∃ o,s.heap.get? p = some o/\o.ExactDict:=by
    rcases hk with ⟨kvs,hk⟩ | ⟨kvs,hk⟩
    ·obtain ⟨_,_,_,_,o,_,_,e,ex,_⟩:=I.hok p _ hk
     exact ⟨o,e,ex⟩
    ·obtain ⟨_,_,_,_,o,_,_,e,ex,_⟩:=I.hok p _ hk
     exact ⟨o,e,ex⟩
   obtain ⟨o,e,ex⟩:=z
   refine ⟨⟨o,e,ex.1⟩,fun a e2=>?_⟩
   cases e2
   exact ⟨o,e,ex.2.1⟩
  ·obtain ⟨o,_,_,_,e,ex,_⟩:=I.hok p _ hk
   refine ⟨⟨o,e,ex.1⟩,fun a e2=>?_⟩
   cases e2
   exact ⟨o,e,ex.2.1⟩
 | _=>exact False.elim ty
def tBM (K : PySem.W.Frag) (T : String) (r : V->List V->Hp->VK->Prop) (to : TE) (t : TA) : TE:=fun σ H Q=>to σ H fun x H1=>tyV K T x H1/\t σ H1 fun xs H2=>r x xs H2 Q
variable {o e : Expr} {es : List Expr} {to : TE} {t : TA} {name : Str} {apos cpos : Pos} {T id : String} {r : V->List V->Hp->VK->Prop}
theorem pe_bm (pa : PlainAttrs T) (slot : Slot T name id) (hty : typeOf (.builtin id) = pure (.type "method_descriptor")) (hm : MtR X id r) (ho : PE X o to) (ha : PA X (e :: es) t)
  (hbase : attributeBase o name X.env (eval o X.env) = eval o X.env:=by rfl)
  (hfew : ((backTo cpos (starEach (e :: es) X.env)).all (fun x=>!x.1) && (backToKw cpos (keywordEach [] X.env)).all (fun x=>x.1.isSome)
   && decide ((e :: es).length + ([] : List Keyword).length + (if ([] : List Keyword).isEmpty then 0 else 1) < 30)) = true:=by rfl)
  (hline : (apos.endLine == cpos.line) = true:=by rfl) (hs : starEach (e :: es) X.env = (false,eval e X.env) :: starEach es X.env:=by rfl) (hplain : (backTo cpos (starEach es X.env)).any (·.1) = false:=by rfl) :
  PE X (.Call (.Attribute o name apos) (e :: es) [] cpos) (tBM X.K T r to t):=by
 intro pins s σ H Q I h
 refine wpAny_Call_method_late hbase hfew hline rfl (thn (ho pins s σ H _ I h) fun v s1 ⟨x,H1,I1,r1,ty,q1⟩=>?_)
 obtain ⟨h1,h2⟩:=tyV_is I1 r1 ty
 refine ⟨T,id,pa,slot,hty,h1,h2,?_⟩
 have hA:=ha cpos pins s1 σ H1 _ I1 q1
 rw [hs] at hA ⊢
 refine Calls.callWith_builtin (by show (false || (backTo cpos (starEach es X.env)).any (·.1)) = false;rw [hplain] <;> rfl) (Calls.evalArgs_plain ?_)
 exact thn hA fun us s2 ⟨vs,H2,I2,r2,q2⟩=>hm pins s2 σ H2 x vs v us Q I2 r1 r2 q2
end
end L2
namespace L2
open PySem PySem.Spec PyProof.Rows
def MtM (X : Cx) (id : String) (r : V->List V->Hp->VK->Prop) : Prop :=
 ∀ (pins : List (Addr × Obj)) (s : Shared) (σ : St) (H : Hp) (x : V) (xs : List V) (v : Value) (us : List Value) (Q : VK),Inv X pins σ H s->RelV x v->Vals xs us->r x xs H Q ->
  wpAny (model X.prog X.w) X.A (call (.builtin id) (v :: us)) (EP X pins σ Q) X.xe s
theorem Vals.one : ∀ {x : V} {us : List Value},Vals [x] us->∃ u,us = [u]/\RelV x u
 | _,_,.cons r .nil=>⟨_,rfl,r⟩
theorem Vals.two : ∀ {x y : V} {us : List Value},Vals [x,y] us->∃ u v,us = [u,v]/\RelV x u/\RelV y v
 | _,_,_,.cons r (.cons q .nil)=>⟨_,_,rfl,r,q⟩
theorem Vals.zero : ∀ {us : List Value},Vals [] us->us = []
 | _,.nil=>rfl
theorem Vals.dropLast {xs : List V} {us : List Value} (h : Vals xs us) : Vals xs.dropLast us.dropLast:=by
 induction h with
 | nil=>exact .nil
 | cons r t ih =>
  cases t with
  | nil=>exact .nil
  | cons q t'=>exact .cons r ih
theorem Vals.reverse {xs : List V} {us : List Value} (h : Vals xs us) : Vals xs.reverse us.reverse:=by
 induction h with
 | nil=>exact .nil
 | cons r t ih=>rw [List.reverse_cons,List.reverse_cons];exact Vals.append ih (.cons r .nil)
section
variable {X : Cx} {pins : List (Addr × Obj)} {σ : St} {H : Hp} {s : Shared} {l b : Addr} {xs ys zs : List V}
theorem Inv.lset {its its' : List Value} {n : Nat} {f : Array Value->Array Value} {t' : Nat} (I : Inv X pins σ H s) (hH : H l = some (.lst xs))
  (e : s.heap.get? l = some { cls:=.type "list",data:=.seq its.toArray n }) (hf : f its.toArray = its'.toArray) (hv : Vals ys its') (hz : ys.length <= sizeLine) :
  Inv X pins σ (upd H l (.lst ys)) { s with heap:=s.heap.update l (Obj.mapSeq f),toks:=t' }:=by
 have q:=PySem.IsL.update e f
 rw [hf] at q
 refine I.write (x:=l) (e:=l) (by rw [hH];exact trivial) (.inl rfl) (fun b' u hb hu=>(Heap.get?_update_other s.heap (Obj.mapSeq f) (Ne.symm hb)).trans hu) ⟨_,q⟩ ?_
 exact ⟨hz,its',_,hv,q⟩
theorem Inv.lnew {its : List Value} {t' : Nat} (I : Inv X pins σ H s) (hv : Vals ys its) (hz : ys.length <= sizeLine) :
  Inv X pins σ (upd H s.heap.objs.size (.lst ys)) { s with heap:=s.heap.push { cls:=.type "list",data:=.seq its.toArray },toks:=t' } :=
 I.laid (fun _ _ q=>Heap.get?_push_of_some _ q) (Nat.le_refl _) ⟨hz,its,0,hv,Heap.get?_push_size _ rfl⟩
theorem Inv.fresh (I : Inv X pins σ H s) : H s.heap.objs.size = none:=I.hok.fresh (Nat.le_refl _)
theorem Inv.lstM (I : Inv X pins σ H s) (hH : H l = some (.lst xs)) : xs.length <= sizeLine/\∃ (its : List Value) (n : Nat),Vals xs its/\xs.length = its.length/\s.heap.get? l = some { cls:=.type "list",data:=.seq its.toArray n }:=by
 obtain ⟨z,its,n,r,e⟩:=I.hok l _ hH
 exact ⟨z,its,n,r,r.length,e⟩
end
section
variable {X : Cx}
def rAppend : V->List V->Hp->VK->Prop:=fun x vs H Q=>∃ l xs y,x = .ref l/\vs = [y]/\H l = some (.lst xs)/\xs.length < sizeLine/\Q .non (upd H l (.lst (xs ++ [y])))
theorem mt_append : MtM X "list.append" rAppend:=by
 intro pins s σ H x vs v us Q I rx rv h
 obtain ⟨l,xs,y,rfl,rfl,hH,hz,q⟩:=h
 cases rx
 obtain ⟨u,rfl,ru⟩:=rv.one
 obtain ⟨z,its,n,r,hl,e⟩:=I.lstM hH
 refine call_meets F.slot_list_append ⟨_,e,rfl⟩ F.entry_list_append (F.args_list_append_2 _ _) (PySem.list_append l its.toArray n u (by rw [List.size_toArray];omega)) ⟨e,?_⟩
 refine ⟨.non,_,I.lset (its':=its ++ [u]) hH e (by simp) (r.append (.cons ru .nil)) ?_,rfl,q⟩
 rw [List.length_append,List.length_singleton]
 omega
def rCat : R2:=fun x y H Q=>∃ l b xs zs,x = .ref l/\y = .ref b/\H l = some (.lst xs)/\H b = some (.lst zs)/\xs.length + zs.length <= sizeLine/\∀ p,H p = none->Q (.ref p) (upd H p (.lst (xs ++ zs)))
theorem op_cat : OpR X (binaryOp .Add) rCat:=by
 intro pins s σ H x y v u Q I rx ry h
 obtain ⟨l,b,xs,zs,rfl,rfl,hH,hB,hz,q⟩:=h
 cases rx
 cases ry
 obtain ⟨z,its,n,r,hl,e⟩:=I.lstM hH
 obtain ⟨z2,its2,n2,r2,hl2,e2⟩:=I.lstM hB
 refine PySem.P.add_list e e2 ?_ (by rw [List.size_toArray,List.size_toArray];omega)
 have ea : its.toArray ++ its2.toArray = (its ++ its2).toArray:=by simp
 rw [ea]
 exact ⟨.ref _,_,I.lnew (t':=s.toks) (r.append r2) (by rw [List.length_append];omega),rfl,q _ I.fresh⟩
end
section
variable {prog : Program} {w : World} {A : Around} {E : Value->Shared->Prop} {s : Shared}
end
section
variable {X : Cx}
end
end L2
namespace Att
open PySem PySem.W PySem.Calls PyProof.Rows
theorem ints_of_wellAll {P : Params} {h : Heap} : ∀ (ns : List Int) (vs : List Value),WellAll P h vs (ns.map WData.int)->IntsAre vs ns:=by
 intro ns
 induction ns with
 | nil =>
  intro vs w
  rw [List.map_nil] at w
  cases w
  exact .nil
 | cons n ns ih =>
  intro vs w
  rw [List.map_cons] at w
  cases w with
  | cons a b =>
   cases a
   exact .cons _ _ (ih _ b)
theorem script_of {l : OpenLaw} {n : Nat} (hn : l.most = some n) {P : Params} {h : Heap} {args : List WData} {vals : List Value}
  (hpre : l.row.toRowW.claim.pre args = true) (hwl : WellAll P h vals args) :
  ∃ a vs ns,vals = [Value.ref a]/\args = [WData.list (ns.map WData.int)]/\h.get? a = some { cls:=.type "list",data:=.seq vs.toArray }/\IntsAre vs ns/\ns.length <= n:=by
 have hsh : WShape.hasAll [] args [.list .int] = true:=(pre_splitW hpre).1
 have hc : l.pre.holds [] { args:=args } = true:=(pre_splitW hpre).2
 obtain ⟨d,r,rfl,h1,h2⟩:=hasAllW_cons hsh
 obtain rfl:=hasAllW_nil h2
 obtain ⟨xs,rfl,h3⟩:=hasW_list h1
 obtain ⟨ns,rfl⟩:=items_int h3
 have hlen : ns.length <= n:=by
  unfold OpenLaw.pre at hc
  have h4 : (WTm.not (.lt (.lit (.int (n : Int))) (.len (.arg 0)))).holds [] { args:=[.list (ns.map .int)] } = true:=by
   have h4:=(holds_andW hc).1
   rw [hn] at h4
   exact h4
  have h5:=condW_of h4 (w_not (w_lt w_lit (w_len_list (w_arg rfl))))
  rw [List.length_map] at h5
  refine Nat.le_of_not_lt fun q=>?_
  have q' : (n : Int) < ((ns.length : Nat) : Int):=by omega
  first
   | (rw [decide_eq_true q'] at h5;exact absurd h5 (by decide))
   | (simp at h5;omega)
 cases hwl with
 | cons w1 w2 =>
  cases w2
  cases w1 with
  | list ho hall=>exact ⟨_,_,ns,rfl,rfl,ho,ints_of_wellAll ns _ hall,hlen⟩
theorem post_true (l : OpenLaw) (args : List WData) : l.row.toRowW.claim.post args (.bool true) args = true :=
 postW_of (r:=l.row.toRowW) (X:=(true == true))
  (show WShape.has [] (.bool true) .bool = true by first | rfl | decide | simp [WShape.has,WShape.arms,WShape.armsAll])
  (show (WTm.eq .res (.lit (.bool true))).value [] { args:=args,res:=some (.bool true),after:=args } = some (.bool (true == true)) from w_eq_bool (w_res rfl) w_lit) rfl
theorem attach_call {l : OpenLaw} {n : Nat} {q : Program} {loose : List Str} {XP : (Str->Option Value)->Heap->Prop} {YP : World->Heap->Prop} {d : DefRec}
  (hn : l.most = some n) (hdf : d.params.defaults = [])
  (call : ∀ (w : World) (s₀ s₁ : Shared) (mg mb : Str->Option Value) (fa : Addr) (o : Obj) (pm cd doc : Value) (a : Addr) (vs : List Value) (ns : List Int),
   Ground q loose [] XP w s₀ mg mb s₁.heap->YP w s₁.heap ->
   s₁.heap.get? fa = some o->o.data = .func (docDef d.name d.params d.body d.scope pm cd doc)->s₁.heap.CodeRec cd d.name->mg d.name = some (.ref fa) ->
   s₁.heap.get? a = some { cls:=.type "list",data:=.seq vs.toArray }->IntsAre vs ns->ns.length <= n->s₁.gens = #[] ->
   codeAny (model l.prog w) callerA (.call (.ref fa) ⟨[.ref a],[]⟩) (fun r s'=>r = .ok (.ret (.bool true))/\OldK s₁.heap s'.heap/\s'.os = s₁.os/\AllBare s'.gens) s₁) :
  WalkO q loose XP YP l.row.toRowW d [] (fun f vs=>PySem.call f vs):=by
 intro w s₀ s₁ mg mb G Y fa o pm cd doc dV kV ho hd hcd hD hmg hg args vals as hpre hlay hrd hwl hlo
 obtain rfl : dV = .none:=Dflts.none hD hdf
 obtain rfl : kV = .none:=Dflts.noKw hD
 obtain ⟨a,vs,ns,rfl,rfl,hobj,hints,hlen⟩:=script_of hn hpre hwl
 refine enter_call (codeAny_mono (call w s₀ s₁ mg mb fa o pm cd doc a vs ns G Y ho (fd_plain hd) hcd hmg hobj hints hlen hg) fun r s' hq=>?_)
 obtain ⟨rfl,h2,h3,h4⟩:=hq
 exact ⟨.inl ⟨.bool true,.bool true,[],rfl,fun _=>rfl,.bool true,post_true l _,fun _=>⟨List.Pairwise.nil,fun _ hm=>(nomatch hm)⟩⟩,h2,h3,h4⟩
section
variable {prog : Program} {w : World} {A : Around} {E : Value->Shared->Prop} {s : Shared} {K : Frag}
end
end Att
namespace L2
open PySem PySem.Spec PyProof.Rows
theorem vals_ints : ∀ {vs : List Value} {ns : List Int},IntsAre vs ns->Vals (ns.map V.int) vs
 | _,_,.nil=>.nil
 | _,_,.cons n t h=>.cons ⟨t,rfl⟩ (vals_ints h)
end L2
namespace L2
open PySem PySem.Spec PyProof.Rows
end L2
namespace L2
open PySem PySem.Spec PyProof.Rows
def defArgs (s : Stmt) : Arguments:=match s with
 | .FunctionDef _ a _ _ _ _ _ _ _ _=>a
 | _=>{ posonlyargs:=[],args:=[],vararg:=none,kwonlyargs:=[],kw_defaults:=[],kwarg:=none,defaults:=[] }
def defBody (s : Stmt) : List Stmt:=match s with
 | .FunctionDef _ _ b _ _ _ _ _ _ _=>b
 | _=>[]
def defScope (s : Stmt) : Scope:=match s with
 | .FunctionDef _ _ _ _ _ _ sc _ _ _=>sc
 | _=>{ kind:=.function,names:=[],isGenerator:=false,isCoroutine:=false }
abbrev CX0 : CXT:=fun _ _ _ _ _ _=>False
abbrev E0 : XK:=fun _ _ _=>False
theorem pass0 {X : Cx} : Passes CX0 X E0:=fun _ _ _ _ _ _ _ h=>h.elim
structure Fun (K : PySem.W.Frag) (x qual : Str) (st : Stmt) (f : Addr) (fd : FuncData) : Prop where
 ex : ∃ (oc : Value) (od : Option Addr) (kV doc pm : Value) (an : Option Addr) (cdv ct : Value) (osl : Array (Option Value)),
  fd = PySem.W.fnOf x qual (defArgs st) (defBody st) (defScope st) .none kV doc pm an cdv ct/\K.lookup f = some ⟨oc,od,.func fd,osl⟩/\PySem.W.codeIn K cdv qual = true
 kp : PySem.W.keepIn K (.ref f) = true
section
variable {P : Program} {w : World} {K : PySem.W.Frag} {mg : Str->Option Value} {base : Heap}
theorem Fun.ok {x qual : Str} {st : Stmt} {f : Addr} {fd : FuncData} {N ps : List Str} {k : Nat} {sp : Sp} (F : Fun K x qual st f fd) (S : FnScope N ps (defScope st)) (len : ∀ vs H Q E,sp vs H Q E->vs.length = ps.length)
  (hbody : ∀ (cdv : Value) (A : Around) (outer : List Env) (s : Shared) (H : Hp) (vs : List V) (Q : VK) (E : XK),Room k (A.deeper (envOfC qual (defScope st) s.heap.objs.size f cdv))->sp vs H Q E ->
   ∃ t,PSs (cxOf CX0 P w K mg base N qual (defScope st) f cdv A outer s H E).nox (defBody st) t/\t { nx:=fun _ H'=>Q .non H',rt:=Q } (start N vs) H) : FnOk P w K mg base CX0 (k + 1) f fd ps sp:=by
 obtain ⟨oc,od,kV,doc,pm,an,cdv,ct,osl,rfl,lk,hcd⟩:=F.ex
 refine fn_of lk hcd S len fun A outer s H vs Q E hr hsp=>?_
 obtain ⟨t,h,q⟩:=hbody cdv A outer s H vs Q E hr hsp
 exact ⟨t,h.nox,q⟩
theorem Fun.binds {x qual : Str} {st : Stmt} {f : Addr} {fd : FuncData} {ps : List Str} (F : Fun K x qual st f fd)
  (h : ∀ (kV doc pm : Value) (an : Option Addr) (cdv ct : Value) (us : List Value),us.length = ps.length->bindArgs (PySem.W.fnOf x qual (defArgs st) (defBody st) (defScope st) .none kV doc pm an cdv ct) ⟨us,[]⟩ = pure (ps.zip us)) : Binds K fd ps []:=by
 obtain ⟨oc,od,kV,doc,pm,an,cdv,ct,osl,rfl,lk,hcd⟩:=F.ex
 exact .all (h kV doc pm an cdv ct)
theorem fun_mk {x qual : Str} {st : Stmt} {f : Addr} {oc : Value} {od an : Option Addr} {osl : Array (Option Value)} {kV doc pm cdv ct : Value} (l : K.lookup f = some ⟨oc,od,.func (PySem.W.fnOf x qual (defArgs st) (defBody st) (defScope st) .none kV doc pm an cdv ct),osl⟩)
  (c : PySem.W.codeIn K cdv qual = true) (k : PySem.W.keepIn K (.ref f) = true) : Fun K x qual st f (PySem.W.fnOf x qual (defArgs st) (defBody st) (defScope st) .none kV doc pm an cdv ct):=⟨⟨oc,od,kV,doc,pm,an,cdv,ct,osl,rfl,l,c⟩,k⟩
end
theorem small1000 {n : Nat} (h : n <= 1000) : n < sizeLine:=Nat.lt_of_le_of_lt h (by decide)
section
variable {X : Cx}
theorem pv (i : Nat) {x : Str} {pos : Pos} (hN : X.N[i]? = some x:=by rfl) (hv : Vis X.env.scope x:=by first | exact Or.inl rfl | exact Or.inr (Or.inl rfl) | exact Or.inr (Or.inr rfl)) (hd : (x == ("__debug__" : Str)) = false:=by decide)
  (hcd : (x == ("__classdict__" : Str)) = false:=by decide) : PE X (.Name x pos) (tVar i):=pe_var hN hv hd hcd
end
theorem iteF {A B : Prop} (h : B) : if false = true then A else B:=by
 rw [if_neg Bool.false_ne_true]
 exact h
theorem iteT {A B : Prop} (h : A) : if true = true then A else B:=by
 rw [if_pos rfl]
 exact h
theorem ite2 {c A B : Prop} [Decidable c] (h1 : c->A) (h2 : ¬ c->B) : if c then A else B:=by
 by_cases h : c
 ·rw [if_pos h]
  exact h1 h
 ·rw [if_neg h]
  exact h2 h
def Same (H H' : Hp) : Prop := ∀ b o,H b = some o->H' b = some o
theorem Same.refl (H : Hp) : Same H H:=fun _ _ h=>h
theorem Same.trans {H H1 H2 : Hp} (a : Same H H1) (b : Same H1 H2) : Same H H2:=fun c o h=>b c o (a c o h)
theorem Same.free {H H' : Hp} (e : Same H H') {l : Addr} (h : H' l = Option.none) : H l = Option.none:=by
 cases q : H l with
 | none=>rfl
 | some o =>
  rw [e l o q] at h
  cases h
theorem Same.seq {K : PySem.W.Frag} {H H' : Hp} {a : Addr} {xs : List V} (e : Same H H') (h : SqL K H a xs) : SqL K H' a xs:=by
 rcases h with (h | ⟨o,h⟩) | h
 ·exact .inl (.inl (e _ _ h))
 ·exact .inl (.inr ⟨o,e _ _ h⟩)
 ·exact .inr h
end L2
end

section
set_option Elab.async false
set_option linter.all false
set_option maxRecDepth 100000
namespace L2
open PySem PySem.Spec PyProof.Rows
theorem forIn_yield_fold {α β : Type} {f : α->β->Sem (ForInStep β)} (g : β->α->β) : ∀ {l : List α} (c : β),(∀ x ∈ l,∀ c,f x c = pure (.yield (g c x)))->forIn l c f = pure (l.foldl g c)
 | [],_,_=>rfl
 | x :: l,c,h=>by
  rw [List.forIn_cons,h x List.mem_cons_self,pure_bind]
  exact forIn_yield_fold g (g c x) fun y hy=>h y (List.mem_cons_of_mem _ hy)
def clOf (env : Env) (names : List (Str × NameKind)) : List (Str × Addr) :=
 names.foldl (fun cs y=>if y.2 == .free then (y.1,(env.cells.lookup y.1).getD 0) :: cs else cs) []
theorem closure_of {scope : Scope} {env : Env} (h : ∀ y ∈ scope.names,y.2 = .free->∃ c,env.cells.lookup y.1 = some c) : closureFor scope env = pure (clOf env scope.names):=by
 simp only [closureFor]
 rw [forIn_yield_fold (fun cs y=>if y.2 == .free then (y.1,(env.cells.lookup y.1).getD 0) :: cs else cs) [] (fun x hx c=>by
  obtain ⟨n,kind⟩:=x
  cases e : (kind == NameKind.free) with
  | false=>simp only [e,Bool.false_eq_true,if_false]
  | true =>
   obtain ⟨a,ha⟩:=h (n,kind) hx (by simpa using e)
   have ha' : env.cells.lookup n = some a:=ha
   simp only [e,if_true,cellOf,ha',Option.getD_some]
   rfl)]
 rfl
theorem clOf_inv {env : Env} (P : List (Str × Addr)->Prop) : ∀ (names : List (Str × NameKind)) (cs : List (Str × Addr)),P cs->(∀ y ∈ names,∀ cs,P cs->P (if y.2 == .free then (y.1,(env.cells.lookup y.1).getD 0) :: cs else cs)) ->
  P (names.foldl (fun cs y=>if y.2 == .free then (y.1,(env.cells.lookup y.1).getD 0) :: cs else cs) cs)
 | [],_,h,_=>h
 | y :: r,cs,h,k=>by
  rw [List.foldl_cons]
  exact clOf_inv P r _ (k y List.mem_cons_self cs h) fun z hz=>k z (List.mem_cons_of_mem _ hz)
theorem clOf_sub {env : Env} {names : List (Str × NameKind)} (h : ∀ y ∈ names,y.2 = .free->∃ c,env.cells.lookup y.1 = some c) {n : Str} {c : Addr} (e : (clOf env names).lookup n = some c) : env.cells.lookup n = some c:=by
 have q : ∀ n c,(clOf env names).lookup n = some c->env.cells.lookup n = some c:=clOf_inv (fun cs=>∀ n c,cs.lookup n = some c->env.cells.lookup n = some c) names [] (fun _ _ z=>by simp at z) fun y hy cs ih n c z=>by
  cases e : (y.2 == NameKind.free) with
  | false=>rw [e] at z;exact ih n c z
  | true =>
   rw [e,if_pos rfl] at z
   obtain ⟨a,ha⟩:=h y hy (by simpa using e)
   rw [ha,Option.getD_some] at z
   rw [List.lookup_cons] at z
   cases e2 : (n == y.1) with
   | false=>rw [e2] at z;exact ih n c z
   | true =>
    rw [e2] at z
    have e3 : n = y.1:=by simpa using e2
    rw [e3,ha]
    exact z
 exact q n c e
theorem clOf_has {env : Env} {names : List (Str × NameKind)} {n : Str} (h : (n,NameKind.free) ∈ names) : ∃ c,(clOf env names).lookup n = some c:=by
 have gen : ∀ (names : List (Str × NameKind)) (cs : List (Str × Addr)),((n,NameKind.free) ∈ names\/∃ c,cs.lookup n = some c)->∃ c,(names.foldl (fun cs y=>if y.2 == .free then (y.1,(env.cells.lookup y.1).getD 0) :: cs else cs) cs).lookup n = some c:=by
  intro names
  induction names with
  | nil=>intro cs z;exact z.elim (fun z=>by simp at z) id
  | cons y r ih =>
   intro cs z
   rw [List.foldl_cons]
   refine ih _ ?_
   rcases z with z | ⟨c,z⟩
   ·rcases List.mem_cons.mp z with z | z
    ·subst z
     exact .inr ⟨(env.cells.lookup n).getD 0,by simp⟩
    ·exact .inl z
   ·refine .inr ?_
    split
    ·rw [List.lookup_cons]
     cases n == y.1 with
     | false=>exact ⟨c,z⟩
     | true=>exact ⟨_,rfl⟩
    ·exact ⟨c,z⟩
 exact gen names [] (.inl h)
theorem lookup_relabel {env : Env} {x : Str} : ∀ {names : List (Str × NameKind)},
  (names.map fun (n,k)=>if (k == NameKind.free && env.scope.kind == .function && env.kindOf n == some .cell) then (n,NameKind.cell) else (n,k)).lookup x =
   (names.lookup x).map fun k=>if (k == NameKind.free && env.scope.kind == .function && env.kindOf x == some .cell) then NameKind.cell else k
 | []=>rfl
 | (n,k) :: r=>by
  have ih := @lookup_relabel env x r
  show List.lookup x ((if (k == NameKind.free && env.scope.kind == .function && env.kindOf n == some .cell) = true then (n,NameKind.cell) else (n,k)) :: _) = _
  cases hx : x == n with
  | true =>
   have e : x = n:=by simpa using hx
   subst e
   by_cases hc : (k == NameKind.free && env.scope.kind == .function && env.kindOf x == some .cell) = true
   ·rw [if_pos hc];simp only [List.lookup_cons,beq_self_eq_true,Option.map_some];rw [if_pos hc]
   ·rw [if_neg hc];simp only [List.lookup_cons,beq_self_eq_true,Option.map_some];rw [if_neg hc]
  | false =>
   by_cases hc : (k == NameKind.free && env.scope.kind == .function && env.kindOf n == some .cell) = true
   ·rw [if_pos hc];simp only [List.lookup_cons,hx];exact ih
   ·rw [if_neg hc];simp only [List.lookup_cons,hx];exact ih
structure CompScope (env : Env) (scope : Scope) : Prop where
 kind : scope.kind = .function
 cell : ∀ y ∈ scope.names,y.2 ≠ .cell
 loc : ∀ y ∈ scope.names,y.2 = .local->scope.names.lookup y.1 = some .local
 free : ∀ y ∈ scope.names,y.2 = .free->env.scope.names.lookup y.1 = some .cell\/env.scope.names.lookup y.1 = some .free
abbrev compCx (X : Cx) (scope : Scope) (Nc : List Str) (C : Addr) (s₂ : Shared) (H₂ : Hp) (ex : List Addr) : Cx where
 prog:=X.prog
 w:=X.w
 K:=X.K
 mg:=X.mg
 base:=X.base
 A:=X.A
 N:=Nc
 s₀:=s₂
 H₀:=H₂
 env:=compEnvC scope (clOf X.env scope.names) C X.env
 outer:=X.stack
 stack:=X.stack
 ex:=ex
 fn:=fun _=>false
 calm:=true
 pn:=[]
 xe:=fun _ _=>False
section
variable {X : Cx}
def compSt (k : Nat) (js : List Nat) (σ : St) : St:=List.replicate k none ++ js.map fun j=>(σ[j]?).getD none
theorem comp_get {k : Nat} {js : List Nat} {σ : St} {i : Nat} {v : V} (h : (compSt k js σ)[i]? = some (some v)) : ∃ t j,i = k + t/\js[t]? = some j/\σ[j]? = some (some v):=by
 unfold compSt at h
 by_cases hi : i < k
 ·rw [List.getElem?_append_left (by simpa using hi),List.getElem?_replicate,if_pos hi] at h
  cases h
 ·rw [List.getElem?_append_right (by simpa using hi),List.length_replicate,List.getElem?_map] at h
  cases e : js[i - k]? with
  | none=>rw [e] at h;cases h
  | some j =>
   rw [e] at h
   have h' : (σ[j]?).getD none = some v:=Option.some.inj h
   refine ⟨i - k,j,by omega,e,?_⟩
   cases e2 : σ[j]? with
   | none=>rw [e2] at h';cases h'
   | some o=>rw [e2] at h';exact congrArg some h'
theorem compSt_len {k : Nat} {js : List Nat} {σ : St} : (compSt k js σ).length = k + js.length:=by
 unfold compSt
 rw [List.length_append,List.length_replicate,List.length_map]
theorem inv_comp {pins : List (Addr × Obj)} {σ : St} {H : Hp} {s s4 : Shared} {scope : Scope} {Nc : List Str} {k : Nat} {js : List Nat} {C : Addr} {fp : List Addr} (I : Inv X pins σ H s) (hc : X.calm = true) (S : CompScope X.env scope)
  (hjs : (Nc.drop k).map some = js.map (X.N[·]?)) (hfr : ∀ x ∈ Nc.drop k,scope.names.lookup x = some .free) (hk : k <= Nc.length)
  (hfp : ∀ b ∈ fp,FpOk X pins H b) (hlt : ∀ b ∈ fp,b < s.heap.objs.size) (hC : s.heap.objs.size <= C) (hn : s4.heap.Ns C fun _=>none) (hkeep : ∀ b o,s.heap.get? b = some o->s4.heap.get? b = some o)
  (ho : s4.os = s.os) (hg : s4.gens = s.gens) : Inv (compCx X scope Nc C s H fp) [] (compSt k js σ) H s4:=by
 have fr : ∀ y ∈ scope.names,y.2 = .free->∃ c,X.env.cells.lookup y.1 = some c:=fun y hy e=>I.ok.has y.1 (S.free y hy e)
 have kinds : ∀ x,(relabel scope X.env).names.lookup x = some .cell\/(relabel scope X.env).names.lookup x = some .free->(x,NameKind.free) ∈ scope.names:=fun x hx=>by
  have q : (relabel scope X.env).names.lookup x = (scope.names.lookup x).map fun k=>if (k == NameKind.free && X.env.scope.kind == .function && X.env.kindOf x == some .cell) then NameKind.cell else k:=lookup_relabel
  cases e : scope.names.lookup x with
  | none=>rw [q,e] at hx;rcases hx with z | z <;> cases z
  | some kd =>
   have mem:=PySem.mem_of_lookup e
   cases kd with
   | free=>exact mem
   | cell=>exact absurd rfl (S.cell _ mem)
   | _=>rw [q,e] at hx;rcases hx with z | z <;> cases z
 have lenJ : js.length = Nc.length - k:=by
  have:=congrArg List.length hjs
  simpa using this.symm
 refine ⟨⟨I.ok.mod,S.kind,I.ok.glob,I.ok.blt,hC,fun x y c h1 h2=>I.ok.inj x y c (clOf_sub fr h1) (clOf_sub fr h2),fun x hx=>clOf_has (kinds x hx),fun x c z=>(by cases z),fun _=>I.ok.hd hc,I.ok.frames,.inl rfl,fun b hb=>⟨?_,fun x c e=>?_⟩,I.bs,Nat.le_trans I.ok.bsz I.sz,fun b o e hb=>?_,fun b hb z=>?_,I.stack,I.stkFree⟩,
  ho,?_,Un.kept hkeep,⟨_,hn,fun i x v e1 e2 e3=>?_⟩,fun x c e=>?_,I.hok.fresh hC,fun x c e=>I.freeC x c (clOf_sub fr e),fun p hp=>absurd (show p ∈ ([] : List (Addr × Obj)) from hp) (by simp),I.hok.kept hkeep,?_⟩
 ·exact Nat.ne_of_lt (Nat.lt_of_lt_of_le (hlt b hb) hC)
 ·exact (hfp b hb).2.2.2.2.1 x c (clOf_sub fr e)
 ·rcases (hfp b hb).2.2.2.1 with z | z
  ·exact I.ok.noex b o e z
  ·exact absurd (Nat.lt_of_lt_of_le (Heap.lt_size e) (Nat.le_trans I.ok.bsz z)) (Nat.lt_irrefl _)
 ·rcases List.mem_cons.mp (I.stkSub b z) with z | z
  ·exact (hfp b hb).2.1 z
  ·exact (hfp b hb).2.2.1 z
 ·rw [hg];exact ⟨I.bare.1,Nat.le_refl _⟩
 ·obtain ⟨t,j,rfl,hj,hv⟩:=comp_get e2
  have ex : X.N[j]? = some x:=by
   have q:=congrArg (fun l=>l[t]?) hjs
   simp only [List.getElem?_map,List.getElem?_drop,hj,Option.map_some] at q
   have e1' : Nc[k + t]? = some x:=e1
   rw [e1'] at q
   exact (Option.some.inj q).symm
  have hx : scope.names.lookup x = some .free:=hfr x (by
   have : (Nc.drop k)[t]? = some x:=by rw [List.getElem?_drop];exact e1
   exact List.mem_of_getElem? this)
  have kx:=S.free (x,.free) (PySem.mem_of_lookup hx) rfl
  obtain ⟨m,_,hl⟩:=I.loc
  obtain ⟨u,r,l⟩:=hl j x v ex hv (.inr kx)
  obtain ⟨c',hc'⟩:=clOf_has (env:=X.env) (PySem.mem_of_lookup hx)
  have q : (relabel scope X.env).names.lookup x = (scope.names.lookup x).map fun k=>if (k == NameKind.free && X.env.scope.kind == .function && X.env.kindOf x == some .cell) then NameKind.cell else k:=lookup_relabel
  refine ⟨u,r,.inr ⟨?_,c',hc',?_⟩⟩
  ·show (relabel scope X.env).names.lookup x = some .cell\/(relabel scope X.env).names.lookup x = some .free
   rw [q,hx,Option.map_some]
   split
   ·exact .inl rfl
   ·exact .inr rfl
  ·rcases l with ⟨k1,_⟩ | ⟨_,c,hcc,z⟩
   ·have k1' : X.env.scope.names.lookup x = some .local:=k1
    have kx' : X.env.scope.names.lookup x = some .cell\/X.env.scope.names.lookup x = some .free:=kx
    rw [k1'] at kx'
    rcases kx' with z | z <;> cases z
   ·have e : c = c':=by
     have:=clOf_sub fr hc'
     rw [hcc] at this
     exact Option.some.inj this
    subst e
    exact z.keeps hkeep
 ·obtain ⟨v,z⟩:=I.cell x c (clOf_sub fr e)
  exact ⟨v,z.keeps hkeep⟩
 ·rw [compSt_len]
  show _ = Nc.length
  omega
def PTs (X : Cx) (ifs : List Expr) (t : TT) : Prop :=
  ∀ (pins : List (Addr × Obj)) (s : Shared) (σ : St) (H : Hp) (Q : Bool → Hp → Prop), Inv X pins σ H s → t σ H Q →
    wpAny (model X.prog X.w) X.A (forIn ifs true fun c r => if r = true then do let ok ← isTrue c X.env (eval c X.env); pure (ForInStep.yield ok) else pure (ForInStep.yield r)) (TP X pins σ Q) X.xe s
def tYes : TT:=fun _ H Q=>Q true H
theorem pts_nil : PTs X [] tYes:=fun _ _ _ H _ I h=>wpAny_tests_nil ⟨H,I,h⟩
theorem pts_one {c : Expr} {t : TT} (h : PT X c t) : PTs X [c] t:=fun pins s σ H Q I q=>wpAny_tests_one (h pins s σ H Q I q)
def GOwn (k : Nat) (g : TG) : Prop := ∀ x σ H Q,k <= σ.length->g x σ H Q->g x σ H fun σ2 H2=>Q σ2 H2/\σ2.length = σ.length/\∀ j,k <= j->σ2[j]? = σ[j]?
theorem gown_name {i k : Nat} (h : i < k) : GOwn k (gName i):=fun x σ H Q _ q=>⟨q,by simp,fun j hj=>List.getElem?_set_ne (by omega)⟩
def LComp (J : It) (g : TG) (tt : TT) (te : TE) (σc : St) (Q : VK) (H1 : Hp) : Prop := ∃ W : Nat->Nat->List V->Hp->Prop,(∃ m,W 0 m [] H1)/\∀ i m xs H,W i m xs H ->
 (J.stop i H/\∀ p,H p = none->Q (.ref p) (upd H p (.lst xs))) \/
 (J.go i H/\∀ x H',J.yld i H x H'->g x σc H' fun σ2 H2=>tt σ2 H2 fun b H3=>if b = true then te σ2 H3 fun v H4=>xs.length < sizeLine/\∃ m',m' < m/\W (i + 1) m' (xs ++ [v]) H4 else ∃ m',m' < m/\W (i + 1) m' xs H3)
def tLComp (k : Nat) (js : List Nat) (wi : TI) (g : TG) (tt : TT) (te : TE) : TE:=fun σ H Q=>wi σ H fun J H1=>LComp J g tt te (compSt k js σ) Q H1
end
end L2
end

section
set_option Elab.async false
set_option linter.all false
set_option maxRecDepth 100000
namespace L2
open PySem PySem.Spec PyProof.Rows
section
variable {X : Cx}
theorem compLoop_any {prog : Program} {w : World} {A : Around} {R : Result → Shared → Prop} {s : Shared} {elt target iter : Expr} {ifs : List Expr} {scope : Scope} {pos : Pos} {it acc : Value} {env : Env} (I : Nat → Shared → Prop)
    (turn : ∀ n s, I n s → wpAny (model prog w) A (pyNext it) (fun r s₁ => match r with
      | none => R (.ok .next) s₁
      | some v => wpAny (model prog w) A (letOwnedTupleGo target it v) (fun _ s₁' => wpAny (model prog w) A (assign target env v) (fun _ s₂ =>
          wpAny (model prog w) A (forIn ifs true fun c r => if r = true then do let ok ← isTrue c env (eval c env); pure (ForInStep.yield ok) else pure (ForInStep.yield r)) (fun ok s₃ =>
            if ok = true then wpAny (model prog w) A (eval elt env) (fun x s₄ =>
              wpAny (model prog w) A (call (.builtin "list.append") [acc, x]) (fun _ s₅ => ∃ m, m < n ∧ I m s₅) (fun _ _ => False) s₄) (fun _ _ => False) s₃
            else ∃ m, m < n ∧ I m s₃) (fun _ _ => False) s₂) (fun _ _ => False) s₁') (fun _ _ => False) s₁) (fun _ _ => False) s)
    (n : Nat) (h : I n s) :
    codeAny (model prog w) A (.compLoop (.ListComp elt [⟨target, iter, ifs, 0⟩] scope pos) 0 it acc env) R s := by
  refine codeAny_loop rfl I (fun n s hI => ?_) n h
  show wpAny _ A ((compTurn (.ListComp elt [⟨target, iter, ifs, 0⟩] scope pos) 0 it acc env).onRaise (fun x => do noteFrame x env; theTreesLotGoes x)) _ _ s
  refine wpAny_noted ?_
  rw [compTurn_list]
  refine wpAny_bind (wpAny_standAt (wpAny_bind (wpAny_mono (turn n s hI) (fun r s₁ h₁ => ?_) fun _ _ h' => h'.elim)))
  cases r with
  | none => exact wpAny_pure h₁
  | some v =>
    refine wpAny_bind (wpAny_mono h₁ (fun _ s₁' h₁' => ?_) fun _ _ h' => h'.elim)
    refine wpAny_bind (wpAny_mono h₁' (fun _ s₂ h₂ => wpAny_bind (wpAny_mono h₂ (fun ok s₃ h₃ => ?_) fun _ _ h' => h'.elim)) fun _ _ h' => h'.elim)
    cases ok with
    | false => exact wpAny_pure ⟨rfl, h₃⟩
    | true =>
      exact wpAny_bind (wpAny_bind (wpAny_mono h₃ (fun x s₄ h₄ => wpAny_bind (wpAny_mono h₄ (fun _ s₅ h₅ => wpAny_pure (wpAny_pure ⟨rfl, h₅⟩)) fun _ _ h' => h'.elim)) fun _ _ h' => h'.elim))
theorem comp_core {elt tg iter : Expr} {ifs : List Expr} {scope : Scope} {pos : Pos} {Nc : List Str} {k : Nat} {js : List Nat} {wi : TI} {g : TG} {tt : TT} {te : TE} (hc : X.calm = true) (S : CompScope X.env scope)
  (hjs : (Nc.drop k).map some = js.map (X.N[·]?)) (hfr : ∀ x ∈ Nc.drop k,scope.names.lookup x = some .free) (hk : k <= Nc.length) (hi : PI X tg iter wi)
  (hg : ∀ C s H ex,PG (compCx X scope Nc C s H ex) tg g) (gk : GOwn k g) (ht : ∀ C s H ex,PTs (compCx X scope Nc C s H ex) ifs tt) (he : ∀ C s H ex,PE (compCx X scope Nc C s H ex) elt te)
  {pins : List (Addr × Obj)} {s : Shared} {σ : St} {H : Hp} {Q : VK} (I : Inv X pins σ H s) (h : tLComp k js wi g tt te σ H Q) :
  wpAny (model X.prog X.w) X.A (eval iter X.env) (fun x s₁=>wpAny (model X.prog X.w) X.A (pyIter x) (fun itv s₂=>wpAny (model X.prog X.w) X.A (newList []) (fun acc s₃ =>
   wpAny (model X.prog X.w) X.A (newFunctionEnv scope X.env.globals (clOf X.env scope.names) [] X.env.qual none .none (some X.env)) (fun cenv s₄ =>
    codeAny (model X.prog X.w) X.A (.compStart (.ListComp elt [⟨tg,iter,ifs,0⟩] scope pos) 0 itv acc { cenv with scope:=relabel scope X.env })
     (fun r s'=>∃ fl D H' m,r = .ok fl/\acc = .ref D/\Inv X pins σ H' s'/\s'.heap.Ns cenv.locals m/\FpOk X pins H' cenv.locals/\Q (.ref D) H') s₄) X.xe s₃) X.xe s₂) X.xe s₁) X.xe s:=by
 refine thn (hi pins s σ H _ I h) fun v s1 h1=>thn h1 fun itv s2 h2=>?_
 obtain ⟨it,fp,tn,J,H2,e,I2,T,st2,f2,W,⟨m0,w0⟩,turn⟩:=h2
 subst e
 refine wpAny_newObj_type (wpAny_newFunctionEnv S.cell (by intro y hy;simp at hy) (fun h₁ hns₁ hsb₁=>?_) S.kind)
 dsimp only at hns₁ hsb₁ ⊢
 generalize hH3 : s2.heap.push { cls:=.type "list",dict:=none,data:=.seq ([] : List Value).toArray } = H3 at hns₁ hsb₁ ⊢
 have hC : H3.objs.size = s2.heap.objs.size + 1:=by rw [<- hH3,Heap.size_push]
 generalize eC : H3.objs.size = C at hns₁ hsb₁ hC ⊢
 generalize eD : s2.heap.objs.size = D at hC ⊢
 have hDC : D ≠ C:=by omega
 have hle : D <= C:=by omega
 have hlt' : D < C:=by omega
 have hltD : ∀ b o,s2.heap.get? b = some o->b < D:=fun b o e=>by rw [<- eD];exact Heap.lt_size e
 have keep : ∀ b o,s2.heap.get? b = some o->h₁.get? b = some o:=fun b o e=>hsb₁.extBut b o (Nat.ne_of_lt (Nat.lt_trans (hltD b o e) hlt')) (Heap.get?_push_of_some _ (hH3 ▸ Heap.get?_push_of_some _ e))
 have hD1 : ∃ nn,h₁.get? D = some { cls:=.type "list",data:=.seq (([] : List Value).toArray) nn } :=
  ⟨_,hsb₁.extBut _ _ hDC (Heap.get?_push_of_some _ (hH3 ▸ eD ▸ Heap.get?_push_size _ rfl))⟩
 have ltf : ∀ b ∈ fp,b < s2.heap.objs.size:=fun b hb=>by
  obtain ⟨o,e,_⟩:=T.obj 0 _ st2 b hb
  exact Heap.lt_size e
 have I4 : Inv (compCx X scope Nc C s2 H2 fp) [] (compSt k js σ) H2 { s2 with heap:=h₁,toks:=s2.toks + ([] : List (Str × Value)).length } :=
  inv_comp (s4:={ s2 with heap:=h₁,toks:=s2.toks + ([] : List (Str × Value)).length }) I2 hc S hjs hfr hk f2 ltf (by omega) hns₁ keep rfl rfl
 have frz : ∀ y ∈ scope.names,y.2 = .free->∃ c,X.env.cells.lookup y.1 = some c:=fun y hy e=>I2.ok.has y.1 (S.free y hy e)
 have Dcell : ∀ x c,(clOf X.env scope.names).lookup x = some c->c ≠ D:=fun x c e z=>by
  obtain ⟨v,q⟩:=I2.cell x c (clOf_sub frz e)
  have l:=q.lt
  rw [z,eD] at l
  exact Nat.lt_irrefl _ l
 have Dstk : D ∉ frs X.stack:=fun z=>by
  rcases List.mem_cons.mp (I2.stkSub D z) with z | z
  ·have l:=I2.lt
   rw [<- z,eD] at l
   exact Nat.lt_irrefl _ l
  ·exact I2.nofs (Nat.le_of_eq eD) z
 have Dfp : ∀ b ∈ fp,D ≠ b:=fun b hb z=>by have l:=ltf b hb;rw [<- z,eD] at l;exact Nat.lt_irrefl _ l
 have fpok : ∀ {H' : Hp} {o : Obj},(∀ b ∈ fp,H' b = none)->∀ b ∈ fp,FpOk (compCx X scope Nc C s2 H2 fp) [(D,o)] H' b:=fun {H' o} hn b hb=>by
  refine ⟨hn b hb,?_,?_,.inl hb,fun x c e=>(f2 b hb).2.2.2.2.1 x c (clOf_sub frz e),fun p hp=>?_⟩
  ·have l:=ltf b hb
   rw [eD] at l
   exact Nat.ne_of_lt (Nat.lt_trans l hlt')
  ·intro z
   rcases List.mem_cons.mp (I2.stkSub b z) with z | z
   ·exact (f2 b hb).2.1 z
   ·exact (f2 b hb).2.2.1 z
  ·have e : p = (D,o):=by simpa using hp
   subst e
   exact Dfp b hb
 have loop : codeAny (model X.prog X.w) X.A (.compLoop (.ListComp elt [⟨tg,iter,ifs,0⟩] scope pos) 0 (.ref it) (.ref D) (compEnvC scope (clOf X.env scope.names) C X.env))
   (fun r s'=>∃ fl D' H' m,r = .ok fl/\Value.ref D = .ref D'/\Inv X pins σ H' s'/\s'.heap.Ns C m/\FpOk X pins H' C/\Q (.ref D') H') { s2 with heap:=h₁,toks:=s2.toks + ([] : List (Str × Value)).length }:=by
  refine compLoop_any (fun n s'=>∃ (i : Nat) (xs : List V) (H' : Hp) (its : List Value) (nn : Nat),Inv (compCx X scope Nc C s2 H2 fp) [] (compSt k js σ) H' s'/\tn i s'.heap/\(∀ b ∈ fp,H' b = none)/\H' D = none /\
   s'.heap.get? D = some { cls:=.type "list",data:=.seq its.toArray nn }/\Vals xs its/\xs.length <= sizeLine/\W i n xs H') ?_ m0 ?_
  ·rintro n s3 ⟨i,xs,H3',its,nn,I3,st3,fr3,fD3,oD3,rv,hz,w3⟩
   have I3' : Inv (compCx X scope Nc C s2 H2 fp) [(D,{ cls:=.type "list",data:=.seq its.toArray nn })] (compSt k js σ) H3' s3:=I3.pins_of fun p hp=>by
    have e : p = (D,{ cls:=.type "list",data:=.seq its.toArray nn }):=by simpa using hp
    subst e
    refine ⟨oD3,fD3,hDC,Dstk,fun v z=>?_⟩
    cases z
   rcases turn i n xs H3' w3 with ⟨stop,qn⟩ | ⟨go,step⟩
   ·refine thn (T.done (compCx X scope Nc C s2 H2 fp) rfl rfl rfl rfl i _ s3 (compSt k js σ) H3' _ I3' (fpok fr3) st3 stop) fun r s4 ⟨hr,I5⟩=>?_
    subst hr
    obtain ⟨oD5,fD5,_⟩:=I5.pin (D,{ cls:=.type "list",data:=.seq its.toArray nn }) (by simp)
    obtain ⟨mC,nC,_⟩:=I5.loc
    have hu : Un (frs X.stack) fp H2 H3' s2.heap s4.heap:=I5.base
    have neD : ∀ b o,H3' b = some o->b ≠ D:=fun b o e=>ne_of_none e fD3
    have neDh : ∀ b o,s2.heap.get? b = some o->b ≠ D:=fun b o e=>Nat.ne_of_lt (hltD b o e)
    have hok' : HOk X.prog X.w (upd H3' D (.lst xs)) s4.heap:=fun b u e=>by
     by_cases hb : b = D
     ·subst hb
      rw [upd_same] at e
      cases e
      exact ⟨hz,its,nn,rv,oD5⟩
     ·rw [upd_ne hb] at e
      exact (I5.hok b u e).stay (fun c v _ q=>q) (fun c q=>by rw [upd_ne (neD c _ q)];exact q) fun c ys q=>by rw [upd_ne (neD c _ q)];exact q
    have hu' : Un (frs X.stack) fp H2 (upd H3' D (.lst xs)) s2.heap s4.heap:=⟨hu.keep,hu.slot,fun b o e n hx=>by rw [upd_ne (neDh b o e)];exact hu.free b o e n hx,hu.there,
     fun b ys e=>by rw [upd_ne (neD b _ (hu.tups b ys e))];exact hu.tups b ys e,fun b o u e=>by rw [upd_ne (neD b _ (hu.frzs b o u e))];exact hu.frzs b o u e,
     fun b ps e=>by obtain ⟨more,q⟩:=hu.tbls b ps e;exact ⟨more,by rw [upd_ne (neD b _ q)];exact q⟩⟩
    have IX : Inv X pins σ (upd H3' D (.lst xs)) s4:=I2.call' I5.os hu' hok' I5.bare fun b hb=>⟨(f2 b hb).2.2.2.1,(f2 b hb).2.1,(f2 b hb).2.2.2.2.1,(f2 b hb).2.2.2.2.2⟩
    refine ⟨_,D,_,mC,rfl,rfl,IX,nC,I2.fpOk (by omega) ?_,qn D fD3⟩
    rw [upd_ne (Ne.symm hDC)]
    exact I5.free
   ·refine thn (T.item (compCx X scope Nc C s2 H2 fp) rfl rfl rfl rfl i _ s3 (compSt k js σ) H3' _ I3' (fpok fr3) st3 go) fun r s4 ⟨u,hr,h4⟩=>?_
    subst hr
    refine thn h4 fun _ s5 ⟨x,H5,I5,r5,y5,st5,fr5⟩=>?_
    have I5':=I5.pinned (fpok fr5) (T.obj _ _ st5)
    have lenS : k <= (compSt k js σ).length:=by rw [compSt_len];omega
    refine thn (hg C s2 H2 fp _ s5 (compSt k js σ) H5 x u _ I5' r5 (gk _ _ _ _ lenS (step x H5 y5))) fun _ s6 ⟨σ6,H6,I6,q6,l6,a6⟩=>?_
    have weak6 : ∀ {H' : Hp} {s' : Shared} {ps : List (Addr × Obj)},Inv (compCx X scope Nc C s2 H2 fp) ps σ6 H' s'->Inv (compCx X scope Nc C s2 H2 fp) ps (compSt k js σ) H' s':=fun {H' s' ps} I'=>I'.weak l6.symm fun j v e=>by
     obtain ⟨t,j',rfl,_,_⟩:=comp_get e
     rw [a6 _ (Nat.le_add_right _ _)]
     exact e
    refine thn (ht C s2 H2 fp _ s6 σ6 H6 _ I6 q6) fun b s7 ⟨H7,I7,q7⟩=>?_
    have pinD : ∀ {H' : Hp} {s' : Shared},Inv (compCx X scope Nc C s2 H2 fp) ([(D,{ cls:=.type "list",data:=.seq its.toArray nn })] ++ pinsAt fp s5.heap) σ6 H' s'->s'.heap.get? D = some { cls:=.type "list",data:=.seq its.toArray nn }/\H' D = none:=fun {H' s'} I'=>by
     obtain ⟨e1,e2,_⟩:=I'.pin (D,{ cls:=.type "list",data:=.seq its.toArray nn }) (by simp)
     exact ⟨e1,e2⟩
    have pinF : ∀ {H' : Hp} {s' : Shared},Inv (compCx X scope Nc C s2 H2 fp) ([(D,{ cls:=.type "list",data:=.seq its.toArray nn })] ++ pinsAt fp s5.heap) σ6 H' s'->(∀ b ∈ fp,∀ o,s5.heap.get? b = some o->s'.heap.get? b = some o)/\∀ b ∈ fp,H' b = none:=fun {H' s'} I'=>by
     refine ⟨fun b hb o e=>(I'.pin (b,o) (List.mem_append_right _ (List.mem_append_right _ (mem_pinsAt hb e)))).1,fun b hb=>?_⟩
     obtain ⟨o,e,d⟩:=T.obj _ _ st5 b hb
     exact (I'.pin (b,o) (List.mem_append_right _ (List.mem_append_right _ (mem_pinsAt hb e)))).2.1
    cases b with
    | false =>
     obtain ⟨m',hm,w7⟩:=q7
     obtain ⟨d1,d2⟩:=pinD I7
     obtain ⟨p1,p2⟩:=pinF I7
     refine ⟨m',hm,i + 1,xs,H7,its,nn,weak6 (I7.pins_of fun p hp=>absurd (show p ∈ ([] : List (Addr × Obj)) from hp) (by simp)),T.keep _ _ _ st5 p1,p2,d2,d1,rv,hz,w7⟩
    | true =>
     refine thn (he C s2 H2 fp _ s7 σ6 H7 _ I7 q7) fun y s8 ⟨vv,H8,I8,r8,hz8,m',hm,w8⟩=>?_
     obtain ⟨d1,d2⟩:=pinD I8
     obtain ⟨p1,p2⟩:=pinF I8
     refine wpAny_list_append_plain (items:=its.toArray) ⟨nn,d1⟩ (fun h' ⟨nn',hp'⟩ hsb=>?_) (by have:=rv.length;rw [List.size_toArray];omega)
     have I8' : Inv (compCx X scope Nc C s2 H2 fp) [] (compSt k js σ) H8 s8:=weak6 (I8.pins_of fun p hp=>absurd (show p ∈ ([] : List (Addr × Obj)) from hp) (by simp))
     have I9 : Inv (compCx X scope Nc C s2 H2 fp) [] (compSt k js σ) H8 { s8 with heap:=h' }:=I8'.turned (it:=D) (t':=s8.toks) (fun b o hb e=>(hsb.2 b hb).trans e) d2 hDC (.inr (Nat.le_of_eq eD)) (fun x c e=>Dcell x c e) fun p hp=>absurd (show p ∈ ([] : List (Addr × Obj)) from hp) (by simp)
     refine ⟨m',hm,i + 1,xs ++ [vv],H8,its ++ [y],nn',I9,T.keep _ _ _ st5 (fun b hb o e=>(hsb.2 b (Ne.symm (Dfp b hb))).trans (p1 b hb o e)),p2,d2,?_,rv.append (.cons r8 .nil),?_,w8⟩
     ·rw [<- List.push_toArray]
      exact hp'
     ·rw [List.length_append,List.length_singleton]
      omega
  ·obtain ⟨nn,e⟩:=hD1
   exact ⟨0,[],H2,[],nn,I4,T.keep _ _ _ st2 (fun b _ o e=>keep b o e),fun b hb=>(f2 b hb).1,I2.hok.fresh (Nat.le_of_eq eD),e,.nil,Nat.zero_le _,w0⟩
 exact codeAny_compStart_list loop (wpAny_mono (T.self _ 0 _ _ (fun _ _=>False) (T.keep _ _ _ st2 fun b _ o e=>keep b o e) loop) (fun _ _ q=>q) fun _ _ z=>z.elim)
theorem pe_lcomp {elt tg iter : Expr} {ifs : List Expr} {scope : Scope} {pos : Pos} {Nc : List Str} {k : Nat} {js : List Nat} {wi : TI} {g : TG} {tt : TT} {te : TE} (hc : X.calm = true) (S : CompScope X.env scope)
  (hjs : (Nc.drop k).map some = js.map (X.N[·]?)) (hfr : ∀ x ∈ Nc.drop k,scope.names.lookup x = some .free) (hk : k <= Nc.length) (hi : PI X tg iter wi)
  (hg : ∀ C s H ex,PG (compCx X scope Nc C s H ex) tg g) (gk : GOwn k g) (ht : ∀ C s H ex,PTs (compCx X scope Nc C s H ex) ifs tt) (he : ∀ C s H ex,PE (compCx X scope Nc C s H ex) elt te)
  (hs : ∀ x,foldedSetIterable iter X.env x = pure x:=by intro _;rfl) : PE X (.ListComp elt [⟨tg,iter,ifs,0⟩] scope pos) (tLComp k js wi g tt te):=by
 intro pins s σ H Q I h
 rw [eval_ListComp]
 refine wpAny_comprehension_free (use:=none) rfl hs (closure_of fun y hy e=>I.ok.has y.1 (S.free y hy e)) S.kind S.loc (thn (comp_core hc S hjs hfr hk hi hg gk ht he I h) fun x s1 h1=>thn h1 fun itv s2 h2=>thn h2 fun acc s3 h3=>thn h3 fun cenv s4 h4=>codeAny_mono h4 fun r s' hr=>?_)
 obtain ⟨fl,D,H',m,rfl,rfl,I',nC,fC,q⟩:=hr
 refine ⟨m,nC,fun h' sb=>⟨.ref D,H',I'.turned (it:=cenv.locals) (t':=s'.toks) (fun b o hb e=>(sb.2 b hb).trans e) fC.1 fC.2.1 fC.2.2.2.1 fC.2.2.2.2.1 fC.2.2.2.2.2,rfl,q⟩⟩
theorem ps_setC {elt tg iter : Expr} {ifs : List Expr} {scope : Scope} {cpos pos pos' : Pos} {Nc : List Str} {k : Nat} {js : List Nat} {wi : TI} {g : TG} {tt : TT} {te : TE} {i : Nat} {x : Str} (hN : X.N.Nodup) (hxi : X.N[i]? = some x) (hx : Loc X.env.scope x) (hc : X.calm = true) (S : CompScope X.env scope)
    (hjs : (Nc.drop k).map some = js.map (X.N[·]?)) (hfr : ∀ x ∈ Nc.drop k, scope.names.lookup x = some .free) (hk : k ≤ Nc.length) (hi : PI X tg iter wi)
    (hg : ∀ C s H ex, PG (compCx X scope Nc C s H ex) tg g) (gk : GOwn k g) (ht : ∀ C s H ex, PTs (compCx X scope Nc C s H ex) ifs tt) (he : ∀ C s H ex, PE (compCx X scope Nc C s H ex) elt te)
    (hs : ∀ x, foldedSetIterable iter X.env x = pure x := by intro _; rfl) (hsw : swapsWith (.ListComp elt [⟨tg, iter, ifs, 0⟩] scope cpos) (some (.Name x pos')) pos.line X.env = pure true := by rfl)
    (hf : X.fn x = true ∨ X.env.scope.names.lookup x = some .local := by first | exact .inl rfl | exact .inr rfl | assumption) :
    PS X (.Assign [.Name x pos'] (.ListComp elt [⟨tg, iter, ifs, 0⟩] scope cpos) pos) (tAsg (tLComp k js wi g tt te) (gName i)) := by
  intro pins s σ H D I h
  rw [exec_Assign_Name_used _ _ _ _ hsw]
  refine wpAny_bind (wpAny_standAt (wpAny_bind ?_))
  show wpAny _ X.A (do let _ ← comprehension (.ListComp elt [⟨tg, iter, ifs, 0⟩] scope cpos) scope X.env _ (newList []) false (eval iter X.env) (some (assign (.Name x pos') X.env))) _ _ s
  refine wpAny_bind (wpAny_mono (wpAny_comprehension_free (use := some (assign (.Name x pos') X.env)) (Q := fun _ s' => SP X pins D .next s') rfl hs (closure_of fun y hy e => I.ok.has y.1 (S.free y hy e)) S.kind S.loc
    (thn (comp_core hc S hjs hfr hk hi hg gk ht he I h) fun xv s1 h1 => thn h1 fun itv s2 h2 => thn h2 fun acc s3 h3 => thn h3 fun cenv s4 h4 => codeAny_mono h4 fun r s' hr => ?_)) (fun _ s' hq => wpAny_pure (wpAny_pure hq)) fun _ _ e => e)
  obtain ⟨fl, Dl, H', m, rfl, rfl, I', nC, fC, q⟩ := hr
  show wpAny _ X.A (assign (.Name x pos') X.env (.ref Dl)) _ _ _
  refine wpAny_assign_Name (store_ok2 (v := .ref Dl) I' hN hxi hx rfl (fun s'' I'' ⟨a, sa, ha⟩ => ?_) hf)
  have na : cenv.locals ≠ a := by
    rcases ha with rfl | ha
    · exact fC.2.1
    · exact fun z => fC.2.2.2.2.1 x a ha z.symm
  refine ⟨m, nC.sameBut sa na, fun h' sb => ⟨_, H', I''.turned (it := cenv.locals) (t' := s''.toks) (fun b o hb e => (sb.2 b hb).trans e) fC.1 fC.2.1 fC.2.2.2.1 fC.2.2.2.2.1 fC.2.2.2.2.2, q⟩⟩
end
end L2
end

section
set_option Elab.async false
set_option linter.all false
set_option maxRecDepth 100000
namespace L2
open PySem PySem.Spec PyProof.Rows
abbrev genCx (X : Cx) (scope : Scope) (Nc : List Str) (C : Addr) (code : Value) (e : Expr) (it : Addr) (s₂ : Shared) (H₂ : Hp) (ex : List Addr) : Cx where
 prog:=X.prog
 w:=X.w
 K:=X.K
 mg:=X.mg
 base:=X.base
 A:=(X.A.in1.in1).over (.compLoop e 0 (.ref it) .none (genEnv scope (clOf X.env scope.names) C code builtinsNs X.env)) []
 N:=Nc
 s₀:=s₂
 H₀:=H₂
 env:=genEnv scope (clOf X.env scope.names) C code builtinsNs X.env
 outer:=X.stack
 stack:=genEnv scope (clOf X.env scope.names) C code builtinsNs X.env :: X.stack
 ex:=ex
 fn:=fun _=>false
 calm:=true
 pn:=[]
 xe:=fun _ _=>False
section
variable {X : Cx}
theorem Inv.setGens {pins : List (Addr × Obj)} {σ : St} {H : Hp} {s : Shared} {g' : Array GenState} (I : Inv X pins σ H s) (hg : GOk s.gens g') : Inv X pins σ H { s with gens:=g' } :=
 ⟨I.ok,I.os,⟨hg.1,Nat.le_trans I.bare.2 hg.2⟩,I.base,I.loc,I.cell,I.free,I.freeC,I.pin,I.hok,I.len⟩
theorem gok_set {gens : Array GenState} {g : Nat} {x : GenState} (h : AllBare gens) (hx : x.bare = true) : GOk gens (gens.setIfInBounds g x):=by
 refine ⟨fun y hy=>?_,by simp⟩
 rcases Array.mem_or_eq_of_mem_setIfInBounds hy with z | z
 ·exact h y z
 ·rw [z];exact hx
theorem genRoom {k : Nat} {A : Around} (r : Room (k + 1) A) {elt : Expr} {gens : List Comprehension} {scope : Scope} {pos : Pos} {it acc : Value} {env : Env} : Room k ((A.in1.in1).over (.compLoop (.GeneratorExp elt gens scope pos) 0 it acc env) []) :=
 ⟨r.hd,by have:=r.dp;show A.depth + 0 + 1 + 3 * k + 5 < _;omega,by have:=r.un;show A.units + 1 + 1 + 0 + 3 + 16 * k + 200 < _;omega⟩
theorem genFrames {A : Around} {l : List Env} (h : A.frames = some l) {elt : Expr} {gens : List Comprehension} {scope : Scope} {pos : Pos} {it acc : Value} {env : Env} :
  ((A.in1.in1).over (.compLoop (.GeneratorExp elt gens scope pos) 0 it acc env) []).frames = some (env :: l):=by
 show pushEnvs [env] (pushEnvs [] A.frames) = _
 rw [h]
 rfl
structure GenScope (env : Env) (scope : Scope) : Prop where
 kind : scope.kind = .function
 co : scope.isCoroutine = false
 cell : ∀ y ∈ scope.names,y.2 ≠ .cell
 zero : scope.names.lookup (".0" : Str) = some .local
 free : ∀ y ∈ scope.names,y.2 = .free->env.scope.names.lookup y.1 = some .cell\/env.scope.names.lookup y.1 = some .free
theorem inv_gen {pins : List (Addr × Obj)} {σ : St} {H : Hp} {s s4 : Shared} {scope : Scope} {Nc : List Str} {k : Nat} {js : List Nat} {C it : Addr} {code : Value} {elt : Expr} {gens : List Comprehension} {pos : Pos} {fp : List Addr} {m0 : Str->Option Value} (I : Inv X pins σ H s) (hc : X.calm = true) (S : GenScope X.env scope)
  (hjs : (Nc.drop k).map some = js.map (X.N[·]?)) (hfr : ∀ x ∈ Nc.drop k,scope.names.lookup x = some .free) (hk : k <= Nc.length)
  (hfp : ∀ b ∈ fp,FpOk X pins H b) (hlt : ∀ b ∈ fp,b < s.heap.objs.size) (hC : s.heap.objs.size <= C) (hn : s4.heap.Ns C m0) (hkeep : ∀ b o,s.heap.get? b = some o->s4.heap.get? b = some o)
  (ho : s4.os = s.os) (hg : GOk s.gens s4.gens) : Inv (genCx X scope Nc C code (.GeneratorExp elt gens scope pos) it s H fp) [] (compSt k js σ) H s4:=by
 have fr : ∀ y ∈ scope.names,y.2 = .free->∃ c,X.env.cells.lookup y.1 = some c:=fun y hy e=>I.ok.has y.1 (S.free y hy e)
 have kinds : ∀ x,scope.names.lookup x = some .cell\/scope.names.lookup x = some .free->(x,NameKind.free) ∈ scope.names:=fun x hx=>by
  rcases hx with e | e
  ·exact absurd rfl (S.cell _ (PySem.mem_of_lookup e))
  ·exact PySem.mem_of_lookup e
 have lenJ : js.length = Nc.length - k:=by
  have:=congrArg List.length hjs
  simpa using this.symm
 refine ⟨⟨I.ok.mod,S.kind,I.ok.glob,rfl,hC,fun x y c h1 h2=>I.ok.inj x y c (clOf_sub fr h1) (clOf_sub fr h2),fun x hx=>clOf_has (kinds x hx),fun x c z=>(by cases z),fun _=>I.ok.hd hc,genFrames I.ok.frames,.inr ⟨rfl,rfl⟩,fun b hb=>⟨?_,fun x c e=>?_⟩,I.bs,Nat.le_trans I.ok.bsz I.sz,fun b o e hb=>?_,fun b hb z=>?_,I.stack,I.stkFree⟩,
  ho,hg,Un.kept hkeep,⟨_,hn,fun i x v e1 e2 e3=>?_⟩,fun x c e=>?_,I.hok.fresh hC,fun x c e=>I.freeC x c (clOf_sub fr e),fun p hp=>absurd (show p ∈ ([] : List (Addr × Obj)) from hp) (by simp),I.hok.kept hkeep,?_⟩
 ·exact Nat.ne_of_lt (Nat.lt_of_lt_of_le (hlt b hb) hC)
 ·exact (hfp b hb).2.2.2.2.1 x c (clOf_sub fr e)
 ·rcases (hfp b hb).2.2.2.1 with z | z
  ·exact I.ok.noex b o e z
  ·exact absurd (Nat.lt_of_lt_of_le (Heap.lt_size e) (Nat.le_trans I.ok.bsz z)) (Nat.lt_irrefl _)
 ·rcases List.mem_cons.mp (I.stkSub b z) with z | z
  ·exact (hfp b hb).2.1 z
  ·exact (hfp b hb).2.2.1 z
 ·obtain ⟨t,j,rfl,hj,hv⟩:=comp_get e2
  have ex : X.N[j]? = some x:=by
   have q:=congrArg (fun l=>l[t]?) hjs
   simp only [List.getElem?_map,List.getElem?_drop,hj,Option.map_some] at q
   have e1' : Nc[k + t]? = some x:=e1
   rw [e1'] at q
   exact (Option.some.inj q).symm
  have hx : scope.names.lookup x = some .free:=hfr x (by
   have : (Nc.drop k)[t]? = some x:=by rw [List.getElem?_drop];exact e1
   exact List.mem_of_getElem? this)
  have kx:=S.free (x,.free) (PySem.mem_of_lookup hx) rfl
  obtain ⟨m,_,hl⟩:=I.loc
  obtain ⟨u,r,l⟩:=hl j x v ex hv (.inr kx)
  obtain ⟨c',hc'⟩:=clOf_has (env:=X.env) (PySem.mem_of_lookup hx)
  refine ⟨u,r,.inr ⟨.inr hx,c',hc',?_⟩⟩
  rcases l with ⟨k1,_⟩ | ⟨_,c,hcc,z⟩
  ·have k1' : X.env.scope.names.lookup x = some .local:=k1
   have kx' : X.env.scope.names.lookup x = some .cell\/X.env.scope.names.lookup x = some .free:=kx
   rw [k1'] at kx'
   rcases kx' with z | z <;> cases z
  ·have e : c = c':=by
    have:=clOf_sub fr hc'
    rw [hcc] at this
    exact Option.some.inj this
   subst e
   exact z.keeps hkeep
 ·obtain ⟨v,z⟩:=I.cell x c (clOf_sub fr e)
  exact ⟨v,z.keeps hkeep⟩
 ·rw [compSt_len]
  show _ = Nc.length
  omega
def TabAt (H : Hp) (P : Addr) (ps : Array Value) : Prop:=H P = some (.tbl ps)/\TriplesOk ps.toList
theorem Inv.table {pins : List (Addr × Obj)} {σ : St} {H : Hp} {s : Shared} {P : Addr} {ps more : Array Value} {h' : Heap} {t' : Nat} (I : Inv X pins σ H s) (hP : H P = some (.tbl ps)) (hx : Heap.ExtBut P s.heap h') (hp : h'.get? P = some { cls:=.none,data:=.fields (ps ++ more) }) :
  Inv X pins σ (upd H P (.tbl (ps ++ more))) { s with heap:=h',toks:=t' }:=by
 have ne : ∀ b o,H b = some o->(∀ q,o ≠ .tbl q)->b ≠ P:=fun b o e n z=>by
  subst z
  rw [hP] at e
  exact n ps (Option.some.inj e).symm
 have ne0 : ∀ b,H b = none->b ≠ P:=fun b n z=>by subst z;rw [hP] at n;cases n
 refine I.un ⟨fun b o e n _ _=>hx b o (ne0 b n) e,fun b o e n _ _=>⟨o.slots,hx b o (ne0 b n) e⟩,fun b o e n _=>by rw [upd_ne (ne0 b n)];exact n,fun b o e _=>?_,fun b xs e=>by rw [upd_ne (ne b _ e (by intro q z;cases z))];exact e,
  fun b o u e=>by rw [upd_ne (ne b _ e (by intro q z;cases z))];exact e,fun b qs e=>?_⟩ fun b u e=>?_
 ·by_cases hb : b = P
  ·subst hb;exact ⟨_,hp⟩
  ·exact ⟨o,hx b o hb e⟩
 ·by_cases hb : b = P
  ·subst hb
   rw [hP] at e;cases e
   exact ⟨more,upd_same⟩
  ·exact ⟨#[],by rw [upd_ne hb,e];simp⟩
 ·by_cases hb : b = P
  ·subst hb
   rw [upd_same] at e;cases e
   exact hp
  ·rw [upd_ne hb] at e
   refine (I.hok b u e).stay (fun c v hc q=>hx c v ?_ q) (fun c q=>by rw [upd_ne (ne c _ q (by intro q z;cases z))];exact q) fun c ys q=>by rw [upd_ne (ne c _ q (by intro q z;cases z))];exact q
   rcases hc with z | z
   ·rw [z];exact hb
   ·exact ne c _ z (by intro q z;cases z)
theorem gen_code {pins : List (Addr × Obj)} {σ : St} {H : Hp} {s : Shared} {E : Value->Shared->Prop} {env : Env} {c P : Addr} {ps : Array Value} {pos : Pos} {qualname : Str} {scope : Scope} {Q : Value->Shared->Prop} (I : Inv X pins σ H s) (hc : env.code = .ref c) (hd : PySem.W.CodeHd X.base c P) (hP : TabAt H P ps)
  (hQ : ∀ code s' more,Inv X pins σ (upd H P (.tbl (ps ++ more))) s'->TriplesOk (ps ++ more).toList->s'.gens = s.gens->s'.os = s.os->s.heap.objs.size <= s'.heap.objs.size->Heap.ExtBut P s.heap s'.heap->Q code s') : wpAny (model X.prog X.w) X.A (genexprCode env pos qualname scope) Q E s:=by
 have hd' : PySem.W.CodeHd s.heap c P:=hd.keeps fun b o e=>(I.bs b o e).1
 have hop : s.heap.get? P = some (PySem.W.tabObj ps):=I.hok P _ hP.1
 have hcode:=hd'.code hop hP.2
 have htab:=hd'.tab hop
 cases hnf : codeAmong pos ps.toList with
 | none =>
  refine wpAny_genexprCodeX hc hcode htab hnf fun c' h' tk hx h1 h2 hc3 _ ht3 _=>?_
  refine hQ _ { s with heap:=h',toks:=tk } _ (I.table hP.1 hx ht3.2) ?_ rfl rfl (Nat.le_trans h1 (Nat.le_of_lt h2)) hx
  obtain ⟨_,_,_,_,_,_,_,_,_,_,_,_,_,_,_,_,_,_,_,tr,_⟩:=hc3
  exact tr
 | some cv =>
  obtain ⟨o,vs,file,tf,flags,tg,inF,text,tt,op,ho,hdd,h11,h2,h7,h9,h10,hop',hpd,htr,hne⟩:=id hcode
  unfold genexprCode codeAt
  rw [hc,if_neg (show ¬ ((Value.ref c == Value.none) = true) from Bool.false_ne_true)]
  refine wpAny_bind (wpAny_fieldsOf ho hdd ?_)
  rw [h11]
  refine wpAny_bind (wpAny_fieldsOf hop' hpd ?_)
  rw [hnf]
  refine wpAny_pure (hQ cv s #[] ?_ (by simpa using hP.2) rfl rfl (Nat.le_refl _) (Heap.ExtBut.refl _ _))
  have e : upd H P (.tbl (ps ++ #[])) = H:=by
   funext b
   by_cases hb : b = P
   ·subst hb;rw [upd_same,hP.1];simp
   ·rw [upd_ne hb]
  rw [e]
  exact I
end
end L2
end

section
set_option Elab.async false
set_option linter.all false
set_option maxRecDepth 100000
namespace L2
open PySem PySem.Spec PyProof.Rows
def genR (Fin : Bool->Shared->Prop) : GenEnd:=fun _ _ r s₁=>r = .ok .next/\Fin true s₁
def genY (Ok : Shared->Prop) (Fin : Bool->Shared->Prop) : Protocol:=fun _ _ v s₁ kap=>∃ c,v = .bool c/\Ok s₁/\(c = false->Fin false s₁)/\(c = true->∀ gq,GOk s₁.gens gq->kap (.send .none) { s₁ with gens:=gq })
section
variable {Xg : Cx} {A : Around} {elt tg iter : Expr} {ifs : List Expr} {scope : Scope} {pos : Pos} {it : Addr} {J : It} {fp : List Addr} {tn : Nat->Heap->Prop} {g : TG} {tt : TT} {te : TE} {k : Nat} {σg : St} {pa : List (Addr × Obj)}
theorem seg_turn (hA : Xg.A = A.over (.compLoop (.GeneratorExp elt [⟨tg,iter,ifs,0⟩] scope pos) 0 (.ref it) .none Xg.env) []) (hxe : Xg.xe = fun _ _=>False) (hco : Xg.env.scope.isCoroutine = false) (hc : Xg.calm = true)
  (hg : PG Xg tg g) (gk : GOwn k g) (ht : PTs Xg ifs tt) (he : PE Xg elt te) (T : Turn Xg.prog Xg.w Xg.K tg J fp it tn) (hk : k <= σg.length) (hown : ∀ (j : Nat) (v : V),σg[j]? = some (some v)->k <= j)
  (fpok : ∀ H' : Hp,(∀ b ∈ fp,H' b = none)->∀ b ∈ fp,FpOk Xg pa H' b) (W : Nat->Nat->Hp->Prop) (Qt : Bool->Hp->Prop)
  (turn : ∀ i m H,W i m H->(J.stop i H/\Qt true H)\/(J.go i H/\∀ x H',J.yld i H x H'->g x σg H' fun σ2 H2=>tt σ2 H2 fun b H3=>if b = true then te σ2 H3 fun v H4=>∃ c,v = .bl c/\if c = true then ∃ m',m' < m/\W (i + 1) m' H4 else Qt false H4 else ∃ m',m' < m/\W (i + 1) m' H3)) :
  ∀ (m n : Nat),m < n->∀ (i : Nat) (H : Hp) (s s₀ : Shared),W i m H->Inv Xg pa σg H s->tn i s.heap->(∀ b ∈ fp,H b = none) ->
   Seg (model Xg.prog Xg.w) A (genR fun c s'=>∃ H',Inv Xg pa σg H' s'/\Qt c H') (genY (fun s'=>∃ H',Inv Xg pa σg H' s') fun c s'=>∃ H',Inv Xg pa σg H' s'/\Qt c H') n s₀
    (.compLoop (.GeneratorExp elt [⟨tg,iter,ifs,0⟩] scope pos) 0 (.ref it) .none Xg.env) ((model Xg.prog Xg.w).den (.compLoop (.GeneratorExp elt [⟨tg,iter,ifs,0⟩] scope pos) 0 (.ref it) .none Xg.env)) [] s:=by
 intro m
 induction m using Nat.strongRecOn with
 | _ m ih =>
  intro n hmn i H s s₀ w I st hfr
  show Seg _ A _ _ _ s₀ _ ((compTurn (.GeneratorExp elt [⟨tg,iter,ifs,0⟩] scope pos) 0 (.ref it) .none Xg.env).onRaise (leaving Xg.env)) [] s
  rw [compTurn_gen,Sem.onRaise_eq_wrap]
  refine seg_bind_wrap (wpAny_standAt ?_)
  rcases turn i m H w with ⟨stop,q⟩ | ⟨go,step⟩
  ·have d:=T.done Xg rfl rfl rfl hc i pa s σg H (fun _ _=>False) I (fpok H hfr) st stop
   rw [hA] at d
   refine seg_bind_wrap (wpAny_mono d (fun r s4 ⟨hr,I5⟩=>?_) fun _ _ z=>z.elim)
   subst hr
   exact seg_end (.ok .next) ⟨rfl,H,I5,q⟩
  ·have d:=T.item Xg rfl rfl rfl hc i pa s σg H (fun _ _=>False) I (fpok H hfr) st go
   rw [hA] at d
   refine seg_bind_wrap (wpAny_mono d (fun r s4 ⟨u,hr,h4⟩=>?_) fun _ _ z=>z.elim)
   subst hr
   refine seg_bind_wrap (wpAny_mono h4 (fun _ s5 ⟨x,H5,I5,r5,y5,st5,fr5⟩=>?_) fun _ _ z=>z.elim)
   have I5':=I5.pinned (fpok H5 fr5) (T.obj _ _ st5)
   have d2:=hg _ s5 σg H5 x u _ I5' r5 (gk _ _ _ _ hk (step x H5 y5))
   rw [hA,hxe] at d2
   refine seg_bind_wrap (wpAny_mono d2 (fun _ s6 ⟨σ6,H6,I6,q6,l6,a6⟩=>?_) fun _ _ z=>z.elim)
   have back : ∀ {H' : Hp} {s' : Shared},Inv Xg (pa ++ pinsAt fp s5.heap) σ6 H' s'->Inv Xg pa σg H' s'/\tn (i + 1) s'.heap/\∀ b ∈ fp,H' b = none:=fun {H' s'} I'=>by
    refine ⟨I'.unpinned.weak l6.symm fun j v e=>by rw [a6 j (hown j v e)];exact e,T.keep _ _ _ st5 fun b hb o e=>(I'.pin (b,o) (List.mem_append_right _ (List.mem_append_right _ (mem_pinsAt hb e)))).1,fun b hb=>?_⟩
    obtain ⟨o,e,d⟩:=T.obj _ _ st5 b hb
    exact (I'.pin (b,o) (List.mem_append_right _ (List.mem_append_right _ (mem_pinsAt hb e)))).2.1
   have d3:=ht _ s6 σ6 H6 _ I6 q6
   rw [hA,hxe] at d3
   refine seg_bind_wrap (wpAny_mono d3 (fun ok s7 ⟨H7,I7,q7⟩=>?_) fun _ _ z=>z.elim)
   cases ok with
   | false =>
    obtain ⟨m',hm,w7⟩:=q7
    obtain ⟨J1,J2,J3⟩:=back I7
    simp only [Bool.false_eq_true,if_false]
    exact seg_again rfl (ih m' hm n (by omega) (i + 1) H7 s7 s₀ w7 J1 J2 J3)
   | true =>
    simp only [if_true]
    have hy : ∀ v,yieldOut Xg.env v = yieldValue v:=fun v=>by simp only [yieldOut,hco,Bool.false_eq_true,if_false]
    simp only [hy]
    rw [Sem.bind_eq_wrap',Sem.bind_eq_wrap',Sem.wrap_wrap,Sem.wrap_wrap]
    have d4:=he _ s7 σ6 H7 _ I7 q7
    rw [hA,hxe] at d4
    refine seg_wrap (wpAny_mono d4 (fun y s8 ⟨v,H8,I8,r8,c,e8,q8⟩=>?_) fun _ _ z=>z.elim)
    subst e8
    obtain rfl : y = Value.bool c:=r8
    obtain ⟨J1,J2,J3⟩:=back I8
    obtain ⟨n',rfl⟩ : ∃ n',n = n' + 1:=⟨n - 1,by omega⟩
    refine seg_at (seg_yield rfl rfl rfl ⟨c,rfl,⟨H8,J1⟩,fun hc0=>?_,fun hc1 gq hgq=>?_⟩)
    ·subst hc0
     exact ⟨H8,J1,q8⟩
    ·subst hc1
     obtain ⟨m',hm,w8⟩:=q8
     exact seg_again rfl (ih m' hm n' (by omega) (i + 1) H8 _ _ w8 (J1.setGens hgq) J2 J3)
end
section
variable {prog : Program} {w : World} {A : Around} {a : Addr} {gi : Nat}
theorem all_loop {Ok : Shared->Prop} {Fin : Bool->Shared->Prop} (hh : A.handled = none) (hroom : A.depth < recursionLimit) (hok : ∀ s,Ok s->s.heap.NoLimit/\s.heap.IsGen a gi/\gi < s.gens.size/\AllBare s.gens)
  (hokg : ∀ s gq,Ok s->GOk s.gens gq->Ok { s with gens:=gq })
  (hfin : ∀ c s h' gq,Fin c s->GOk s.gens gq->(∀ b o,s.heap.get? b = some o->h'.get? b = some o)->Fin c { s with heap:=h',gens:=gq }) (hfo : ∀ c s,Fin c s->AllBare s.gens) :
  ∀ (n : Nat) (s : Shared) (gs : GenState),Ok s->s.gens[gi]? = some gs->gs.Goes (model prog w) A.in1.in1 (genR Fin) (genY Ok Fin) n (.send .none) (s.setGen gi .running) ->
   codeAny (model prog w) A (.builtin "all.loop" ⟨[.ref a],[]⟩) (fun r s'=>∃ c,r = .ok (.ret (.bool c))/\Fin c s') s:=by
 intro n
 induction n with
 | zero =>
  intro s gs ok hgs hgo
  obtain ⟨hl,hg,_,hb⟩:=hok s ok
  refine codeAny_builtin F.entry_all_loop ?_
  rw [Around.under_plainId F.plain_all_loop _]
  show wpAny _ A.in1 (pyNext (.ref a) >>= _) _ _ s
  refine wpAny_bind (wpAny_pyNext_genexpQ (A:=A.in1) (P:=fun _ _ s₁=>Fin true s₁) hh hl hroom hg hgs hgo (fun v s₁ gs' hbr hv=>?_) (fun s₁ hp h' hk=>?_))
  ·obtain ⟨c,rfl,ok1,f0,f1⟩:=hv
   cases c with
   | true=>exact (f1 rfl s₁.gens ⟨(hok _ ok1).2.2.2,Nat.le_refl _⟩).elim
   | false =>
    refine wpAny_bind (wpAny_holding (wpAny_truthy_bool (wpAny_bind (wpAny_letGo ?_))))
    simp only [Bool.false_eq_true,if_false]
    exact wpAny_bind (wpAny_rule (wpAny_pure ⟨false,rfl,hfin false s₁ s₁.heap _ (f0 rfl) (gok_set (hok _ ok1).2.2.2 hbr) fun _ _ e=>e⟩))
  ·exact wpAny_bind (wpAny_rule (wpAny_pure ⟨true,rfl,hfin true s₁ h' _ hp (gok_set (hfo _ _ hp) rfl) hk⟩))
 | succ n ih =>
  intro s gs ok hgs hgo
  obtain ⟨hl,hg,_,hb⟩:=hok s ok
  refine codeAny_builtin F.entry_all_loop ?_
  rw [Around.under_plainId F.plain_all_loop _]
  show wpAny _ A.in1 (pyNext (.ref a) >>= _) _ _ s
  refine wpAny_bind (wpAny_pyNext_genexpQ (A:=A.in1) (P:=fun _ _ s₁=>Fin true s₁) hh hl hroom hg hgs hgo (fun v s₁ gs' hbr hv=>?_) (fun s₁ hp h' hk=>?_))
  ·obtain ⟨c,rfl,ok1,f0,f1⟩:=hv
   cases c with
   | true =>
    refine wpAny_bind (wpAny_holding (wpAny_truthy_bool (wpAny_bind (wpAny_letGo ?_))))
    simp only [if_true]
    have g1 : GOk s₁.gens (s₁.gens.setIfInBounds gi gs'):=gok_set (hok _ ok1).2.2.2 hbr
    have g2 : (s₁.gens.setIfInBounds gi gs')[gi]? = some gs':=by
     have:=(hok _ ok1).2.2.1
     simp [this]
    refine wpAny_pure ⟨plainId_quiet F.plain_all_loop _,ih _ gs' (hokg s₁ _ ok1 g1) g2 ?_⟩
    exact f1 rfl _ (show GOk s₁.gens ((s₁.gens.setIfInBounds gi gs').setIfInBounds gi .running) from ⟨(gok_set g1.1 rfl).1,Nat.le_trans g1.2 (gok_set g1.1 rfl).2⟩)
   | false =>
    refine wpAny_bind (wpAny_holding (wpAny_truthy_bool (wpAny_bind (wpAny_letGo ?_))))
    simp only [Bool.false_eq_true,if_false]
    exact wpAny_bind (wpAny_rule (wpAny_pure ⟨false,rfl,hfin false s₁ s₁.heap _ (f0 rfl) (gok_set (hok _ ok1).2.2.2 hbr) fun _ _ e=>e⟩))
  ·exact wpAny_bind (wpAny_rule (wpAny_pure ⟨true,rfl,hfin true s₁ h' _ hp (gok_set (hfo _ _ hp) rfl) hk⟩))
end
def BltMod (mg : Str->Option Value) (base : Heap) : Prop := ∃ bm ob,mg "__builtins__" = some (.ref bm)/\bm ≠ builtinsNs/\base.get? bm = some ob/\ob.cls = .type "module"/\ob.dict = some builtinsNs/\ob.data = .plain
section
variable {X : Cx}
def AllG (J : It) (g : TG) (tt : TT) (te : TE) (σc : St) (Q : VK) (H1 : Hp) : Prop := ∃ W : Nat->Nat->Hp->Prop,(∃ m,W 0 m H1)/\∀ i m H,W i m H ->
 (J.stop i H/\Q (.bl true) H) \/
 (J.go i H/\∀ x H',J.yld i H x H'->g x σc H' fun σ2 H2=>tt σ2 H2 fun b H3=>if b = true then te σ2 H3 fun v H4=>∃ c,v = .bl c/\if c = true then ∃ m',m' < m/\W (i + 1) m' H4 else Q (.bl false) H4 else ∃ m',m' < m/\W (i + 1) m' H3)
def tAllGen (P : Addr) (k : Nat) (js : List Nat) (wi : TI) (g : TG) (tt : TT) (te : TE) : TE:=fun σ H Q=>wi σ H fun J H1=>(∃ ps,TabAt H1 P ps)/\∀ ps',TabAt (upd H1 P (.tbl ps')) P ps'->AllG J g tt te (compSt k js σ) Q (upd H1 P (.tbl ps'))
theorem pe_allgen {elt tg iter : Expr} {ifs : List Expr} {scope : Scope} {p pos gpos : Pos} {Nc : List Str} {kk k : Nat} {js : List Nat} {wi : TI} {g : TG} {tt : TT} {te : TE} {c P : Addr} (hr : Room kk X.A) (hc : X.calm = true) (hcode : X.env.code = .ref c) (hd : PySem.W.CodeHd X.base c P) (hbm : BltMod X.mg X.base)
  (hgl : Gl X "all") (hm : X.mg "all" = none) (S : GenScope X.env scope)
  (hjs : (Nc.drop k).map some = js.map (X.N[·]?)) (hfr : ∀ x ∈ Nc.drop k,scope.names.lookup x = some .free) (hk : k <= Nc.length) (hi : PI X tg iter wi)
  (hg : ∀ C code it s H ex,PG (genCx X scope Nc C code (.GeneratorExp elt [⟨tg,iter,ifs,0⟩] scope gpos) it s H ex) tg g) (gk : GOwn k g) (ht : ∀ C code it s H ex,PTs (genCx X scope Nc C code (.GeneratorExp elt [⟨tg,iter,ifs,0⟩] scope gpos) it s H ex) ifs tt)
  (he : ∀ C code it s H ex,PE (genCx X scope Nc C code (.GeneratorExp elt [⟨tg,iter,ifs,0⟩] scope gpos) it s H ex) elt te)
  (hs : ∀ x,genFold iter X.env x = pure x:=by intro _;rfl) :
  PE X (.Call (.Name "all" p) [.GeneratorExp elt [⟨tg,iter,ifs,0⟩] scope gpos] [] pos) (tAllGen P k js wi g tt te):=by
 intro pins s σ H Q I h
 refine wpAny_Call_Name_kw (ld_blt I hgl hm boot_all ?_ (by decide) (by decide))
 refine PyProof.Rows.callWith_builtin1 (Q:=EP X pins σ Q) (Calls.spliced_cons (wpAny_GeneratorExp_make S.co (closure_of fun y hy e=>I.ok.has y.1 (S.free y hy e)) S.cell S.zero S.kind hr.depth ?_ hs)) rfl rfl
 refine thn (hi pins s σ H _ I h) fun v s1 h1=>thn h1 fun itv s2 h2=>?_
 obtain ⟨it,fp,tn,J,H2,e,I2,T,st2,f2,⟨ps,tb⟩,rest⟩:=h2
 subst e
 refine ⟨I2.nolimit,gen_code I2 hcode hd tb fun code s3 more I3 tr g3 o3 z3 x3=>?_⟩
 obtain ⟨bm,ob,b1,b2,b3,b4,b5,b6⟩:=hbm
 refine wpAny_builtinsFor (globals:=X.env.globals) (by rw [I3.ok.glob];exact I3.mod.glob.keeps I3.bk) b1 b2 (I3.bk _ _ b3) b4 b5 b6 ?_
 intro h4 hn4 hs4
 obtain ⟨W,⟨m0,w0⟩,turn⟩:=rest (ps ++ more) ⟨upd_same,tr⟩
 have neP : ∀ b ∈ fp,b ≠ P:=fun b hb z=>by
  have:=(f2 b hb).1
  rw [z,tb.1] at this
  cases this
 have f3 : ∀ b ∈ fp,FpOk X pins (upd H2 P (.tbl (ps ++ more))) b:=fun b hb=>⟨by rw [upd_ne (neP b hb)];exact (f2 b hb).1,(f2 b hb).2⟩
 have st3 : tn 0 s3.heap:=T.keep _ _ _ st2 fun b hb o e=>x3 b o (neP b hb) e
 have lt3 : ∀ b ∈ fp,b < s3.heap.objs.size:=fun b hb=>by
  obtain ⟨o,e,_⟩:=T.obj 0 _ st3 b hb
  exact Heap.lt_size e
 have keep4 : ∀ b o,s3.heap.get? b = some o->h4.get? b = some o:=fun b o e=>hs4.extBut b o (Nat.ne_of_lt (Heap.lt_size e)) (Heap.get?_push_of_some _ e)
 have sz4 : h4.objs.size = s3.heap.objs.size + 1:=by rw [hs4.1,Heap.size_push]
 generalize eG : s3.gens.push (.fresh (.compStart (.GeneratorExp elt [⟨tg,iter,ifs,0⟩] scope gpos) 0 (.ref it) .none (genEnv scope (clOf X.env scope.names) s3.heap.objs.size code builtinsNs X.env))) = gens5
 have gok5 : GOk s3.gens gens5:=by
  rw [<- eG]
  exact ⟨I3.bare.1.push rfl,by simp⟩
 have I3' : Inv X pins σ (upd H2 P (.tbl (ps ++ more))) { s3 with gens:=gens5 }:=I3.setGens gok5
 generalize eO : ({ cls:=.type "generator",data:=.fields #[.int s3.gens.size 0,.str "<genexpr>" (s3.toks + 1),.str (X.env.qual ++ "<genexpr>") (s3.toks + 1 + 1)] } : Obj) = gobj
 have keep5 : ∀ b o,h4.get? b = some o->(h4.push gobj).get? b = some o:=fun b o e=>Heap.get?_push_of_some _ e
 have I5 : Inv (genCx X scope Nc s3.heap.objs.size code (.GeneratorExp elt [⟨tg,iter,ifs,0⟩] scope gpos) it { s3 with gens:=gens5 } (upd H2 P (.tbl (ps ++ more))) fp) [] (compSt k js σ) (upd H2 P (.tbl (ps ++ more)))
   { s3 with gens:=gens5,toks:=s3.toks + 1 + 1 + 1,heap:=h4.push gobj } :=
  inv_gen (s:={ s3 with gens:=gens5 }) (s4:={ s3 with gens:=gens5,toks:=s3.toks + 1 + 1 + 1,heap:=h4.push gobj }) I3' hc S hjs hfr hk f3 lt3 (Nat.le_refl _) (hn4.push _) (fun b o e=>keep5 b o (keep4 b o e)) rfl ⟨gok5.1,Nat.le_refl _⟩
 have aC : h4.objs.size ≠ s3.heap.objs.size:=by omega
 have aS : s3.heap.objs.size <= h4.objs.size:=by omega
 have aF : h4.objs.size ∉ frs X.stack:=fun z=>by
  rcases List.mem_cons.mp (I3.stkSub _ z) with z | z
  ·have l:=I3.lt
   rw [<- z] at l
   exact absurd (Nat.lt_of_lt_of_le l aS) (Nat.lt_irrefl _)
  ·exact I3.nofs aS z
 have aH : (upd H2 P (.tbl (ps ++ more))) h4.objs.size = none:=I3.hok.fresh aS
 have I6 : Inv (genCx X scope Nc s3.heap.objs.size code (.GeneratorExp elt [⟨tg,iter,ifs,0⟩] scope gpos) it { s3 with gens:=gens5 } (upd H2 P (.tbl (ps ++ more))) fp) [(h4.objs.size,gobj)] (compSt k js σ) (upd H2 P (.tbl (ps ++ more)))
   { s3 with gens:=gens5,toks:=s3.toks + 1 + 1 + 1,heap:=h4.push gobj }:=I5.pins_of fun q hq=>by
  have e : q = (h4.objs.size,gobj):=by simpa using hq
  subst e
  refine ⟨Heap.get?_push_size _ (by rw [<- eO];rfl),aH,aC,aF,fun v z=>?_⟩
  rw [<- eO] at z
  cases z
 have afp : ∀ b ∈ fp,h4.objs.size ≠ b:=fun b hb z=>by have:=lt3 b hb;rw [<- z] at this;exact absurd (Nat.lt_of_lt_of_le this aS) (Nat.lt_irrefl _)
 have frz : ∀ y ∈ scope.names,y.2 = .free->∃ c,X.env.cells.lookup y.1 = some c:=fun y hy e=>I2.ok.has y.1 (S.free y hy e)
 have fpok : ∀ H' : Hp,(∀ b ∈ fp,H' b = none)->∀ b ∈ fp,FpOk (genCx X scope Nc s3.heap.objs.size code (.GeneratorExp elt [⟨tg,iter,ifs,0⟩] scope gpos) it { s3 with gens:=gens5 } (upd H2 P (.tbl (ps ++ more))) fp) [(h4.objs.size,gobj)] H' b:=fun H' hn b hb=>by
  refine ⟨hn b hb,Nat.ne_of_lt (lt3 b hb),fun z=>?_,.inl hb,fun x c e=>(f2 b hb).2.2.2.2.1 x c (clOf_sub frz e),fun q hq=>?_⟩
  ·rcases List.mem_cons.mp (I2.stkSub b z) with z | z
   ·exact (f2 b hb).2.1 z
   ·exact (f2 b hb).2.2.1 z
  ·have e : q = (h4.objs.size,gobj):=by simpa using hq
   subst e
   exact afp b hb
 have lenS : k <= (compSt k js σ).length:=by rw [compSt_len];omega
 have own : ∀ (j : Nat) (v : V),(compSt k js σ)[j]? = some (some v)->k <= j:=fun j v e=>by
  obtain ⟨t,j',rfl,_⟩:=comp_get e
  omega
 have seg:=seg_turn (Xg:=genCx X scope Nc s3.heap.objs.size code (.GeneratorExp elt [⟨tg,iter,ifs,0⟩] scope gpos) it { s3 with gens:=gens5 } (upd H2 P (.tbl (ps ++ more))) fp) (A:=X.A.in1.in1) rfl rfl S.co rfl (hg _ _ _ _ _ _) gk (ht _ _ _ _ _ _) (he _ _ _ _ _ _) T lenS own fpok W (fun c H'=>Q (.bl c) H') turn
 have hh : X.A.handled = none:=I.ok.hd hc
 refine Calls.spliced_nil (call_function_tree F.kind_all F.plain_all F.entry_all (F.args_all1 _) ?_)
 unfold Builtin.«all»
 refine wpAny_bind (m:=oneArg "all" _) (wpAny_pure ?_)
 have hIsGen : (h4.push gobj).IsGen h4.objs.size s3.gens.size:=⟨gobj,_,_,Heap.get?_push_size _ (by rw [<- eO];rfl),by rw [<- eO],by rw [<- eO],by rw [<- eO]⟩
 refine wpAny_bind (wpAny_pyIter_gen hIsGen ?_)
 refine wpAny_pure ⟨plainId_quiet F.plain_all_loop _,?_⟩
 have g5lt : s3.gens.size < gens5.size:=by rw [<- eG];simp
 refine codeAny_mono (all_loop (gi:=s3.gens.size) (Ok:=fun s'=>∃ H',Inv (genCx X scope Nc s3.heap.objs.size code (.GeneratorExp elt [⟨tg,iter,ifs,0⟩] scope gpos) it { s3 with gens:=gens5 } (upd H2 P (.tbl (ps ++ more))) fp) [(h4.objs.size,gobj)] (compSt k js σ) H' s')
  (Fin:=fun c s'=>∃ H',Inv (genCx X scope Nc s3.heap.objs.size code (.GeneratorExp elt [⟨tg,iter,ifs,0⟩] scope gpos) it { s3 with gens:=gens5 } (upd H2 P (.tbl (ps ++ more))) fp) [(h4.objs.size,gobj)] (compSt k js σ) H' s'/\Q (.bl c) H') hh hr.depth ?_ ?_ ?_ ?_ (m0 + 1) _
   (.fresh (.compStart (.GeneratorExp elt [⟨tg,iter,ifs,0⟩] scope gpos) 0 (.ref it) .none (genEnv scope (clOf X.env scope.names) s3.heap.objs.size code builtinsNs X.env))) ⟨_,I6⟩ ?_ ⟨rfl,?_⟩) ?_
 ·rintro s' ⟨H',I'⟩
  obtain ⟨p1,_⟩:=I'.pin (h4.objs.size,gobj) (by simp)
  exact ⟨I'.nolimit,⟨gobj,_,_,p1,by rw [<- eO],by rw [<- eO],by rw [<- eO]⟩,Nat.lt_of_lt_of_le g5lt I'.bare.2,I'.bare.1⟩
 ·rintro s' gq ⟨H',I'⟩ hq
  exact ⟨H',I'.setGens hq⟩
 ·rintro c' s' h' gq ⟨H',I',q'⟩ hq hk'
  exact ⟨H',(I'.kept (t':=s'.toks) hk').setGens hq,q'⟩
 ·rintro c' s' ⟨H',I',_⟩
  exact I'.bare.1
 ·rw [<- eG]
  exact Array.getElem?_push_size ..
 ·
  have gset : GOk gens5 (gens5.setIfInBounds s3.gens.size .running):=gok_set gok5.1 rfl
  have I7:=I6.setGens (g':=gens5.setIfInBounds s3.gens.size .running) gset
  have loop:=seg m0 (m0 + 1) (Nat.lt_succ_self _) 0 (upd H2 P (.tbl (ps ++ more))) _ ({ s3 with gens:=gens5,toks:=s3.toks + 1 + 1 + 1,heap:=h4.push gobj }.setGen s3.gens.size .running) w0 I7 (T.keep _ _ _ st3 fun b _ o e=>keep5 b o (keep4 b o e)) fun b hb=>(f3 b hb).1
  show Seg _ X.A.in1.in1 _ _ _ _ _ ((compStart (.GeneratorExp elt [⟨tg,iter,ifs,0⟩] scope gpos) 0 (.ref it) .none (genEnv scope (clOf X.env scope.names) s3.heap.objs.size code builtinsNs X.env)).onRaise (leaving _)) [] _
  unfold compStart
  rw [Sem.onRaise_eq_wrap]
  show Seg _ X.A.in1.in1 _ _ _ _ _ ((ask >>= _).wrap _ _ _ _) [] _
  refine seg_bind_wrap (wpAny_askSetting ?_)
  have self : ∀ (A' : Around) (Q' : Value->Shared->Prop) (E' : Value->Shared->Prop) (s' : Shared),tn 0 s'.heap->Q' (.ref it) s'->wpAny (model X.prog X.w) A' (pyIter (.ref it)) Q' E' s':=fun A' Q' E' s' st q=>T.self A' 0 s' Q' E' st q
  split
  ·exact seg_again rfl loop
  ·first
    | exact seg_bind_wrap (wpAny_rule (seg_bind_wrap (wpAny_standAt (seg_bind_wrap (self _ _ _ _ (T.keep _ _ _ st3 fun b _ o e=>keep5 b o (keep4 b o e)) (seg_again rfl loop))))))
    | (refine seg_bind_wrap (wpAny_rule ?_);show Seg _ X.A.in1.in1 _ _ _ _ _ ((standAt iter.pos >>= _).wrap _ _ _ _) [] _;exact seg_bind_wrap (wpAny_standAt (seg_bind_wrap (self _ _ _ _ (T.keep _ _ _ st3 fun b _ o e=>keep5 b o (keep4 b o e)) (seg_again rfl loop)))))
 ·rintro r s' ⟨c',rfl,H',I',q'⟩
  have hu : Un (frs X.stack) fp (upd H2 P (.tbl (ps ++ more))) H' s3.heap s'.heap:=I'.base
  exact ⟨.bl c',H',I3'.call' I'.os hu I'.hok I'.bare fun b hb=>⟨(f3 b hb).2.2.2.1,(f3 b hb).2.1,(f3 b hb).2.2.2.2.1,(f3 b hb).2.2.2.2.2⟩,rfl,q'⟩
end
end L2
end

section
set_option Elab.async false
set_option linter.all false
set_option maxRecDepth 100000
namespace L2
open PySem PySem.Spec PyProof.Rows
mutual
def IsD (ex : List Addr) (H : Hp) : PyData->V->Prop
 | .none,v=>v = .non
 | .bool b,v=>v = .bl b
 | .int i,v=>v = .int i
 | .str x,v=>v = .str x
 | .tuple ds,v=>∃ a vs,v = .ref a/\a ∉ ex/\H a = some (.tup vs)/\IsDs ex H ds vs
 | .list ds,v=>∃ a vs,v = .ref a/\a ∉ ex/\H a = some (.lst vs)/\IsDs ex H ds vs
 | .dict _,_=>False
def IsDs (ex : List Addr) (H : Hp) : List PyData->List V->Prop
 | [],vs=>vs = []
 | d :: ds,vs=>∃ v r,vs = v :: r/\IsD ex H d v/\IsDs ex H ds r
end
structure Ext (ex : List Addr) (H H' : Hp) : Prop where
 old : ∀ b o,b ∉ ex->H b = some o->(∀ ps,o ≠ .tbl ps)->H' b = some o
 tab : ∀ b ps,b ∉ ex->H b = some (.tbl ps)->∃ ps',H' b = some (.tbl ps')/\(TriplesOk ps.toList->TriplesOk ps'.toList)
theorem Ext.refl {ex : List Addr} {H : Hp} : Ext ex H H:=⟨fun _ _ _ h _=>h,fun _ ps _ h=>⟨ps,h,id⟩⟩
theorem Ext.trans {ex : List Addr} {H H1 H2 : Hp} (a : Ext ex H H1) (b : Ext ex H1 H2) : Ext ex H H2 :=
 ⟨fun c o hc h n=>b.old c o hc (a.old c o hc h n) n,fun c ps hc h=>by
  obtain ⟨p1,h1,t1⟩:=a.tab c ps hc h
  obtain ⟨p2,h2,t2⟩:=b.tab c p1 hc h1
  exact ⟨p2,h2,fun z=>t2 (t1 z)⟩⟩
theorem Ext.mono {ex ex' : List Addr} {H H' : Hp} (a : Ext ex H H') (h : ∀ b ∈ ex,b ∈ ex') : Ext ex' H H':=⟨fun c o hc=>a.old c o fun z=>hc (h c z),fun c ps hc=>a.tab c ps fun z=>hc (h c z)⟩
theorem Ext.free {ex : List Addr} {H H' : Hp} (a : Ext ex H H') {l : Addr} (hx : l ∉ ex) (h : H' l = none) : H l = none:=by
 cases q : H l with
 | none=>rfl
 | some o =>
  cases o with
  | tbl ps =>
   obtain ⟨p',h',_⟩:=a.tab l ps hx q
   rw [h] at h';cases h'
  | _=>rw [a.old l _ hx q (by intro ps z;cases z)] at h;cases h
theorem Ext.new {ex : List Addr} {H : Hp} {p : Addr} (h : H p = none) (o : HO) : Ext ex H (upd H p o) :=
 ⟨fun b u _ q _=>by rw [upd_ne (ne_of_none q h)];exact q,fun b ps _ q=>⟨ps,by rw [upd_ne (ne_of_none q h)];exact q,id⟩⟩
theorem Ext.put {ex : List Addr} {H : Hp} {p : Addr} (h : p ∈ ex) (o : HO) : Ext ex H (upd H p o) :=
 ⟨fun b u hb q _=>by rw [upd_ne (fun z : b = p=>hb (z ▸ h))];exact q,fun b ps hb q=>⟨ps,by rw [upd_ne (fun z : b = p=>hb (z ▸ h))];exact q,id⟩⟩
theorem Ext.tbl {ex : List Addr} {H : Hp} {p : Addr} {ps ps' : Array Value} (h : H p = some (.tbl ps)) (t : TriplesOk ps'.toList) : Ext ex H (upd H p (.tbl ps')):=by
 refine ⟨fun b u _ q n=>?_,fun b qs _ q=>?_⟩
 ·rw [upd_ne]
  ·exact q
  ·rintro rfl
   rw [h] at q
   exact n ps (Option.some.inj q).symm
 ·by_cases hb : b = p
  ·subst hb
   exact ⟨ps',upd_same,fun _=>t⟩
  ·exact ⟨qs,by rw [upd_ne hb];exact q,id⟩
theorem Ext.lst {ex : List Addr} {H H' : Hp} (a : Ext ex H H') {p : Addr} {xs : List V} (hp : p ∉ ex) (h : H p = some (.lst xs)) : H' p = some (.lst xs):=a.old p _ hp h (by intro ps z;cases z)
theorem Ext.tup {ex : List Addr} {H H' : Hp} (a : Ext ex H H') {p : Addr} {xs : List V} (hp : p ∉ ex) (h : H p = some (.tup xs)) : H' p = some (.tup xs):=a.old p _ hp h (by intro ps z;cases z)
theorem Ext.sql {K : PySem.W.Frag} {ex : List Addr} {H H' : Hp} (a : Ext ex H H') {p : Addr} {xs : List V} (hp : p ∉ ex) (h : SqL K H p xs) : SqL K H' p xs:=by
 rcases h with (h | ⟨o,h⟩) | h
 ·exact .inl (.inl (a.lst hp h))
 ·exact .inl (.inr ⟨o,a.old p _ hp h (by intro ps z;cases z)⟩)
 ·exact .inr h
def Tb (ts : List Addr) (H : Hp) : Prop := ∀ P ∈ ts,∃ ps,TabAt H P ps
theorem Ext.tb {ex ts : List Addr} {H H' : Hp} (a : Ext ex H H') (h : Tb ts H) (hx : ∀ P ∈ ts,P ∉ ex) : Tb ts H':=fun P hP=>by
 obtain ⟨ps,h1,h2⟩:=h P hP
 obtain ⟨ps',q1,q2⟩:=a.tab P ps (hx P hP) h1
 exact ⟨ps',q1,q2 h2⟩
mutual
theorem IsD.ext {ex : List Addr} {H H' : Hp} (e : Ext ex H H') : ∀ {d : PyData} {v : V},IsD ex H d v->IsD ex H' d v
 | .none,_,h=>h
 | .bool _,_,h=>h
 | .int _,_,h=>h
 | .str _,_,h=>h
 | .tuple ds,v,h=>by
  obtain ⟨a,vs,h1,h2,h3,h4⟩:=h
  exact ⟨a,vs,h1,h2,e.tup h2 h3,IsDs.ext e h4⟩
 | .list ds,v,h=>by
  obtain ⟨a,vs,h1,h2,h3,h4⟩:=h
  exact ⟨a,vs,h1,h2,e.lst h2 h3,IsDs.ext e h4⟩
 | .dict _,_,h=>h.elim
theorem IsDs.ext {ex : List Addr} {H H' : Hp} (e : Ext ex H H') : ∀ {ds : List PyData} {vs : List V},IsDs ex H ds vs->IsDs ex H' ds vs
 | [],_,h=>h
 | d :: ds,vs,h=>by
  obtain ⟨v,r,h1,h2,h3⟩:=h
  exact ⟨v,r,h1,IsD.ext e h2,IsDs.ext e h3⟩
end
mutual
theorem IsD.less {ex ex' : List Addr} {H : Hp} (e : ∀ b ∈ ex',b ∈ ex) : ∀ {d : PyData} {v : V},IsD ex H d v->IsD ex' H d v
 | .none,_,h=>h
 | .bool _,_,h=>h
 | .int _,_,h=>h
 | .str _,_,h=>h
 | .tuple ds,v,h=>by
  obtain ⟨a,vs,h1,h2,h3,h4⟩:=h
  exact ⟨a,vs,h1,fun z=>h2 (e a z),h3,IsDs.less e h4⟩
 | .list ds,v,h=>by
  obtain ⟨a,vs,h1,h2,h3,h4⟩:=h
  exact ⟨a,vs,h1,fun z=>h2 (e a z),h3,IsDs.less e h4⟩
 | .dict _,_,h=>h.elim
theorem IsDs.less {ex ex' : List Addr} {H : Hp} (e : ∀ b ∈ ex',b ∈ ex) : ∀ {ds : List PyData} {vs : List V},IsDs ex H ds vs->IsDs ex' H ds vs
 | [],_,h=>h
 | d :: ds,vs,h=>by
  obtain ⟨v,r,h1,h2,h3⟩:=h
  exact ⟨v,r,h1,IsD.less e h2,IsDs.less e h3⟩
end
theorem IsDs.get {ex : List Addr} {H : Hp} : ∀ {ds : List PyData} {vs : List V} {i : Nat} {d : PyData},IsDs ex H ds vs->ds[i]? = some d->∃ v,vs[i]? = some v/\IsD ex H d v
 | [],_,_,_,_,e=>by simp at e
 | d :: ds,vs,0,d',h,e=>by
  obtain ⟨v,r,rfl,h2,h3⟩:=h
  simp at e
  subst e
  exact ⟨v,rfl,h2⟩
 | d :: ds,vs,i + 1,d',h,e=>by
  obtain ⟨v,r,rfl,h2,h3⟩:=h
  obtain ⟨w,h4,h5⟩:=IsDs.get (i:=i) h3 (by simpa using e)
  exact ⟨w,by simpa using h4,h5⟩
theorem IsDs.length {ex : List Addr} {H : Hp} : ∀ {ds : List PyData} {vs : List V},IsDs ex H ds vs->vs.length = ds.length
 | [],_,h=>by cases h;rfl
 | d :: ds,vs,h=>by
  obtain ⟨v,r,rfl,h2,h3⟩:=h
  simp [IsDs.length h3]
theorem IsDs.append {ex : List Addr} {H : Hp} : ∀ {ds es : List PyData} {vs ws : List V},IsDs ex H ds vs->IsDs ex H es ws->IsDs ex H (ds ++ es) (vs ++ ws)
 | [],_,_,_,h,h'=>by cases h;exact h'
 | d :: ds,es,vs,ws,h,h'=>by
  obtain ⟨v,r,rfl,h2,h3⟩:=h
  exact ⟨v,r ++ ws,rfl,h2,IsDs.append h3 h'⟩
theorem IsDs.take {ex : List Addr} {H : Hp} : ∀ {ds : List PyData} {vs : List V} (n : Nat),IsDs ex H ds vs->IsDs ex H (ds.take n) (vs.take n)
 | [],_,n,h=>by cases h;simp [IsDs]
 | d :: ds,vs,0,h=>by simp [IsDs]
 | d :: ds,vs,n + 1,h=>by
  obtain ⟨v,r,rfl,h2,h3⟩:=h
  exact ⟨v,r.take n,rfl,h2,IsDs.take n h3⟩
theorem IsDs.drop {ex : List Addr} {H : Hp} : ∀ {ds : List PyData} {vs : List V} (n : Nat),IsDs ex H ds vs->IsDs ex H (ds.drop n) (vs.drop n)
 | [],_,n,h=>by cases h;simp [IsDs]
 | d :: ds,vs,0,h=>h
 | d :: ds,vs,n + 1,h=>by
  obtain ⟨v,r,rfl,h2,h3⟩:=h
  exact IsDs.drop n h3
theorem IsDs.strs {ex : List Addr} {H : Hp} : ∀ (xs : List Str),IsDs ex H (xs.map .str) (xs.map .str)
 | []=>rfl
 | x :: xs=>⟨_,_,rfl,rfl,IsDs.strs xs⟩
theorem IsDs.strs_of {ex : List Addr} {H : Hp} : ∀ {xs : List Str} {vs : List V},IsDs ex H (xs.map .str) vs->vs = xs.map .str
 | [],_,h=>h
 | x :: xs,vs,h=>by
  obtain ⟨v,r,rfl,h2,h3⟩:=h
  rw [IsDs.strs_of h3,show v = V.str x from h2]
  rfl
theorem IsDs.ints_of {ex : List Addr} {H : Hp} : ∀ {xs : List Int} {vs : List V},IsDs ex H (xs.map .int) vs->vs = xs.map .int
 | [],_,h=>h
 | x :: xs,vs,h=>by
  obtain ⟨v,r,rfl,h2,h3⟩:=h
  rw [IsDs.ints_of h3,show v = V.int x from h2]
  rfl
theorem IsDs.ints {ex : List Addr} {H : Hp} : ∀ (xs : List Int),IsDs ex H (xs.map .int) (xs.map .int)
 | []=>rfl
 | x :: xs=>⟨_,_,rfl,rfl,IsDs.ints xs⟩
section
variable {X : Cx} {pins : List (Addr × Obj)} {σ : St} {H : Hp} {s : Shared} {ex : List Addr}
mutual
theorem IsD.reads (I : Inv X pins σ H s) : ∀ {d : PyData} {v : V} {u : Value},IsD ex H d v->RelV v u->∃ as,Reads s.heap u d as
 | .none,_,_,h,r=>by cases h;cases r;exact ⟨_,.none⟩
 | .bool b,_,_,h,r=>by cases h;cases r;exact ⟨_,.bool b⟩
 | .int i,_,_,h,r=>by cases h;obtain ⟨t,rfl⟩:=r;exact ⟨_,.int i t⟩
 | .str x,_,_,h,r=>by cases h;obtain ⟨t,rfl⟩:=r;exact ⟨_,.str x t⟩
 | .tuple ds,v,u,h,r=>by
  obtain ⟨a,vs,rfl,_,h3,h4⟩:=h
  cases r
  obtain ⟨_,its,rv,ob,e1,e2,n,e3⟩ : vs.length <= sizeLine/\∃ its : List Value,Vals vs its/\IsTup s.heap a its.toArray:=I.hok a _ h3
  obtain ⟨as,q⟩:=IsDs.reads I h4 rv
  exact ⟨as,reads_tuple_at e1 e2 e3 (by simpa using q)⟩
 | .list ds,v,u,h,r=>by
  obtain ⟨a,vs,rfl,_,h3,h4⟩:=h
  cases r
  obtain ⟨_,its,n,rv,e1⟩ : vs.length <= sizeLine/\∃ (its : List Value) (n : Nat),Vals vs its/\s.heap.get? a = some { cls:=.type "list",data:=.seq its.toArray n }:=I.hok a _ h3
  obtain ⟨as,q⟩:=IsDs.reads I h4 rv
  exact ⟨_,reads_list_at e1 rfl rfl (by simpa using q)⟩
 | .dict _,_,_,h,_=>h.elim
theorem IsDs.reads (I : Inv X pins σ H s) : ∀ {ds : List PyData} {vs : List V} {us : List Value},IsDs ex H ds vs->Vals vs us->∃ as,ReadsAll s.heap us ds as
 | [],_,_,h,r=>by cases h;cases r;exact ⟨_,.nil⟩
 | d :: ds,vs,us,h,r=>by
  obtain ⟨v,rs,rfl,h2,h3⟩:=h
  cases r with
  | cons r1 r2 =>
   obtain ⟨as,q1⟩:=IsD.reads I h2 r1
   obtain ⟨bs,q2⟩:=IsDs.reads I h3 r2
   exact ⟨_,.cons q1 q2⟩
end
end
section
variable {X : Cx}
open SeqAt (shaped)
def rEqD : R2:=fun x y H Q=>∃ dx dy,IsD [] H dx x/\IsD [] H dy y/\shaped dx = true/\shaped dy = true/\Q (.bl (PyData.eqv dx dy)) H
def rNeD : R2:=fun x y H Q=>∃ dx dy,IsD [] H dx x/\IsD [] H dy y/\shaped dx = true/\shaped dy = true/\Q (.bl (!PyData.eqv dx dy)) H
theorem op_eqD (hu : X.A.units + 64 < cLine) : OpR X (compareOp .Eq) rEqD:=by
 intro pins s σ H x y v u Q I rx ry h
 obtain ⟨dx,dy,h1,h2,s1,s2,q⟩:=h
 obtain ⟨as,r1⟩:=h1.reads I rx
 obtain ⟨bs,r2⟩:=h2.reads I ry
 exact eq_dataH r1 r2 s1 s2 hu ⟨.bl _,H,I,rfl,q⟩
theorem op_neD (hu : X.A.units + 64 < cLine) : OpR X (compareOp .NotEq) rNeD:=by
 intro pins s σ H x y v u Q I rx ry h
 obtain ⟨dx,dy,h1,h2,s1,s2,q⟩:=h
 obtain ⟨as,r1⟩:=h1.reads I rx
 obtain ⟨bs,r2⟩:=h2.reads I ry
 exact ne_dataH r1 r2 s1 s2 hu ⟨.bl _,H,I,rfl,q⟩
theorem op_isB : OpR X (compareOp .Is) (fun x y H Q=>∃ b c,x = .bl b/\y = .bl c/\Q (.bl (b == c)) H):=by
 intro pins s σ H x y v u Q I rx ry h
 obtain ⟨b,c,rfl,rfl,q⟩:=h
 cases rx
 cases ry
 exact is_bool ⟨.bl _,H,I,rfl,q⟩
def rIsi (K : PySem.W.Frag) : List V->Hp->VK->Prop:=fun vs H Q=>∃ x T t b,vs = [x,.ty T]/\TyOf K H x t/\PySem.W.kitOne K t (.type T) = some b/\Q (.bl b) H
theorem call_isi : CallR X (.builtin "isinstance") (rIsi X.K):=by
 intro pins s σ H xs us Q I r h
 obtain ⟨x,T,t,b,rfl,ty,e,q⟩:=h
 obtain ⟨u1,u2,rfl,r1,r2⟩:=r.two
 cases r2
 exact isinst_ok I r1 ty e fun tk=>⟨.bl b,H,I.tok tk,rfl,q⟩
def rSlS : V->Option Int->Option Int->Hp->VK->Prop:=fun x lo hi H Q=>∃ z,x = .str z/\z.length <= sizeLine/\Q (.str (Txt.slice z lo hi)) H
theorem sl_str : SlR X rSlS:=by
 intro pins s σ H x v vl vu lo hi sl Q I rx hs pl pu h
 obtain ⟨z,rfl,hz,q⟩:=h
 obtain ⟨t,rfl⟩:=rx
 have fin : ∀ t' k,EP X pins σ Q (.str (Txt.slice z lo hi) t') { s with toks:=k }:=fun t' k=>⟨.str _,H,I.tok k,⟨_,rfl⟩,q⟩
 cases pl with
 | none =>
  cases pu with
  | none=>exact ⟨"str",_,F.slot_str_getitem.lookup,typeIs_str _ _ _,wpAny_getItem_str_slice (l:=none) (u:=none) (st:=none) hs rfl (post_val_or_str ⟨Nat.le_trans (Txt.slice_le z _ _) hz,fin⟩)⟩
  | int j t'=>exact ⟨"str",_,F.slot_str_getitem.lookup,typeIs_str _ _ _,wpAny_getItem_str_slice (l:=none) (u:=some (j,t')) (st:=none) hs rfl (post_val_or_str ⟨Nat.le_trans (Txt.slice_le z _ _) hz,fin⟩)⟩
 | int i t'' =>
  cases pu with
  | none=>exact ⟨"str",_,F.slot_str_getitem.lookup,typeIs_str _ _ _,wpAny_getItem_str_slice (l:=some (i,t'')) (u:=none) (st:=none) hs rfl (post_val_or_str ⟨Nat.le_trans (Txt.slice_le z _ _) hz,fin⟩)⟩
  | int j t'=>exact ⟨"str",_,F.slot_str_getitem.lookup,typeIs_str _ _ _,wpAny_getItem_str_slice (l:=some (i,t'')) (u:=some (j,t')) (st:=none) hs rfl (post_val_or_str ⟨Nat.le_trans (Txt.slice_le z _ _) hz,fin⟩)⟩
theorem strs_of : ∀ {ys : List Str} {us : List Value},Vals (ys.map V.str) us->StrsAre us ys
 | [],_,.nil=>.nil
 | y :: ys,_,.cons ⟨t,e⟩ r=>by subst e;exact .cons y t (strs_of r)
def rJoin (K : PySem.W.Frag) : V->List V->Hp->VK->Prop:=fun x vs H Q=>∃ z a ys,x = .str z/\vs = [.ref a]/\SqL K H a (ys.map V.str)/\(ys.map (·.length)).sum + ys.length * z.length <= 16777216/\Q (.str (Txt.join z ys)) H
theorem mt_join : MtR X "str.join" (rJoin X.K):=by
 intro pins s σ H x vs v us Q I rx rv h
 obtain ⟨z,a,ys,rfl,rfl,hq,hl,q⟩:=h
 obtain ⟨t,rfl⟩:=rx
 obtain ⟨u,rfl,ru⟩:=rv.one
 cases ru
 obtain ⟨its,r,pl,_⟩:=I.list hq
 exact join_list pl.isList (by simpa using strs_of r) hl fun t' k=>⟨.str _,H,I.tok k,⟨_,rfl⟩,q⟩
end
end L2
end

section
set_option Elab.async false
set_option linter.all false
set_option maxRecDepth 100000
namespace L2
open PySem PySem.Spec PyProof.Rows
def OnlyT (tabs : List Addr) (H : Hp) : Prop:=(∀ b,H b = none\/(∃ o xs,H b = some (.frz o (.lst xs)))\/(b ∈ tabs/\H b = some (.tbl #[])))/\∀ b ∈ tabs,H b = some (.tbl #[])
theorem law_callT {P : Program} {w : World} {K : PySem.W.Frag} {mg mb : Str->Option Value} {CX : CXT} {k : Nat} {fa a : Addr} {fd : FuncData} {x : Str} {sp : Sp} {s₁ : Shared} {vs : List Value} {ns : List Int} {tabs : List Addr}
  (KX : K.In s₁.heap) (hns : s₁.heap.Ns mainGlobals mg) (hb : s₁.heap.Ns builtinsNs mb) (hbb : ∀ x : Str,x ≠ "__name__"->mb x = bootBuiltins x) (hlim : s₁.heap.NoLimit) (hg : s₁.gens = #[]) (hbm : BltMod mg s₁.heap)
  (htab : ∀ p ∈ tabs,s₁.heap.get? p = some (PySem.W.tabObj #[])/\isCodeTable s₁.heap p/\K.lookup p = none)
  (ha : s₁.heap.get? a = some { cls:=.type "list",data:=.seq vs.toArray }) (hi : IntsAre vs ns) (hl : ns.length <= sizeLine) (hr : Room k callerA)
  (F : ∀ base : Heap,K.In base->base.Ns mainGlobals mg->BltMod mg base->FnOk P w K mg base CX k fa fd [x] sp) (hbind : ∀ (s : Shared) (u : Value),BindsTo s fd ⟨[u],[]⟩ [(x,u)])
  (hsp : ∀ H : Hp,OnlyT tabs H->SqL K H a (ns.map V.int)->sp [.ref a] H (fun v _=>v = .bl true) fun _ _ _=>False)
  (hCX : ∀ H e s',CX [] H s₁ (fun _ _ _=>False) e s'->False) :
  codeAny (model P w) callerA (.call (.ref fa) ⟨[.ref a],[]⟩) (fun r s'=>r = .ok (.ret (.bool true))/\OldK s₁.heap s'.heap/\s'.os = s₁.os/\AllBare s'.gens) s₁:=by
 have rv:=vals_ints hi
 have lenV:=hi.length
 have anT : a ∉ tabs:=fun z=>by
  have e:=(htab a z).1
  rw [ha] at e
  cases e
 have core : ∀ H : Hp,OnlyT tabs H->SqL K H a (ns.map V.int)->HOk P w H s₁.heap->(∀ b,H b ≠ none->b = a\/b ∈ tabs)->(H a ≠ none->K.lookup a = none) ->
   codeAny (model P w) callerA (.call (.ref fa) ⟨[.ref a],[]⟩) (fun r s'=>r = .ok (.ret (.bool true))/\OldK s₁.heap s'.heap/\s'.os = s₁.os/\AllBare s'.gens) s₁:=by
  intro H hO hS hok hA hK
  have base_of : ∀ {b : Addr} {o : Obj},s₁.heap.get? b = some o->H b = none->(hidT s₁.heap H).get? b = some o:=fun e n=>hidT_get e n
  have noT : ∀ {b : Addr} {o : Obj},s₁.heap.get? b = some o->(∀ (vs : Array Value) n,o.data ≠ .seq vs n)->(∀ vs : Array Value,o.data ≠ .fields vs)->H b = none:=fun {b o} e d1 d2=>by
   cases q : H b with
   | none=>rfl
   | some u =>
    rcases hA b (by rw [q];simp) with e' | e'
    ·subst e'
     rw [ha] at e;cases e
     exact absurd rfl (d1 _ _)
    ·rw [(htab b e').1] at e;cases e
     exact absurd rfl (d2 _)
  have nsK : ∀ {b : Addr} {m : Str->Option Value},s₁.heap.Ns b m->(hidT s₁.heap H).Ns b m:=fun {b m} ⟨o,es,ep,e,d,r⟩=>⟨o,es,ep,base_of e (noT e (by intro _ _ z;rw [d] at z;cases z) (by intro _ z;rw [d] at z;cases z)),d,r⟩
  have hKb : K.In (hidT s₁.heap H):=fun b o e=>base_of (KX b o e) (by
   cases q : H b with
   | none=>rfl
   | some u =>
    rcases hA b (by rw [q];simp) with e' | e'
    ·subst e'
     rw [hK (by rw [q];simp)] at e;cases e
    ·rw [(htab b e').2.2] at e;cases e)
  have hM : Mod K mg (hidT s₁.heap H):=⟨hKb,nsK hns,⟨mb,nsK hb,hbb⟩,let ⟨mc,h1,h2⟩:=hlim;⟨mc,nsK h1,h2⟩⟩
  have hB : BltMod mg (hidT s₁.heap H):=by
   obtain ⟨bm,ob,b1,b2,b3,b4,b5,b6⟩:=hbm
   exact ⟨bm,ob,b1,b2,base_of b3 (noT b3 (by intro _ _ z;rw [b6] at z;cases z) (by intro _ z;rw [b6] at z;cases z)),b4,b5,b6⟩
  have e0 : Env0 P w K mg (hidT s₁.heap H) callerA [] s₁ H:=⟨rfl,hM,fun b o e=>of_hidT e,Nat.le_of_eq (hidT_size _ _),trivial,fun b hb=>absurd (show b ∈ ([] : List Addr) from hb) (by simp),hok,.of_eq hg⟩
  refine codeAny_mono ((F _ hKb (nsK hns) hB).run callerA [] s₁ H ⟨[.ref a],[]⟩ [.ref a] [.ref a] _ _ hr e0 (hbind s₁ (.ref a)) (.cons rfl .nil) (hsp H hO hS)) fun r s' h=>?_
  cases r with
  | error e=>exact (hCX H e s' h).elim
  | ok fl =>
   cases fl with
   | next=>exact False.elim h
   | brk=>exact False.elim h
   | cont=>exact False.elim h
   | ret u =>
    obtain ⟨v,H',os,bare,un,hok',r',q⟩:=h
    have q' : v = .bl true:=q
    subst q'
    obtain rfl : u = Value.bool true:=r'
    have no : ∀ b : Addr,b ∉ frs []:=fun b z=>absurd (show b ∈ ([] : List Addr) from z) (by simp)
    refine ⟨rfl,⟨fun b o e=>?_,fun b o e=>un.there b o e (by simp)⟩,os,bare.1⟩
    rcases hO.1 b with z | ⟨ob,xs,z⟩ | ⟨zt,z⟩
    ·exact .inl (un.keep b o e z (no b) (by simp))
    ·have z2:=un.frzs b ob _ z
     obtain ⟨e1,_⟩:=hok b _ z
     obtain ⟨e2,_⟩:=hok' b _ z2
     rw [e] at e1;cases e1
     exact .inl e2
    ·obtain ⟨more,z2⟩:=un.tbls b _ z
     have e2 : s'.heap.get? b = some { cls:=.none,data:=.fields (#[] ++ more) }:=hok' b _ z2
     have e1:=(htab b zt).1
     rw [e] at e1;cases e1
     exact .inr (.inl ⟨(htab b zt).2.1,rfl,#[],more,rfl,e2⟩)
 have tabOk : ∀ b ∈ tabs,s₁.heap.get? b = some { cls:=.none,data:=.fields #[] }:=fun b hb=>(htab b hb).1
 cases hk : K.lookup a with
 | some o =>
  have e:=KX a o hk
  rw [ha] at e
  cases e
  refine core (fun b=>if b ∈ tabs then some (.tbl #[]) else none) ⟨fun b=>?_,fun b hb=>if_pos hb⟩ (.inr ⟨_,vs.toArray,_,hk,rfl,rfl,rfl,by rw [List.size_toArray,lenV];exact hl,by simpa using rv⟩) (fun b u z=>?_) (fun b z=>?_) (fun z=>absurd (if_neg anT) z)
  ·by_cases hb : b ∈ tabs
   ·exact .inr (.inr ⟨hb,if_pos hb⟩)
   ·exact .inl (if_neg hb)
  ·by_cases hb : b ∈ tabs
   ·have z':=(if_pos hb).symm.trans z
    cases z'
    exact tabOk b hb
   ·have z':=(if_neg hb).symm.trans z
    cases z'
  ·by_cases hb : b ∈ tabs
   ·exact .inr hb
   ·exact absurd (if_neg hb) z
 | none =>
  refine core (fun b=>if b = a then some (.frz { cls:=.type "list",data:=.seq vs.toArray } (.lst (ns.map V.int))) else if b ∈ tabs then some (.tbl #[]) else none) ⟨fun b=>?_,fun b hb=>?_⟩ (.inl (.inr ⟨{ cls:=.type "list",data:=.seq vs.toArray },if_pos rfl⟩)) (fun b u z=>?_) (fun b z=>?_) fun _=>hk
  ·by_cases hb : b = a
   ·exact .inr (.inl ⟨_,_,if_pos hb⟩)
   ·by_cases hb' : b ∈ tabs
    ·exact .inr (.inr ⟨hb',(if_neg hb).trans (if_pos hb')⟩)
    ·exact .inl ((if_neg hb).trans (if_neg hb'))
  ·have hne : b ≠ a:=fun z=>anT (z ▸ hb)
   exact (if_neg hne).trans (if_pos hb)
  ·by_cases hb : b = a
   ·have z':=(if_pos hb).symm.trans z
    cases z'
    subst hb
    exact ⟨ha,by rw [List.length_map];exact hl,vs,_,rv,ha⟩
   ·have z1 : (if b ∈ tabs then some (HO.tbl #[]) else none) = some u:=(if_neg hb).symm.trans z
    by_cases hb' : b ∈ tabs
    ·have z':=(if_pos hb').symm.trans z1
     cases z'
     exact tabOk b hb'
    ·have z':=(if_neg hb').symm.trans z1
     cases z'
  ·by_cases hb : b = a
   ·exact .inl hb
   ·by_cases hb' : b ∈ tabs
    ·exact .inr hb'
    ·exact absurd ((if_neg hb).trans (if_neg hb')) z
def tabsOf (K : PySem.W.Frag) (gn : List Str) : List Addr:=gn.filterMap fun x=>(PySem.W.tabIn K x).map (·.2)
theorem walk_ofT {l : PySem.W.OpenLaw} {n k : Nat} {q : Program} {loose : List Str} {XP : (Str->Option Value)->Heap->Prop} {YP : World->Heap->Prop} {d : DefRec} {K : Params->PySem.W.Frag} {CX : World->CXT} {sp : World->Sp} {x : Str} (gn : List Str)
  (hn : l.most = some n) (hn2 : n <= sizeLine) (hdf : d.params.defaults = []) (hr : Room k callerA)
  (hY : ∀ (w : World) (h : Heap),YP w h->(K w.params).In h)
  (hgn : ∀ y ∈ gn,((recsOf q).find? (fun e=>e.name == y)).isSome = true)
  (hT : ∀ (w : World) (h : Heap),(K w.params).In h->∀ y ∈ gn,∀ c P,PySem.W.tabIn (K w.params) y = some (c,P)->(K w.params).lookup P = none)
  (F : ∀ (w : World) (mg : Str->Option Value) (fa : Addr) (h : Heap),(K w.params).In h->h.Ns mainGlobals mg->mg d.name = some (.ref fa) ->
   ∃ fd : FuncData,(∀ (s : Shared) (u : Value),BindsTo s fd ⟨[u],[]⟩ [(x,u)]) /\
    ∀ base : Heap,(K w.params).In base->base.Ns mainGlobals mg->BltMod mg base->FnOk l.prog w (K w.params) mg base (CX w) k fa fd [x] (sp w))
  (hsp : ∀ (w : World) (H : Hp) (a : Addr) (ns : List Int),ns.length <= n->OnlyT (tabsOf (K w.params) gn) H->SqL (K w.params) H a (ns.map V.int)->sp w [.ref a] H (fun v _=>v = .bl true) fun _ _ _=>False)
  (hCX : ∀ (w : World) (H : Hp) (s : Shared) (e : Value) (s' : Shared),CX w [] H s (fun _ _ _=>False) e s'->False) :
  PySem.W.WalkO q loose XP YP l.row.toRowW d [] (fun f vs=>PySem.call f vs):=by
 refine Att.attach_call hn hdf fun w s₀ s₁ mg mb fa o pm cd doc a vs ns G Y ho hd hcd hmg hobj hints hlen hg=>?_
 have KX:=hY w _ Y
 obtain ⟨fd,hb,hF⟩:=F w mg fa _ KX G.T.g hmg
 refine law_callT (tabs:=tabsOf (K w.params) gn) KX G.T.g G.T.b G.T.builtins G.T.nolimit hg G.T.bmain (fun p hp=>?_) hobj hints (Nat.le_trans hlen hn2) hr hF hb (fun H hO hS=>hsp w H a ns hlen hO hS) fun H e s'=>hCX w H s₁ e s'
 obtain ⟨y,hy,e⟩:=List.mem_filterMap.mp hp
 cases et : PySem.W.tabIn (K w.params) y with
 | none=>rw [et] at e;cases e
 | some cP =>
  obtain ⟨c,P⟩:=cP
  rw [et] at e
  have e' : P = p:=Option.some.inj e
  subst e'
  obtain ⟨d',hd'⟩:=Option.isSome_iff_exists.mp (hgn y hy)
  obtain ⟨t1,t2⟩:=PySem.W.tab_of G.T KX hd' et
  exact ⟨t2,(t1.tab t2).isCodeTable,hT w _ KX y hy c P et⟩
end L2
end

section
set_option Elab.async false
set_option linter.all false
set_option maxRecDepth 100000
namespace L2
open PySem PySem.Spec PyProof.Rows
def Its (z : Str) : It:=⟨fun i _=>i < z.cps.size,fun i H x H'=>H' = H/\∃ c,z.cps[i]? = some c/\x = .str ⟨#[c]⟩,fun i _=>i = z.cps.size⟩
theorem turn_str {P : Program} {w : World} {K : PySem.W.Frag} {tg : Expr} (it : Addr) (z : Str) (t : Tok) (ty : String)
  (hty : ["enumerate","zip","dict_itemiterator","dict_reverseitemiterator","odict_iterator","itertools.zip_longest","itertools.pairwise"].contains ty = false)
  (W : ∀ A : Around,A.handled = none->Walks P w A it [it] [it] z.cps.size (SignAt z) (fun i h=>h.IsStrIter it ty z t i))
  (self : ∀ (A : Around) (i : Nat) (s : Shared) (Q : Value->Shared->Prop) (E : Value->Shared->Prop),s.heap.IsStrIter it ty z t i->Q (.ref it) s->wpAny (model P w) A (pyIter (.ref it)) Q E s) :
  Turn P w K tg (Its z) [it] it (fun i h=>h.IsStrIter it ty z t i) where
 mem:=by simp
 obj:=fun i h st b hb=>by
  have e : b = it:=by simpa using hb
  subst e
  obtain ⟨o,e,c,d⟩:=st
  exact ⟨o,e,fun v z=>by rw [d] at z;cases z⟩
 keep:=fun i h h' st k=>let ⟨o,ho,r⟩:=st;⟨o,k it (by simp) o ho,r⟩
 item:=by
  intro X hP hw hK hc i pins s σ H E I hf st hg
  subst hP hw hK
  obtain ⟨f0,f1,f2,f3,f4,f5⟩:=hf it (by simp)
  refine (W X.A (I.ok.hd hc)).item i s _ _ hg st fun v h' tk hv st' kk=>?_
  obtain ⟨c,u,hc',rfl⟩:=hv
  have I1 : Inv X pins σ H { s with heap:=h',toks:=tk }:=I.turned (fun b o hb e=>kk b o (by simpa using hb) e) f0 f1 f3 f4 f5
  obtain ⟨o,e,oc,d⟩:=id st'
  exact ⟨_,rfl,go_of (s:={ s with heap:=h',toks:=tk }) e oc d hty ⟨.str ⟨#[c]⟩,H,I1,⟨_,rfl⟩,⟨rfl,c,hc',rfl⟩,st',fun b hb=>(hf b hb).1⟩⟩
 done:=by
  intro X hP hw hK hc i pins s σ H E I hf st hg
  subst hP hw hK
  obtain ⟨f0,f1,f2,f3,f4,f5⟩:=hf it (by simp)
  obtain rfl : i = z.cps.size:=hg
  exact (W X.A (I.ok.hd hc)).done s _ _ st fun h' tk kk=>⟨rfl,I.turned (fun b o hb e=>kk b o (by simpa using hb) e) f0 f1 f3 f4 f5⟩
 self:=fun A i s Q E st h=>self A i s Q E st h
section
variable {X : Cx} {tg : Expr}
def iStr (tl : TE) : TI:=fun σ H R=>tl σ H fun x H1=>∃ z,x = .str z/\R (Its z) H1
theorem pi_str {l : Expr} {tl : TE} (hl : PE X l tl) : PI X tg l (iStr tl):=by
 intro pins s σ H R I h
 refine thn (hl pins s σ H _ I h) fun v s1 ⟨x,H1,I1,r1,q1⟩=>?_
 obtain ⟨z,e,q⟩:=q1
 subst e
 obtain ⟨t,rfl⟩:=r1
 have fin : ∀ (ty : String) (T : Turn X.prog X.w X.K tg (Its z) [s1.heap.objs.size] s1.heap.objs.size (fun i h=>h.IsStrIter s1.heap.objs.size ty z t i)),
   PIE X pins σ tg R (.ref s1.heap.objs.size) { s1 with heap:=s1.heap.push { cls:=.type ty,data:=.fields #[.str z t,.int 0 0] } }:=fun ty T=>by
  refine ⟨s1.heap.objs.size,[s1.heap.objs.size],_,_,H1,rfl,I1.kept (t':=s1.toks) fun b o e=>Heap.get?_push_of_some _ e,T,⟨_,Heap.get?_push_size _ rfl,rfl,rfl⟩,fun b hb=>?_,q⟩
  have e : b = s1.heap.objs.size:=by simpa using hb
  subst e
  exact I1.fpOk (Nat.le_refl _) (I1.hok.fresh (Nat.le_refl _))
 cases ha : z.cps.all (· < 128)
 ·exact wpAny_pyIter_wide ha (fin _ (turn_str _ z t _ (by decide) (fun A hA=>Walks.strWide hA _ z t) fun A i s Q E st h=>wpAny_pyIter_striter_wide st h))
 ·exact wpAny_pyIter_ascii ha (fin _ (turn_str _ z t _ (by decide) (fun A hA=>Walks.strAscii hA _ z t) fun A i s Q E st h=>wpAny_pyIter_striter_ascii st h))
end
structure Yields (J : It) (ok : Hp->Prop) (ys : List V) : Prop where
 go : ∀ i H,ok H->i < ys.length->J.go i H
 stop : ∀ H,ok H->J.stop ys.length H
 yld : ∀ i H x H',ok H->i < ys.length->J.yld i H x H'->H' = H/\ys[i]? = some x
theorem yields_range {lo : Int} {n : Nat} : Yields (Itr lo n) (fun _=>True) ((List.range n).map fun i=>V.int (lo + (i : Nat))) where
 go:=fun i H _ hi=>by show i < n;simpa using hi
 stop:=fun H _=>by show n <= _;simp
 yld:=fun i H x H' _ hi ⟨e,y⟩=>⟨e,by
  have hi' : i < n:=by simpa using hi
  subst y
  simp [hi']⟩
theorem yields_list {K : PySem.W.Frag} {a : Addr} {ys : List V} : Yields (Itl K a) (fun H=>SqL K H a ys) ys where
 go:=fun i H h hi=>⟨ys,ys[i],h,by simp [hi]⟩
 stop:=fun H h=>⟨ys,h,Nat.le_refl _⟩
 yld:=fun i H x H' h hi ⟨e,y⟩=>⟨e,y ys h⟩
theorem yields_tup {K : PySem.W.Frag} {a : Addr} {ys : List V} : Yields (Itt K a) (fun H=>SqT K H a ys) ys where
 go:=fun i H h hi=>⟨ys,ys[i],h,by simp [hi]⟩
 stop:=fun H h=>⟨ys,h,Nat.le_refl _⟩
 yld:=fun i H x H' h hi ⟨e,y⟩=>⟨e,y ys h⟩
def sgV (z : Str) : List V:=z.cps.toList.map fun c=>V.str ⟨#[c]⟩
theorem yields_str {z : Str} : Yields (Its z) (fun _=>True) (sgV z) where
 go:=fun i H _ hi=>by show i < z.cps.size;simpa [sgV] using hi
 stop:=fun H _=>by show _ = z.cps.size;simp [sgV]
 yld:=fun i H x H' _ hi ⟨e,c,hc,y⟩=>⟨e,by
  subst y
  have hc' : z.cps.toList[i]? = some c:=by simpa using hc
  simp only [sgV,List.getElem?_map,hc',Option.map_some]⟩
def Nx (n i : Nat) (p : Prop) : Prop := ∃ m',m' < n - i/\m' = n - (i + 1)/\i + 1 <= n/\p
theorem nx {n i : Nat} {p : Prop} (h : i < n) (q : p) : Nx n i p:=⟨n - (i + 1),by omega,rfl,h,q⟩
theorem lcomp_by {J : It} {ok : Hp->Prop} {ys : List V} {g : TG} {tt : TT} {te : TE} {σc : St} {H : Hp} {Q : VK} (Y : Yields J ok ys) (Pv : Nat->List V->Hp->Prop) (h0 : Pv 0 [] H) (hok : ∀ i xs H,Pv i xs H->ok H)
  (step : ∀ i x xs H,ys[i]? = some x->i < ys.length->Pv i xs H->g x σc H fun σ2 H2=>tt σ2 H2 fun b H3=>if b = true then te σ2 H3 fun v H4=>xs.length < sizeLine/\Nx ys.length i (Pv (i + 1) (xs ++ [v]) H4) else Nx ys.length i (Pv (i + 1) xs H3))
  (fin : ∀ xs H,Pv ys.length xs H->∀ p,H p = none->Q (.ref p) (upd H p (.lst xs))) :
  LComp J g tt te σc Q H:=by
 refine ⟨fun i m xs H=>m = ys.length - i/\i <= ys.length/\Pv i xs H,⟨ys.length,by simp,Nat.zero_le _,h0⟩,?_⟩
 rintro i m xs H ⟨rfl,hi,p⟩
 have o:=hok i xs H p
 by_cases hlt : i < ys.length
 ·refine .inr ⟨Y.go i H o hlt,fun x H' y=>?_⟩
  obtain ⟨e,hx⟩:=Y.yld i H x H' o hlt y
  subst e
  exact step i x xs _ hx hlt p
 ·have e : i = ys.length:=by omega
  subst e
  exact .inl ⟨Y.stop H o,fin xs H p⟩
theorem allgen_by {J : It} {ok : Hp->Prop} {ys : List V} {g : TG} {tt : TT} {te : TE} {σc : St} {H : Hp} {Q : VK} (Y : Yields J ok ys) (Pv : Nat->Hp->Prop) (h0 : Pv 0 H) (hok : ∀ i H,Pv i H->ok H)
  (step : ∀ i x H,ys[i]? = some x->i < ys.length->Pv i H->g x σc H fun σ2 H2=>tt σ2 H2 fun b H3=>if b = true then te σ2 H3 fun v H4=>∃ c,v = .bl c/\if c = true then Nx ys.length i (Pv (i + 1) H4) else Q (.bl false) H4 else Nx ys.length i (Pv (i + 1) H3))
  (fin : ∀ H,Pv ys.length H->Q (.bl true) H) :
  AllG J g tt te σc Q H:=by
 refine ⟨fun i m H=>m = ys.length - i/\i <= ys.length/\Pv i H,⟨ys.length,by simp,Nat.zero_le _,h0⟩,?_⟩
 rintro i m H ⟨rfl,hi,p⟩
 have o:=hok i H p
 by_cases hlt : i < ys.length
 ·refine .inr ⟨Y.go i H o hlt,fun x H' y=>?_⟩
  obtain ⟨e,hx⟩:=Y.yld i H x H' o hlt y
  subst e
  exact step i x _ hx hlt p
 ·have e : i = ys.length:=by omega
  subst e
  exact .inl ⟨Y.stop H o,fin H p⟩
theorem lcomp_by0 {J : It} {ok : Hp->Prop} {ys : List V} {g : TG} {te : TE} {σc : St} {H : Hp} {Q : VK} (Y : Yields J ok ys) (Pv : Nat->List V->Hp->Prop) (h0 : Pv 0 [] H) (hok : ∀ i xs H,Pv i xs H->ok H)
  (step : ∀ i x xs H,ys[i]? = some x->i < ys.length->Pv i xs H->g x σc H fun σ2 H2=>te σ2 H2 fun v H4=>xs.length < sizeLine/\Nx ys.length i (Pv (i + 1) (xs ++ [v]) H4))
  (fin : ∀ xs H,Pv ys.length xs H->∀ p,H p = none->Q (.ref p) (upd H p (.lst xs))) : LComp J g tYes te σc Q H:=by
 refine lcomp_by Y Pv h0 hok (fun i x xs H hx hi p=>?_) fin
 have e : (fun (σ2 : St) (H2 : Hp)=>tYes σ2 H2 fun b H3=>if b = true then te σ2 H3 fun v H4=>xs.length < sizeLine/\Nx ys.length i (Pv (i + 1) (xs ++ [v]) H4) else Nx ys.length i (Pv (i + 1) xs H3)) =
   fun σ2 H2=>te σ2 H2 fun v H4=>xs.length < sizeLine/\Nx ys.length i (Pv (i + 1) (xs ++ [v]) H4):=by
  funext σ2 H2
  unfold tYes
  dsimp only
  rw [if_pos rfl]
 rw [e]
 exact step i x xs H hx hi p
theorem allgen_by0 {J : It} {ok : Hp->Prop} {ys : List V} {g : TG} {te : TE} {σc : St} {H : Hp} {Q : VK} (Y : Yields J ok ys) (Pv : Nat->Hp->Prop) (h0 : Pv 0 H) (hok : ∀ i H,Pv i H->ok H)
  (step : ∀ i x H,ys[i]? = some x->i < ys.length->Pv i H->g x σc H fun σ2 H2=>te σ2 H2 fun v H4=>∃ c,v = .bl c/\if c = true then Nx ys.length i (Pv (i + 1) H4) else Q (.bl false) H4)
  (fin : ∀ H,Pv ys.length H->Q (.bl true) H) : AllG J g tYes te σc Q H:=by
 refine allgen_by Y Pv h0 hok (fun i x H hx hi p=>?_) fin
 have e : (fun (σ2 : St) (H2 : Hp)=>tYes σ2 H2 fun b H3=>if b = true then te σ2 H3 fun v H4=>∃ c,v = .bl c/\if c = true then Nx ys.length i (Pv (i + 1) H4) else Q (.bl false) H4 else Nx ys.length i (Pv (i + 1) H3)) =
   fun σ2 H2=>te σ2 H2 fun v H4=>∃ c,v = .bl c/\if c = true then Nx ys.length i (Pv (i + 1) H4) else Q (.bl false) H4:=by
  funext σ2 H2
  unfold tYes
  dsimp only
  rw [if_pos rfl]
 rw [e]
 exact step i x H hx hi p
structure FunC (K : PySem.W.Frag) (x qual : Str) (st : Stmt) (f : Addr) (fd : FuncData) (c : Addr) : Prop where
 ex : ∃ (oc : Value) (od : Option Addr) (kV doc pm : Value) (an : Option Addr) (ct : Value) (osl : Array (Option Value)),
  fd = PySem.W.fnOf x qual (defArgs st) (defBody st) (defScope st) .none kV doc pm an (.ref c) ct/\K.lookup f = some ⟨oc,od,.func fd,osl⟩/\PySem.W.codeIn K (.ref c) qual = true
 kp : PySem.W.keepIn K (.ref f) = true
section
variable {P : Program} {w : World} {K : PySem.W.Frag} {mg : Str->Option Value} {base : Heap}
theorem FunC.fn {x qual : Str} {st : Stmt} {f : Addr} {fd : FuncData} {c : Addr} (F : FunC K x qual st f fd c) : Fun K x qual st f fd:=by
 obtain ⟨oc,od,kV,doc,pm,an,ct,osl,h⟩:=F.ex
 exact ⟨⟨oc,od,kV,doc,pm,an,.ref c,ct,osl,h⟩,F.kp⟩
theorem FunC.ok {x qual : Str} {st : Stmt} {f : Addr} {fd : FuncData} {c : Addr} {N ps : List Str} {k : Nat} {sp : Sp} (F : FunC K x qual st f fd c) (S : FnScope N ps (defScope st)) (len : ∀ vs H Q E,sp vs H Q E->vs.length = ps.length)
  (hbody : ∀ (A : Around) (outer : List Env) (s : Shared) (H : Hp) (vs : List V) (Q : VK) (E : XK),Room k (A.deeper (envOfC qual (defScope st) s.heap.objs.size f (.ref c)))->sp vs H Q E ->
   ∃ t,PSs (cxOf CX0 P w K mg base N qual (defScope st) f (.ref c) A outer s H E).nox (defBody st) t/\t { nx:=fun _ H'=>Q .non H',rt:=Q } (start N vs) H) : FnOk P w K mg base CX0 (k + 1) f fd ps sp:=by
 obtain ⟨oc,od,kV,doc,pm,an,ct,osl,rfl,lk,hcd⟩:=F.ex
 refine fn_of lk hcd S len fun A outer s H vs Q E hr hsp=>?_
 obtain ⟨t,h,q⟩:=hbody A outer s H vs Q E hr hsp
 exact ⟨t,h.nox,q⟩
end
end L2
end

section
set_option Elab.async false
set_option linter.all false
set_option maxRecDepth 100000
namespace L2
open PySem PySem.Spec PyProof.Rows
def CallOk (P : Program) (w : World) (K : PySem.W.Frag) (mg : Str->Option Value) (base : Heap) (x : Str) (k : Nat) (ps : List Str) (sp : Sp) : Prop :=
 ∃ f fd,FnOk P w K mg base CX0 k f fd ps sp/\mg x = some (.ref f)/\PySem.W.keepIn K (.ref f) = true/\Binds K fd ps []
section
variable {X : Cx} {x : Str} {k j : Nat} {ps : List Str} {sp : Sp} {e : Expr} {es : List Expr} {p pos : Pos} {t : TA}
theorem pe_cl (C : CallOk X.prog X.w X.K X.mg X.base x k ps sp) (hr : Room j X.A) (ha : PA X (e :: es) t) (hg : Gl X x:=by rfl) (hj : k <= j:=by decide) (hdb : (x == ("__debug__" : Str)) = false:=by decide)
  (he : starEach (e :: es) X.env = (false,eval e X.env) :: starEach es X.env:=by rfl) (hpl : (backTo pos (starEach es X.env)).any (·.1) = false:=by rfl) :
  PE X (.Call (.Name x p) (e :: es) [] pos) (tCall sp [] E0 t):=by
 obtain ⟨f,fd,F,hm,hk,hb⟩:=C
 exact pe_call F (hr.mono hj) hg hm hk hb .nil pass0 ha hdb he hpl
theorem pe_gl {v : V} (h : ∃ u,X.mg x = some u/\RelV v u) (hg : Gl X x:=by rfl) (hd : (x == ("__debug__" : Str)) = false:=by decide) : PE X (.Name x pos) (tC v):=by
 obtain ⟨u,hm,r⟩:=h
 exact pe_glob hg hm r hd
end
def plainE : Expr->Bool
 | .Starred _ _=>false
 | _=>true
theorem star_cons : ∀ (e : Expr) (rest : List Expr) (env : Env),plainE e = true->starEach (e :: rest) env = (false,eval e env) :: starEach rest env:=by
 intro e rest env h
 cases e <;> first | rfl | (cases h)
theorem pa_c {X : Cx} {e : Expr} {es : List Expr} {te : TE} {t : TA} (ha : PE X e te) (hr : PA X es t) (h : plainE e = true:=by rfl) : PA X (e :: es) (tCons te t):=pa_cons ha hr (star_cons e es X.env h)
theorem ixAt {N : List Str} {x : Str} (n : Nat) (h : N[n]? = some x:=by rfl) : N[n]? = some x:=h
theorem compN {N : List Str} (Nc : List Str) (k : Nat) (js : List Nat) (h : (Nc.drop k).map some = js.map (N[·]?):=by rfl) : (Nc.drop k).map some = js.map (N[·]?):=h
theorem boot_tstr : bootBuiltins ("str" : Str) = some (.type "str"):=by decide +kernel
theorem boot_tint : bootBuiltins ("int" : Str) = some (.type "int"):=by decide +kernel
theorem boot_tbool : bootBuiltins ("bool" : Str) = some (.type "bool"):=by decide +kernel
theorem boot_ttuple : bootBuiltins ("tuple" : Str) = some (.type "tuple"):=by decide +kernel
theorem boot_tlist : bootBuiltins ("list" : Str) = some (.type "list"):=by decide +kernel
theorem boot_isi : bootBuiltins ("isinstance" : Str) = some (.builtin "isinstance"):=by decide +kernel
theorem boot_bmin : bootBuiltins ("min" : Str) = some (.builtin "min"):=by decide +kernel
def tyD : PyData->String
 | .none=>"NoneType"
 | .bool _=>"bool"
 | .int _=>"int"
 | .str _=>"str"
 | .tuple _=>"tuple"
 | .list _=>"list"
 | .dict _=>"dict"
theorem IsD.ty {K : PySem.W.Frag} {ex : List Addr} {H : Hp} : ∀ {d : PyData} {v : V},IsD ex H d v->TyOf K H v (.type (tyD d))
 | .none,_,h=>by cases h;exact .non
 | .bool b,_,h=>by cases h;exact .bl b
 | .int i,_,h=>by cases h;exact .int i
 | .str x,_,h=>by cases h;exact .str x
 | .tuple ds,_,h=>by obtain ⟨a,vs,rfl,_,h3,_⟩:=h;exact .tup h3
 | .list ds,_,h=>by obtain ⟨a,vs,rfl,_,h3,_⟩:=h;exact .lst h3
 | .dict _,_,h=>h.elim
def isiD (T : String) : PyData->Bool
 | .bool _=>T == "bool" || T == "int"
 | d=>tyD d == T
theorem kit_str {K : PySem.W.Frag} : ∀ d : PyData,PySem.W.kitOne K (.type (tyD d)) (.type "str") = some (isiD "str" d)
 | .none=>rfl | .bool _=>rfl | .int _=>rfl | .str _=>rfl | .tuple _=>rfl | .list _=>rfl | .dict _=>rfl
theorem kit_int {K : PySem.W.Frag} : ∀ d : PyData,PySem.W.kitOne K (.type (tyD d)) (.type "int") = some (isiD "int" d)
 | .none=>rfl | .bool _=>rfl | .int _=>rfl | .str _=>rfl | .tuple _=>rfl | .list _=>rfl | .dict _=>rfl
theorem kit_bool {K : PySem.W.Frag} : ∀ d : PyData,PySem.W.kitOne K (.type (tyD d)) (.type "bool") = some (isiD "bool" d)
 | .none=>rfl | .bool _=>rfl | .int _=>rfl | .str _=>rfl | .tuple _=>rfl | .list _=>rfl | .dict _=>rfl
theorem kit_tuple {K : PySem.W.Frag} : ∀ d : PyData,PySem.W.kitOne K (.type (tyD d)) (.type "tuple") = some (isiD "tuple" d)
 | .none=>rfl | .bool _=>rfl | .int _=>rfl | .str _=>rfl | .tuple _=>rfl | .list _=>rfl | .dict _=>rfl
end L2
end

section
set_option Elab.async false
set_option linter.all false
set_option maxRecDepth 100000
namespace L2
open PySem PySem.Spec PyProof.Rows
theorem snoc_ind {P : List Str->Prop} (h0 : P []) (hs : ∀ l y,P l->P (l ++ [y])) (l : List Str) : P l:=by
 have q : ∀ r : List Str,P r.reverse:=fun r=>by
  induction r with
  | nil=>exact h0
  | cons a r ih=>rw [List.reverse_cons];exact hs _ _ ih
 have:=q l.reverse
 rwa [List.reverse_reverse] at this
def dfold (ks : List Str) : List Str:=ks.foldl (fun acc k=>if k ∈ acc then acc else acc ++ [k]) []
def dcount (ks : List Str) : Nat:=(dfold ks).length
theorem dfold_snoc (ks : List Str) (z : Str) : dfold (ks ++ [z]) = if z ∈ dfold ks then dfold ks else dfold ks ++ [z]:=by
 unfold dfold
 rw [List.foldl_append]
 rfl
theorem dfold_mem {z : Str} : ∀ ks : List Str,z ∈ dfold ks ↔ z ∈ ks:=by
 refine snoc_ind Iff.rfl fun ks y ih=>?_
 ·rw [dfold_snoc]
  split
  ·rename_i h
   rw [ih,List.mem_append,List.mem_singleton]
   constructor
   ·exact .inl
   ·rintro (h' | rfl)
    ·exact h'
    ·exact ih.mp h
  ·rw [List.mem_append,List.mem_append,ih]
theorem dcount_snoc (ks : List Str) (z : Str) : dcount (ks ++ [z]) = if z ∈ ks then dcount ks else dcount ks + 1:=by
 unfold dcount
 rw [dfold_snoc]
 by_cases h : z ∈ ks
 ·rw [if_pos ((dfold_mem ks).mpr h),if_pos h]
 ·rw [if_neg (fun q=>h ((dfold_mem ks).mp q)),if_neg h,List.length_append,List.length_singleton]
theorem dcount_le : ∀ ks : List Str,dcount ks <= ks.length:=by
 refine snoc_ind (Nat.le_refl _) fun ks y ih=>?_
 ·rw [dcount_snoc,List.length_append,List.length_singleton]
  split <;> omega
theorem dcount_nodup : ∀ ks : List Str,dcount ks = ks.length ↔ ks.Nodup:=by
 refine snoc_ind ⟨fun _=>List.nodup_nil,fun _=>rfl⟩ fun ks y ih=>?_
 ·have hl:=dcount_le ks
  rw [dcount_snoc,List.length_append,List.length_singleton,List.nodup_append]
  split
  ·rename_i h
   constructor
   ·intro e;omega
   ·intro e;exact absurd rfl (e.2.2 y h y (by simp))
  ·rename_i h
   constructor
   ·intro e
    refine ⟨ih.mp (by omega),by simp,fun a ha b hb=>?_⟩
    simp only [List.mem_singleton] at hb
    subst hb
    rintro rfl
    exact h ha
   ·intro e
    have:=ih.mpr e.1
    omega
theorem strKind_is {prog : Program} {w : World} (z : Str) (t : Tok) : (strKind prog w).is z (.str z t) = true:=by
 show (Value.str z t).isStr z = true
 simp [Value.isStr]
theorem set_at {prog : Program} {w : World} {h h' : Heap} {D : Addr} {S : Str->Bool} {n : Nat} (x : h.SetOf (strKind prog w) D S n) (k : ∀ o,h.get? D = some o->h'.get? D = some o) : h'.SetOf (strKind prog w) D S n:=by
 obtain ⟨o,es,ep,t,e,r⟩:=x
 exact ⟨o,es,ep,t,k o e,r⟩
section
variable {X : Cx}
def LSet (J : It) (g : TG) (te : TE) (σc : St) (Q : VK) (H1 : Hp) : Prop := ∃ W : Nat->Nat->List Str->Hp->Prop,(∃ m,W 0 m [] H1)/\∀ i m ks H,W i m ks H ->
 (J.stop i H/\Q (.int (dcount ks : Nat)) H) \/
 (J.go i H/\∀ x H',J.yld i H x H'->g x σc H' fun σ2 H2=>te σ2 H2 fun v H4=>∃ z,v = .str z/\ks.length < 1000/\∃ m',m' < m/\W (i + 1) m' (ks ++ [z]) H4)
def tLenSet (k : Nat) (js : List Nat) (wi : TI) (g : TG) (te : TE) : TE:=fun σ H Q=>wi σ H fun J H1=>LSet J g te (compSt k js σ) Q H1
theorem compTurn_set (elt target iter : Expr) (scope : Scope) (pos : Pos) (it acc : Value) (env : Env) :
  compTurn (.SetComp elt [⟨target,iter,[],0⟩] scope pos) 0 it acc env = (standAt iter.pos >>= fun _=>pyNext it >>= fun r=>match r with
   | none=>pure (.done .next)
   | some v=>letOwnedTupleGo target it v >>= fun _=>assign target env v >>= fun _ =>
    (eval elt env >>= fun x=>standAt elt.pos >>= fun _=>call (.builtin "set.add") [acc,x] >>= fun _=>pure ()) >>= fun _ =>
     again (.compLoop (.SetComp elt [⟨target,iter,[],0⟩] scope pos) 0 it acc env)):=by rfl
theorem compLoopS_any {prog : Program} {w : World} {A : Around} {R : Result->Shared->Prop} {s : Shared} {elt target iter : Expr} {scope : Scope} {pos : Pos} {it acc : Value} {env : Env} (I : Nat->Shared->Prop)
  (turn : ∀ n s,I n s->wpAny (model prog w) A (pyNext it) (fun r s₁=>match r with
   | none=>R (.ok .next) s₁
   | some v=>wpAny (model prog w) A (letOwnedTupleGo target it v) (fun _ s₁'=>wpAny (model prog w) A (assign target env v) (fun _ s₂ =>
     wpAny (model prog w) A (eval elt env) (fun x s₄ =>
       wpAny (model prog w) A (call (.builtin "set.add") [acc,x]) (fun _ s₅=>∃ m,m < n/\I m s₅) (fun _ _=>False) s₄) (fun _ _=>False) s₂) (fun _ _=>False) s₁') (fun _ _=>False) s₁) (fun _ _=>False) s)
  (n : Nat) (h : I n s) :
  codeAny (model prog w) A (.compLoop (.SetComp elt [⟨target,iter,[],0⟩] scope pos) 0 it acc env) R s:=by
 refine codeAny_loop rfl I (fun n s hI=>?_) n h
 show wpAny _ A ((compTurn (.SetComp elt [⟨target,iter,[],0⟩] scope pos) 0 it acc env).onRaise (fun x=>do noteFrame x env;theTreesLotGoes x)) _ _ s
 refine wpAny_noted ?_
 rw [compTurn_set]
 refine wpAny_bind (wpAny_standAt (wpAny_bind (wpAny_mono (turn n s hI) (fun r s₁ h₁=>?_) fun _ _ h'=>h'.elim)))
 cases r with
 | none=>exact wpAny_pure h₁
 | some v =>
  refine wpAny_bind (wpAny_mono h₁ (fun _ s₁' h₁'=>?_) fun _ _ h'=>h'.elim)
  refine wpAny_bind (wpAny_mono h₁' (fun _ s₂ h₂=>?_) fun _ _ h'=>h'.elim)
  exact wpAny_bind (wpAny_bind (wpAny_mono h₂ (fun x s₄ h₄=>wpAny_bind (wpAny_standAt (wpAny_bind (wpAny_mono h₄ (fun _ s₅ h₅=>wpAny_pure (wpAny_pure ⟨rfl,h₅⟩)) fun _ _ h'=>h'.elim)))) fun _ _ h'=>h'.elim))
theorem codeAny_compStart_set {prog : Program} {w : World} {A : Around} {R : Result->Shared->Prop} {s : Shared} {elt target iter : Expr} {rest : List Comprehension} {scope : Scope} {pos : Pos} {it acc : Value} {env : Env}
  (h0 : codeAny (model prog w) A (.compLoop (.SetComp elt (⟨target,iter,[],0⟩ :: rest) scope pos) 0 it acc env) R s)
  (h : wpAny (model prog w) A (pyIter it) (fun it' s'=>codeAny (model prog w) A (.compLoop (.SetComp elt (⟨target,iter,[],0⟩ :: rest) scope pos) 0 it' acc env) R s')
   (notedBy (model prog w) A env fun x s'=>R (.error x) s') s) :
  codeAny (model prog w) A (.compStart (.SetComp elt (⟨target,iter,[],0⟩ :: rest) scope pos) 0 it acc env) R s:=by
 refine codeAny_of_tree ?_
 show wpAny _ _ ((compStart (.SetComp elt (⟨target,iter,[],0⟩ :: rest) scope pos) 0 it acc env).onRaise (fun x=>do noteFrame x env;standAt theWindowsPlace)) _ _ s
 refine wpAny_notedAt ?_
 unfold compStart
 show wpAny _ _ (ask >>= _) _ _ s
 refine wpAny_bind (wpAny_askSetting (wpAny_ite ?_))
 split
 ·first
   | exact wpAny_bind (wpAny_pure (wpAny_pure (And.intro rfl h0)))
   | exact wpAny_pure (And.intro rfl h0)
 ·first
   | exact wpAny_bind (wpAny_rule (wpAny_bind (wpAny_standAt (wpAny_bind (wpAny_mono h (fun it' s' h'=>wpAny_pure (And.intro rfl h')) fun _ _ x=>x)))))
   | (refine wpAny_bind (wpAny_rule ?_);show wpAny _ _ (standAt iter.pos >>= _) _ _ s;exact wpAny_bind (wpAny_standAt (wpAny_bind (wpAny_mono h (fun it' s' h'=>wpAny_pure (And.intro rfl h')) fun _ _ x=>x))))
theorem comp_coreS {elt tg iter : Expr} {scope : Scope} {pos : Pos} {Nc : List Str} {k : Nat} {js : List Nat} {wi : TI} {g : TG} {te : TE} (hc : X.calm = true) (S : CompScope X.env scope)
  (hjs : (Nc.drop k).map some = js.map (X.N[·]?)) (hfr : ∀ x ∈ Nc.drop k,scope.names.lookup x = some .free) (hk : k <= Nc.length) (hi : PI X tg iter wi)
  (hg : ∀ C s H ex,PG (compCx X scope Nc C s H ex) tg g) (gk : GOwn k g) (he : ∀ C s H ex,PE (compCx X scope Nc C s H ex) elt te)
  {pins : List (Addr × Obj)} {s : Shared} {σ : St} {H : Hp} {Q : VK} (I : Inv X pins σ H s) (h : tLenSet k js wi g te σ H Q) :
  wpAny (model X.prog X.w) X.A (eval iter X.env) (fun x s₁=>wpAny (model X.prog X.w) X.A (pyIter x) (fun itv s₂=>wpAny (model X.prog X.w) X.A (newSet (.type "set")) (fun acc s₃ =>
   wpAny (model X.prog X.w) X.A (newFunctionEnv scope X.env.globals (clOf X.env scope.names) [] X.env.qual none .none (some X.env)) (fun cenv s₄ =>
    codeAny (model X.prog X.w) X.A (.compStart (.SetComp elt [⟨tg,iter,[],0⟩] scope pos) 0 itv acc { cenv with scope:=relabel scope X.env })
     (fun r s'=>∃ fl D H' m n S,r = .ok fl/\acc = .ref D/\Inv X pins σ H' s'/\s'.heap.Ns cenv.locals m/\FpOk X pins H' cenv.locals/\D ≠ cenv.locals/\s'.heap.SetOf (strKind X.prog X.w) D S n/\Q (.int (n : Nat)) H') s₄) X.xe s₃) X.xe s₂) X.xe s₁) X.xe s:=by
 refine thn (hi pins s σ H _ I h) fun v s1 h1=>thn h1 fun itv s2 h2=>?_
 obtain ⟨it,fp,tn,J,H2,e,I2,T,st2,f2,W,⟨m0,w0⟩,turn⟩:=h2
 subst e
 refine wpAny_newSet_of (knd:=strKind X.prog X.w) fun led hSet=>wpAny_newFunctionEnv S.cell (by intro y hy;simp at hy) (fun h₁ hns₁ hsb₁=>?_) S.kind
 dsimp only at hns₁ hsb₁ ⊢
 generalize hH3 : s2.heap.push { cls:=.type "set",dict:=none,data:=.set #[] 0 (.fresh 0 0 led) } = H3 at hns₁ hsb₁ hSet ⊢
 have hC : H3.objs.size = s2.heap.objs.size + 1:=by rw [<- hH3,Heap.size_push]
 generalize eC : H3.objs.size = C at hns₁ hsb₁ hC ⊢
 generalize eD : s2.heap.objs.size = D at hC hSet ⊢
 have hDC : D ≠ C:=by omega
 have hle : D <= C:=by omega
 have hlt' : D < C:=by omega
 have hltD : ∀ b o,s2.heap.get? b = some o->b < D:=fun b o e=>by rw [<- eD];exact Heap.lt_size e
 have keep : ∀ b o,s2.heap.get? b = some o->h₁.get? b = some o:=fun b o e=>hsb₁.extBut b o (Nat.ne_of_lt (Nat.lt_trans (hltD b o e) hlt')) (Heap.get?_push_of_some _ (hH3 ▸ Heap.get?_push_of_some _ e))
 have hD1 : h₁.SetOf (strKind X.prog X.w) D (fun _=>false) 0:=set_at hSet fun o e=>hsb₁.extBut _ _ hDC (Heap.get?_push_of_some _ (hH3 ▸ e))
 have ltf : ∀ b ∈ fp,b < s2.heap.objs.size:=fun b hb=>by
  obtain ⟨o,e,_⟩:=T.obj 0 _ st2 b hb
  exact Heap.lt_size e
 have I4 : Inv (compCx X scope Nc C s2 H2 fp) [] (compSt k js σ) H2 { s2 with heap:=h₁,toks:=s2.toks + ([] : List (Str × Value)).length } :=
  inv_comp (s4:={ s2 with heap:=h₁,toks:=s2.toks + ([] : List (Str × Value)).length }) I2 hc S hjs hfr hk f2 ltf (by omega) hns₁ keep rfl rfl
 have frz : ∀ y ∈ scope.names,y.2 = .free->∃ c,X.env.cells.lookup y.1 = some c:=fun y hy e=>I2.ok.has y.1 (S.free y hy e)
 have Dcell : ∀ x c,(clOf X.env scope.names).lookup x = some c->c ≠ D:=fun x c e z=>by
  obtain ⟨v,q⟩:=I2.cell x c (clOf_sub frz e)
  have l:=q.lt
  rw [z,eD] at l
  exact Nat.lt_irrefl _ l
 have Dstk : D ∉ frs X.stack:=fun z=>by
  rcases List.mem_cons.mp (I2.stkSub D z) with z | z
  ·have l:=I2.lt
   rw [<- z,eD] at l
   exact Nat.lt_irrefl _ l
  ·exact I2.nofs (Nat.le_of_eq eD) z
 have Dfp : ∀ b ∈ fp,D ≠ b:=fun b hb z=>by have l:=ltf b hb;rw [<- z,eD] at l;exact Nat.lt_irrefl _ l
 have fpok : ∀ {H' : Hp} {o : Obj},(∀ b ∈ fp,H' b = none)->∀ b ∈ fp,FpOk (compCx X scope Nc C s2 H2 fp) [(D,o)] H' b:=fun {H' o} hn b hb=>by
  refine ⟨hn b hb,?_,?_,.inl hb,fun x c e=>(f2 b hb).2.2.2.2.1 x c (clOf_sub frz e),fun p hp=>?_⟩
  ·have l:=ltf b hb
   rw [eD] at l
   exact Nat.ne_of_lt (Nat.lt_trans l hlt')
  ·intro z
   rcases List.mem_cons.mp (I2.stkSub b z) with z | z
   ·exact (f2 b hb).2.1 z
   ·exact (f2 b hb).2.2.1 z
  ·have e : p = (D,o):=by simpa using hp
   subst e
   exact Dfp b hb
 have loop : codeAny (model X.prog X.w) X.A (.compLoop (.SetComp elt [⟨tg,iter,[],0⟩] scope pos) 0 (.ref it) (.ref D) (compEnvC scope (clOf X.env scope.names) C X.env))
   (fun r s'=>∃ fl D' H' m n S,r = .ok fl/\Value.ref D = .ref D'/\Inv X pins σ H' s'/\s'.heap.Ns C m/\FpOk X pins H' C/\D' ≠ C/\s'.heap.SetOf (strKind X.prog X.w) D' S n/\Q (.int (n : Nat)) H') { s2 with heap:=h₁,toks:=s2.toks + ([] : List (Str × Value)).length }:=by
  refine compLoopS_any (fun n s'=>∃ (i : Nat) (ks : List Str) (H' : Hp) (o : Obj),Inv (compCx X scope Nc C s2 H2 fp) [] (compSt k js σ) H' s'/\tn i s'.heap/\(∀ b ∈ fp,H' b = none)/\H' D = none /\
   s'.heap.get? D = some o/\(∀ v,o.data ≠ .cell v)/\s'.heap.SetOf (strKind X.prog X.w) D (fun k=>decide (k ∈ ks)) (dcount ks)/\ks.length <= 1000/\W i n ks H') ?_ m0 ?_
  ·rintro n s3 ⟨i,ks,H3',o,I3,st3,fr3,fD3,oD3,dD3,set3,hz,w3⟩
   have I3' : Inv (compCx X scope Nc C s2 H2 fp) [(D,o)] (compSt k js σ) H3' s3:=I3.pins_of fun p hp=>by
    have e : p = (D,o):=by simpa using hp
    subst e
    exact ⟨oD3,fD3,hDC,Dstk,dD3⟩
   rcases turn i n ks H3' w3 with ⟨stop,qn⟩ | ⟨go,step⟩
   ·refine thn (T.done (compCx X scope Nc C s2 H2 fp) rfl rfl rfl rfl i _ s3 (compSt k js σ) H3' _ I3' (fpok fr3) st3 stop) fun r s4 ⟨hr,I5⟩=>?_
    subst hr
    obtain ⟨oD5,fD5,_⟩:=I5.pin (D,o) (by simp)
    obtain ⟨mC,nC,_⟩:=I5.loc
    have hu : Un (frs X.stack) fp H2 H3' s2.heap s4.heap:=I5.base
    have IX : Inv X pins σ H3' s4:=I2.call' I5.os hu I5.hok I5.bare fun b hb=>⟨(f2 b hb).2.2.2.1,(f2 b hb).2.1,(f2 b hb).2.2.2.2.1,(f2 b hb).2.2.2.2.2⟩
    exact ⟨_,D,_,mC,_,_,rfl,rfl,IX,nC,I2.fpOk (by omega) I5.free,hDC,set_at set3 (fun o' e=>by rw [oD3] at e;cases e;exact oD5),qn⟩
   ·refine thn (T.item (compCx X scope Nc C s2 H2 fp) rfl rfl rfl rfl i _ s3 (compSt k js σ) H3' _ I3' (fpok fr3) st3 go) fun r s4 ⟨u,hr,h4⟩=>?_
    subst hr
    refine thn h4 fun _ s5 ⟨x,H5,I5,r5,y5,st5,fr5⟩=>?_
    have I5':=I5.pinned (fpok fr5) (T.obj _ _ st5)
    have lenS : k <= (compSt k js σ).length:=by rw [compSt_len];omega
    refine thn (hg C s2 H2 fp _ s5 (compSt k js σ) H5 x u _ I5' r5 (gk _ _ _ _ lenS (step x H5 y5))) fun _ s6 ⟨σ6,H6,I6,q6,l6,a6⟩=>?_
    have weak6 : ∀ {H' : Hp} {s' : Shared} {ps : List (Addr × Obj)},Inv (compCx X scope Nc C s2 H2 fp) ps σ6 H' s'->Inv (compCx X scope Nc C s2 H2 fp) ps (compSt k js σ) H' s':=fun {H' s' ps} I'=>I'.weak l6.symm fun j v e=>by
     obtain ⟨t,j',rfl,_,_⟩:=comp_get e
     rw [a6 _ (Nat.le_add_right _ _)]
     exact e
    have pinD : ∀ {H' : Hp} {s' : Shared},Inv (compCx X scope Nc C s2 H2 fp) ([(D,o)] ++ pinsAt fp s5.heap) σ6 H' s'->s'.heap.get? D = some o/\H' D = none:=fun {H' s'} I'=>by
     obtain ⟨e1,e2,_⟩:=I'.pin (D,o) (by simp)
     exact ⟨e1,e2⟩
    have pinF : ∀ {H' : Hp} {s' : Shared},Inv (compCx X scope Nc C s2 H2 fp) ([(D,o)] ++ pinsAt fp s5.heap) σ6 H' s'->(∀ b ∈ fp,∀ o,s5.heap.get? b = some o->s'.heap.get? b = some o)/\∀ b ∈ fp,H' b = none:=fun {H' s'} I'=>by
     refine ⟨fun b hb o e=>(I'.pin (b,o) (List.mem_append_right _ (List.mem_append_right _ (mem_pinsAt hb e)))).1,fun b hb=>?_⟩
     obtain ⟨o,e,d⟩:=T.obj _ _ st5 b hb
     exact (I'.pin (b,o) (List.mem_append_right _ (List.mem_append_right _ (mem_pinsAt hb e)))).2.1
    refine thn (he C s2 H2 fp _ s6 σ6 H6 _ I6 q6) fun y s8 ⟨vv,H8,I8,r8,zz,ezz,hz8,m',hm,w8⟩=>?_
    subst ezz
    obtain ⟨tz,rfl⟩:=r8
    obtain ⟨d1,d2⟩:=pinD I8
    obtain ⟨p1,p2⟩:=pinF I8
    have set8 : s8.heap.SetOf (strKind X.prog X.w) D (fun k=>decide (k ∈ ks)) (dcount ks):=set_at set3 fun o' e=>by rw [oD3] at e;cases e;exact d1
    refine call_set_add (k:=zz) (strKind_is zz tz) rfl set8 (by have:=dcount_le ks;have : (1002 : Nat) < scanBound:=(by decide);omega) fun h' hsb hS'=>?_
    have I8' : Inv (compCx X scope Nc C s2 H2 fp) [] (compSt k js σ) H8 s8:=weak6 (I8.pins_of fun p hp=>absurd (show p ∈ ([] : List (Addr × Obj)) from hp) (by simp))
    have I9 : Inv (compCx X scope Nc C s2 H2 fp) [] (compSt k js σ) H8 { s8 with heap:=h',toks:=s8.toks + 1 }:=I8'.turned (it:=D) (t':=s8.toks + 1) (fun b o hb e=>(hsb.2 b hb).trans e) d2 hDC (.inr (Nat.le_of_eq eD)) (fun x c e=>Dcell x c e) fun p hp=>absurd (show p ∈ ([] : List (Addr × Obj)) from hp) (by simp)
    obtain ⟨o',es',ep',t',eo,ex',ed,r'⟩:=id hS'
    refine ⟨m',hm,i + 1,ks ++ [zz],H8,o',I9,T.keep _ _ _ st5 (fun b hb o e=>(hsb.2 b (Ne.symm (Dfp b hb))).trans (p1 b hb o e)),p2,d2,eo,(fun v z=>by rw [ed] at z;cases z),?_,?_,w8⟩
    ·have e1 : (fun k'=>(decide (k' ∈ ks)) || decide (k' = zz)) = fun k'=>decide (k' ∈ ks ++ [zz]):=by
      funext k'
      simp
     have e2 : (if decide (zz ∈ ks) = true then dcount ks else dcount ks + 1) = dcount (ks ++ [zz]):=by
      rw [dcount_snoc]
      simp
     rw [e1,e2] at hS'
     exact hS'
    ·rw [List.length_append,List.length_singleton]
     omega
  ·obtain ⟨o',es',ep',t',eo,ex',ed,r'⟩:=id hD1
   refine ⟨0,[],H2,o',I4,T.keep _ _ _ st2 (fun b _ o e=>keep b o e),fun b hb=>(f2 b hb).1,I2.hok.fresh (Nat.le_of_eq eD),eo,(fun v z=>by rw [ed] at z;cases z),?_,Nat.zero_le _,w0⟩
   exact hD1
 exact codeAny_compStart_set loop (wpAny_mono (T.self _ 0 _ _ (fun _ _=>False) (T.keep _ _ _ st2 fun b _ o e=>keep b o e) loop) (fun _ _ q=>q) fun _ _ z=>z.elim)
theorem pe_lenset {elt tg iter : Expr} {scope : Scope} {p pos cpos : Pos} {Nc : List Str} {k : Nat} {js : List Nat} {wi : TI} {g : TG} {te : TE} (hgl : Gl X "len") (hm : X.mg "len" = none) (hc : X.calm = true) (S : CompScope X.env scope)
  (hjs : (Nc.drop k).map some = js.map (X.N[·]?)) (hfr : ∀ x ∈ Nc.drop k,scope.names.lookup x = some .free) (hk : k <= Nc.length) (hi : PI X tg iter wi)
  (hg : ∀ C s H ex,PG (compCx X scope Nc C s H ex) tg g) (gk : GOwn k g) (he : ∀ C s H ex,PE (compCx X scope Nc C s H ex) elt te)
  (hs : ∀ x,foldedSetIterable iter X.env x = pure x:=by intro _;rfl) : PE X (.Call (.Name "len" p) [.SetComp elt [⟨tg,iter,[],0⟩] scope pos] [] cpos) (tLenSet k js wi g te):=by
 intro pins s σ H Q I h
 refine wpAny_Call_Name_kw (ld_blt I hgl hm PySem.boot_len ?_ (by decide) (by decide))
 refine PyProof.Rows.callWith_builtin1 (Q:=EP X pins σ Q) (Calls.spliced_cons ?_) rfl rfl
 show wpAny _ X.A (comprehension (.SetComp elt [⟨tg,iter,[],0⟩] scope pos) scope X.env (firstIterPos [⟨tg,iter,[],0⟩] pos) (newSet (.type "set")) false (eval iter X.env)) _ _ s
 refine wpAny_comprehension_free (use:=none) rfl hs (closure_of fun y hy e=>I.ok.has y.1 (S.free y hy e)) S.kind S.loc (thn (comp_coreS hc S hjs hfr hk hi hg gk he I h) fun x s1 h1=>thn h1 fun itv s2 h2=>thn h2 fun acc s3 h3=>thn h3 fun cenv s4 h4=>codeAny_mono h4 fun r s' hr=>?_)
 obtain ⟨fl,D,H',m,n,S',rfl,rfl,I',nC,fC,nDC,hS',q⟩:=hr
 refine ⟨m,nC,fun h' sb=>Calls.spliced_nil ?_⟩
 have I2 : Inv X pins σ H' { s' with heap:=h' }:=I'.turned (it:=cenv.locals) (t':=s'.toks) (fun b o hb e=>(sb.2 b hb).trans e) fC.1 fC.2.1 fC.2.2.2.1 fC.2.2.2.2.1 fC.2.2.2.2.2
 obtain ⟨o,es,ep,t,e1,e2,e3,_,_,e6,e7,e8⟩:=set_at hS' (h':=h') fun o e=>(sb.2 D nDC).trans e
 have b1 : scanBound <= 2 ^ 62:=by decide
 refine call_len_set (s:={ s' with heap:=h' }) e1 e2 e3 e7 (by omega) ?_
 rw [e8]
 exact ⟨.int n,H',I2.tok _,⟨_,rfl⟩,q⟩
end
theorem lset_by {J : It} {ok : Hp->Prop} {ys : List V} {g : TG} {te : TE} {σc : St} {H : Hp} {Q : VK} (Y : Yields J ok ys) (Pv : Nat->List Str->Hp->Prop) (h0 : Pv 0 [] H) (hok : ∀ i xs H,Pv i xs H->ok H)
  (step : ∀ i x xs H,ys[i]? = some x->i < ys.length->Pv i xs H->g x σc H fun σ2 H2=>te σ2 H2 fun v H4=>∃ z,v = .str z/\xs.length < 1000/\Nx ys.length i (Pv (i + 1) (xs ++ [z]) H4))
  (fin : ∀ xs H,Pv ys.length xs H->Q (.int (dcount xs : Nat)) H) : LSet J g te σc Q H:=by
 refine ⟨fun i m xs H=>m = ys.length - i/\i <= ys.length/\Pv i xs H,⟨ys.length,by simp,Nat.zero_le _,h0⟩,?_⟩
 rintro i m xs H ⟨rfl,hi,p⟩
 have o:=hok i xs H p
 by_cases hlt : i < ys.length
 ·refine .inr ⟨Y.go i H o hlt,fun x H' y=>?_⟩
  obtain ⟨e,hx⟩:=Y.yld i H x H' o hlt y
  subst e
  exact step i x xs _ hx hlt p
 ·have e : i = ys.length:=by omega
  subst e
  exact .inl ⟨Y.stop H o,fin xs H p⟩
end L2
end

section
set_option Elab.async false
set_option linter.all false
set_option maxRecDepth 100000
namespace L2
open PySem PySem.Spec PyProof.Rows HT
structure Zn where
 ex : List Addr
 p : Addr
 ts : List Addr
structure Cz (z : Zn) (H : Hp) : Prop where
 mem : z.p ∈ z.ex
 al : ∀ b ∈ z.ex,∃ xs,H b = some (.lst xs)
 held : ∃ n : Int,H z.p = some (.lst [.int n])
 tb : Tb z.ts H
structure Stp (z : Zn) (H H' : Hp) : Prop where
 ext : Ext [z.p] H H'
 cz : Cz z H'
theorem Cz.out {z : Zn} {H : Hp} (c : Cz z H) {P : Addr} (h : P ∈ z.ts) : P ∉ z.ex:=fun hm=>by
 obtain ⟨ps,h1,_⟩:=c.tb P h
 obtain ⟨xs,h2⟩:=c.al P hm
 rw [h1] at h2
 cases h2
theorem Cz.ext {z : Zn} {H H' : Hp} (c : Cz z H) (e : Ext [] H H') : Cz z H' :=
 ⟨c.mem,fun b hb=>let ⟨xs,h⟩:=c.al b hb;⟨xs,e.lst (by simp) h⟩,let ⟨n,h⟩:=c.held;⟨n,e.lst (by simp) h⟩,e.tb c.tb (by simp)⟩
theorem Cz.extp {z : Zn} {H H' : Hp} (c : Cz z H) (e : Ext [z.p] H H') (h : ∃ n : Int,H' z.p = some (.lst [.int n])) : Cz z H' :=
 ⟨c.mem,fun b hb=>by
  by_cases q : b = z.p
  ·subst q
   obtain ⟨n,h⟩:=h
   exact ⟨_,h⟩
  ·obtain ⟨xs,h⟩:=c.al b hb
   exact ⟨xs,e.lst (by simpa using q) h⟩,h,e.tb c.tb fun P hP q=>c.out hP (by rw [List.mem_singleton.mp q];exact c.mem)⟩
theorem Stp.refl {z : Zn} {H : Hp} (c : Cz z H) : Stp z H H:=⟨Ext.refl,c⟩
theorem Stp.trans {z : Zn} {H H1 H2 : Hp} (a : Stp z H H1) (b : Stp z H1 H2) : Stp z H H2:=⟨a.ext.trans b.ext,b.cz⟩
theorem Stp.of {z : Zn} {H H' : Hp} (c : Cz z H) (e : Ext [] H H') : Stp z H H':=⟨e.mono (by simp),c.ext e⟩
theorem Stp.ex {z : Zn} {H H' : Hp} (s : Stp z H H') : Ext z.ex H H':=s.ext.mono fun b hb=>by rw [List.mem_singleton.mp hb];exact s.cz.mem
theorem IsD.stp {z : Zn} {H H' : Hp} {d : PyData} {v : V} (h : IsD z.ex H d v) (s : Stp z H H') : IsD z.ex H' d v:=IsD.ext s.ex h
theorem IsDs.stp {z : Zn} {H H' : Hp} {d : List PyData} {v : List V} (h : IsDs z.ex H d v) (s : Stp z H H') : IsDs z.ex H' d v:=IsDs.ext s.ex h
theorem Cz.free {z : Zn} {H : Hp} (c : Cz z H) {q : Addr} (h : H q = none) : q ∉ z.ex:=fun hm=>by
 obtain ⟨xs,h2⟩:=c.al q hm
 rw [h] at h2
 cases h2
def NewD (z : Zn) (Q : VK) (d : PyData) (H : Hp) : Prop := ∀ v H',Stp z H H'->IsD z.ex H' d v->Q v H'
theorem NewD.tup {z : Zn} {Q : VK} {ds : List PyData} {xs : List V} {H : Hp} (k : NewD z Q (.tuple ds) H) (c : Cz z H) (h : IsDs z.ex H ds xs) {q : Addr} (hq : H q = none) : Q (.ref q) (upd H q (.tup xs)) :=
 have e : Ext [] H (upd H q (.tup xs)):=Ext.new hq _
 k _ _ (Stp.of c e) ⟨q,xs,rfl,c.free hq,upd_same,IsDs.ext (e.mono (by simp)) h⟩
theorem NewD.lst {z : Zn} {Q : VK} {ds : List PyData} {xs : List V} {H : Hp} (k : NewD z Q (.list ds) H) (c : Cz z H) (h : IsDs z.ex H ds xs) {q : Addr} (hq : H q = none) : Q (.ref q) (upd H q (.lst xs)) :=
 have e : Ext [] H (upd H q (.lst xs)):=Ext.new hq _
 k _ _ (Stp.of c e) ⟨q,xs,rfl,c.free hq,upd_same,IsDs.ext (e.mono (by simp)) h⟩
theorem NewD.same {z : Zn} {Q : VK} {d : PyData} {v : V} {H : Hp} (k : NewD z Q d H) (c : Cz z H) (h : IsD z.ex H d v) : Q v H:=k v H (Stp.refl c) h
theorem size1000 : 1000 <= sizeLine:=Nat.le_of_lt (small1000 (Nat.le_refl _))
section
variable {X : Cx} {es : List Expr} {t : TA} {pos : Pos}
def tTupD (t : TA) : TE:=fun σ H Q=>t σ H fun xs H1=>∃ (z : Zn) (ds : List PyData),IsDs z.ex H1 ds xs/\ds.length <= 1000/\Cz z H1/\NewD z Q (.tuple ds) H1
def tLstD (t : TA) : TE:=fun σ H Q=>t σ H fun xs H1=>∃ (z : Zn) (ds : List PyData),IsDs z.ex H1 ds xs/\ds.length <= 1000/\Cz z H1/\NewD z Q (.list ds) H1
theorem pe_tupD {x1} (h : PA X es t) : PE X (.Tuple es x1 pos) (tTupD t):=by
 intro pins s σ H Q I hq
 refine wpAny_Tuple_spliced (thn (h pos pins s σ H _ I hq) fun us s1 hz=>?_)
 obtain ⟨xs,H1,I1,r,z,ds,hd,hl,c,k⟩:=hz
 have hxs : xs.length <= sizeLine:=by rw [hd.length];exact Nat.le_trans hl size1000
 refine ⟨by rw [<- r.length];exact hxs,?_⟩
 have hf : H1 s1.heap.objs.size = none:=I1.hok.fresh (Nat.le_refl _)
 exact ⟨.ref s1.heap.objs.size,upd H1 s1.heap.objs.size (.tup xs),I1.laid (t':=s1.toks) (fun b u e=>Heap.get?_push_of_some _ e) (Nat.le_refl _) ⟨hxs,us,r,⟨_,Heap.get?_push_size _ rfl,rfl,_,rfl⟩⟩,rfl,k.tup c hd hf⟩
theorem pe_lstD (h : PA X es t) : PE X (.List es pos) (tLstD t):=by
 intro pins s σ H Q I hq
 refine wpAny_List_spliced (thn (h pos pins s σ H _ I hq) fun us s1 hz=>?_)
 obtain ⟨xs,H1,I1,r,z,ds,hd,hl,c,k⟩:=hz
 have hxs : xs.length <= sizeLine:=by rw [hd.length];exact Nat.le_trans hl size1000
 refine ⟨by rw [<- r.length];exact hxs,?_⟩
 have hf : H1 s1.heap.objs.size = none:=I1.hok.fresh (Nat.le_refl _)
 exact ⟨.ref s1.heap.objs.size,upd H1 s1.heap.objs.size (.lst xs),I1.laid (t':=s1.toks) (fun b u e=>Heap.get?_push_of_some _ e) (Nat.le_refl _) ⟨hxs,us,0,r,Heap.get?_push_size _ rfl⟩,rfl,k.lst c hd hf⟩
def rCatLD : R2:=fun x y H Q=>∃ (z : Zn) (ds es : List PyData),IsD z.ex H (.list ds) x/\IsD z.ex H (.list es) y/\ds.length + es.length <= 1000/\Cz z H/\NewD z Q (.list (ds ++ es)) H
theorem op_catLD : OpR X (binaryOp .Add) rCatLD:=by
 intro pins s σ H x y v u Q I rx ry h
 obtain ⟨z,ds,es,⟨a,xs,rfl,na,ha,hd⟩,⟨b,ys,rfl,nb,hb,he⟩,hl,c,k⟩:=h
 have l1:=hd.length
 have l2:=he.length
 have:=size1000
 exact op_cat pins s σ H (.ref a) (.ref b) v u Q I rx ry ⟨a,b,xs,ys,rfl,rfl,ha,hb,by omega,fun q hq=>k.lst c (IsDs.append hd he) hq⟩
def cutD (ds : List PyData) (lo hi : Option Int) : List PyData:=(ds.drop (HT.sIx ds.length 0 lo)).take (HT.sIx ds.length ds.length hi - HT.sIx ds.length 0 lo)
theorem IsDs.cut {ex : List Addr} {H : Hp} {ds : List PyData} {xs : List V} (lo hi : Option Int) (h : IsDs ex H ds xs) : IsDs ex H (cutD ds lo hi) (cutV xs lo hi):=by
 unfold cutD cutV
 rw [h.length]
 exact IsDs.take _ (IsDs.drop _ h)
def rSlLD : V->Option Int->Option Int->Hp->VK->Prop:=fun x lo hi H Q=>∃ (z : Zn) (ds : List PyData),IsD z.ex H (.list ds) x/\Cz z H/\NewD z Q (.list (cutD ds lo hi)) H
theorem sl_listD : SlR X rSlLD:=by
 intro pins s σ H x v vl vu lo hi sl Q I rx hs pl pu h
 obtain ⟨z,ds,⟨a,xs,rfl,na,ha,hd⟩,c,k⟩:=h
 exact sl_list pins s σ H (.ref a) v vl vu lo hi sl Q I rx hs pl pu ⟨a,xs,rfl,SqL.of ha,fun q hq=>k.lst c (IsDs.cut lo hi hd) hq⟩
theorem call_listD : CallR X (.type "list") (fun xs H Q=>∃ (z : Zn) (x : V) (ds : List PyData),xs = [x]/\(IsD z.ex H (.tuple ds) x\/IsD z.ex H (.list ds) x)/\Cz z H/\NewD z Q (.list ds) H):=by
 intro pins s σ H xs us Q I r h
 obtain ⟨z,x,ds,rfl,hd,c,k⟩:=h
 rcases hd with ⟨a,ys,rfl,na,ha,hd⟩ | ⟨a,ys,rfl,na,ha,hd⟩
 ·exact call_list_of pins s σ H [.ref a] us Q I r ⟨a,ys,rfl,.inr (SqT.of ha),fun l hl=>k.lst c hd hl⟩
 ·exact call_list_of pins s σ H [.ref a] us Q I r ⟨a,ys,rfl,.inl (SqL.of ha),fun l hl=>k.lst c hd hl⟩
theorem call_tupleD : CallR X (.type "tuple") (fun xs H Q=>∃ (z : Zn) (x : V) (ds : List PyData),xs = [x]/\IsD z.ex H (.list ds) x/\Cz z H/\NewD z Q (.tuple ds) H):=by
 intro pins s σ H xs us Q I r h
 obtain ⟨z,x,ds,rfl,⟨a,ys,rfl,na,ha,hd⟩,c,k⟩:=h
 exact call_tuple_of pins s σ H [.ref a] us Q I r ⟨a,ys,rfl,.inl ⟨SqL.of ha,fun l hl=>k.tup c hd hl⟩⟩
theorem atI_pos {α : Type} {xs : List α} {i : Int} {v : α} (h0 : 0 <= i) (h : xs[i.toNat]? = some v) : atI xs i = some v:=by
 have:=atI_nat h
 rw [show ((i.toNat : Nat) : Int) = i by omega] at this
 exact this
theorem IxR.mono {r r' : R2} (h : IxR X r) (k : ∀ x y H Q,r' x y H Q->r x y H Q) : IxR X r':=by
 intro a1 a2 a3 a4 a5 a6 a7 a8 a9 a10 a11 a12 a13 a14 q
 exact h a1 a2 a3 a4 a5 a6 a7 a8 a9 a10 a11 a12 a13 a14 (k _ _ _ _ q)
def rIxD : R2:=fun x y H Q=>∃ (z : Zn) (ds : List PyData) (i : Int) (d : PyData),(IsD z.ex H (.tuple ds) x\/IsD z.ex H (.list ds) x)/\y = .int i/\0 <= i/\ds[i.toNat]? = some d/\∀ v,IsD z.ex H d v->Q v H
theorem ix_D : IxR X rIxD:=by
 have h1 : IxR X (fun x y H Q=>rIxL X.K x y H Q\/rIxT X.K x y H Q):=ix_list.or ix_tup
 refine IxR.mono h1 fun x y H Q h=>?_
 obtain ⟨z,ds,i,d,hd,rfl,h0,hg,q⟩:=h
 rcases hd with ⟨a,xs,rfl,na,ha,hd⟩ | ⟨a,xs,rfl,na,ha,hd⟩
 ·obtain ⟨v,hv,dv⟩:=hd.get hg
  exact .inr ⟨a,xs,i,v,rfl,rfl,SqT.of ha,atI_pos h0 hv,q v dv⟩
 ·obtain ⟨v,hv,dv⟩:=hd.get hg
  exact .inl ⟨a,xs,i,v,rfl,rfl,SqL.of ha,atI_pos h0 hv,q v dv⟩
end
mutual
theorem IsD.more {ex : List Addr} {H : Hp} {l : Addr} (h0 : H l = none) : ∀ {d : PyData} {v : V},IsD ex H d v->IsD (l :: ex) H d v
 | .none,_,h=>h
 | .bool _,_,h=>h
 | .int _,_,h=>h
 | .str _,_,h=>h
 | .tuple ds,v,h=>by
  obtain ⟨a,vs,h1,h2,h3,h4⟩:=h
  refine ⟨a,vs,h1,fun z=>?_,h3,IsDs.more h0 h4⟩
  rcases List.mem_cons.mp z with rfl | z
  ·rw [h0] at h3;cases h3
  ·exact h2 z
 | .list ds,v,h=>by
  obtain ⟨a,vs,h1,h2,h3,h4⟩:=h
  refine ⟨a,vs,h1,fun z=>?_,h3,IsDs.more h0 h4⟩
  rcases List.mem_cons.mp z with rfl | z
  ·rw [h0] at h3;cases h3
  ·exact h2 z
 | .dict _,_,h=>h.elim
theorem IsDs.more {ex : List Addr} {H : Hp} {l : Addr} (h0 : H l = none) : ∀ {ds : List PyData} {vs : List V},IsDs ex H ds vs->IsDs (l :: ex) H ds vs
 | [],_,h=>h
 | d :: ds,vs,h=>by
  obtain ⟨v,r,h1,h2,h3⟩:=h
  exact ⟨v,r,h1,IsD.more h0 h2,IsDs.more h0 h3⟩
end
def Zn.with (z : Zn) (l : Addr) : Zn:=⟨l :: z.ex,z.p,z.ts⟩
structure Stl (z : Zn) (l : Addr) (H H' : Hp) : Prop where
 ext : Ext [l,z.p] H H'
 cz : Cz (z.with l) H'
theorem Cz.with {z : Zn} {H : Hp} {l : Addr} {xs : List V} (c : Cz z H) (h0 : H l = none) : Cz (z.with l) (upd H l (.lst xs)):=by
 have c':=c.ext (Ext.new h0 (.lst xs))
 refine ⟨List.mem_cons_of_mem _ c.mem,fun b hb=>?_,c'.held,c'.tb⟩
 rcases List.mem_cons.mp hb with rfl | hb
 ·exact ⟨xs,upd_same⟩
 ·exact c'.al b hb
theorem Cz.less {z : Zn} {H : Hp} {l : Addr} (c : Cz (z.with l) H) (hp : z.p ∈ z.ex) : Cz z H:=⟨hp,fun b hb=>c.al b (List.mem_cons_of_mem _ hb),c.held,c.tb⟩
theorem Stl.back {z : Zn} {l : Addr} {H H' : Hp} (s : Stl z l H H') (h0 : H l = none) (hp : z.p ∈ z.ex) : Stp z H H':=by
 refine ⟨⟨fun b o hb h n=>s.ext.old b o (fun q=>?_) h n,fun b ps hb h=>s.ext.tab b ps (fun q=>?_) h⟩,s.cz.less hp⟩
 all_goals
  rcases List.mem_cons.mp q with rfl | q
  ·rw [h0] at h;cases h
  ·exact hb q
theorem Stl.new {z : Zn} {H : Hp} {l : Addr} {xs : List V} (c : Cz z H) (h0 : H l = none) : Stl z l H (upd H l (.lst xs)):=⟨Ext.new h0 _,c.with h0⟩
theorem Stl.stp {z : Zn} {l : Addr} {H H1 H2 : Hp} (a : Stl z l H H1) (b : Stp (z.with l) H1 H2) : Stl z l H H2:=⟨a.ext.trans (b.ext.mono fun q hq=>List.mem_cons_of_mem _ hq),b.cz⟩
theorem Stl.put {z : Zn} {l : Addr} {H H1 : Hp} {xs : List V} (a : Stl z l H H1) (hne : l ≠ z.p) : Stl z l H (upd H1 l (.lst xs)):=by
 have e : Ext [l,z.p] H1 (upd H1 l (.lst xs)):=Ext.put (by simp) _
 have c:=a.cz
 refine ⟨a.ext.trans e,c.mem,fun b hb=>?_,?_,(Ext.put (ex:=[l]) (by simp) _).tb c.tb fun P hP q=>c.out hP (by rw [List.mem_singleton.mp q];exact List.mem_cons_self)⟩
 ·by_cases q : b = l
  ·subst q
   exact ⟨xs,upd_same⟩
  ·obtain ⟨ys,h⟩:=c.al b hb
   exact ⟨ys,by rw [upd_ne q];exact h⟩
 ·obtain ⟨n,h⟩:=c.held
  exact ⟨n,by rw [upd_ne (show (z.with l).p ≠ l from fun q=>hne q.symm)];exact h⟩
theorem Stl.ex {z : Zn} {l : Addr} {H H' : Hp} (s : Stl z l H H') : Ext (z.with l).ex H H':=s.ext.mono fun b hb=>by
 rcases List.mem_cons.mp hb with rfl | hb
 ·exact List.mem_cons_self
 ·rw [List.mem_singleton.mp hb];exact s.cz.mem
theorem IsD.stl {z : Zn} {l : Addr} {H H' : Hp} {d : PyData} {v : V} (h : IsD (z.with l).ex H d v) (s : Stl z l H H') : IsD (z.with l).ex H' d v:=IsD.ext s.ex h
theorem IsDs.stl {z : Zn} {l : Addr} {H H' : Hp} {d : List PyData} {v : List V} (h : IsDs (z.with l).ex H d v) (s : Stl z l H H') : IsDs (z.with l).ex H' d v:=IsDs.ext s.ex h
theorem put_ext {l : Addr} {H : Hp} {ex : List Addr} {o : HO} (h : l ∈ ex) {ds : List PyData} {vs : List V} (hd : IsDs ex H ds vs) : IsDs ex (upd H l o) ds vs:=IsDs.ext (Ext.put h _) hd
end L2
end

section
set_option Elab.async false
set_option linter.all false
set_option maxRecDepth 100000
namespace L2
open PySem PySem.Spec PyProof.Rows
def tx (l : List Nat) : Str:=⟨l.toArray⟩
theorem tx_len (l : List Nat) : (tx l).length = l.length:=by show l.toArray.size = _;simp
theorem tx_append (a b : List Nat) : tx a ++ tx b = tx (a ++ b):=by
 show (⟨a.toArray ++ b.toArray⟩ : Str) = ⟨(a ++ b).toArray⟩
 simp
theorem tx_inj {a b : List Nat} (h : tx a = tx b) : a = b:=by
 have h2 : a.toArray = b.toArray:=congrArg Str.cps h
 simpa using h2
theorem tx_slice_to {l : List Nat} {i : Int} (h0 : 0 <= i) (h1 : i <= l.length) : Txt.slice (tx l) none (some i) = tx (l.take i.toNat):=by
 have h:=eq_of_beq (slice_closes_to (x:=tx l) (j:=i) ⟨h0,by simpa [tx] using h1⟩)
 rw [h]
 simp [tx]
theorem tx_slice_from {l : List Nat} {i : Int} (h0 : 0 <= i) (h1 : i <= l.length) : Txt.slice (tx l) (some i) none = tx (l.drop i.toNat):=by
 have h:=eq_of_beq (slice_closes_from (x:=tx l) (i:=i) ⟨h0,by simpa [tx] using h1⟩)
 rw [h]
 have e : ((tx l).cps.toList.drop i.toNat).take (((tx l).cps.toList.length : Int) - i).toNat = l.drop i.toNat:=by
  rw [List.take_of_length_le]
  ·simp [tx]
  ·simp [tx]
   omega
 rw [e]
 rfl
theorem tx_join : ∀ l : List Nat,Txt.join ("" : Str) (l.map fun c=>tx [c]) = tx l:=by
 intro l
 rw [show Txt.join ("" : Str) (l.map fun c=>tx [c]) = Str.join ("" : Str) (l.map fun c=>tx [c]) from PySem.StrLaws.glued_eq_join _ _]
 induction l with
 | nil=>rfl
 | cons c l ih =>
  cases l with
  | nil=>rfl
  | cons d r =>
   have e0 : ("" : Str) = tx []:=by decide +kernel
   show tx [c] ++ ("" : Str) ++ Str.join ("" : Str) ((d :: r).map fun c=>tx [c]) = _
   rw [ih,e0,tx_append,tx_append]
   rfl
theorem map_len1 (l : List Nat) : ((l.map fun c=>tx [c]).map (·.length)).sum = l.length:=by
 induction l with
 | nil=>rfl
 | cons c l ih =>
  rw [List.map_cons,List.map_cons,List.sum_cons,ih,tx_len]
  simp
  omega
theorem cut_to {ds : List PyData} {i : Int} (h : 0 <= i) : cutD ds none (some i) = ds.take i.toNat:=by
 unfold cutD
 show (ds.drop 0).take ((if i < 0 then _ else min i.toNat ds.length) - 0) = _
 rw [if_neg (by omega),List.drop_zero,Nat.sub_zero]
 by_cases q : i.toNat <= ds.length
 ·rw [Nat.min_eq_left q]
 ·rw [Nat.min_eq_right (by omega),List.take_length,List.take_of_length_le (by omega)]
end L2
end

section
set_option Elab.async false
set_option linter.all false
set_option maxRecDepth 100000
namespace L2
open PySem PySem.Spec PyProof.Rows
def fmtV : V->Option Str
 | .str x=>if x.length <= 1000 then some x else none
 | .int i=>if i.natAbs.log2 < 1920 then some (toString i : String) else none
 | _=>none
def tFmt (te : TE) : TE:=fun σ H Q=>te σ H fun v H1=>∃ x,fmtV v = some x/\Q (.str x) H1
abbrev TJ:=St->Hp->Str->(Str->Hp->Prop)->Prop
def tJ0 : TJ:=fun _ H acc Q=>acc.length <= sizeLine/\Q acc H
def tJ1 (te : TE) (r : TJ) : TJ:=fun σ H acc Q=>te σ H fun v H1=>∃ y,v = .str y/\(acc ++ y).length <= sizeLine/\r σ H1 (acc ++ y) Q
def PJ (X : Cx) (vs : List Expr) (t : TJ) : Prop := ∀ (pins : List (Addr × Obj)) (s : Shared) (σ : St) (H : Hp) (acc : Str) (Q : Str->Hp->Prop),Inv X pins σ H s->t σ H acc Q ->
 Joins (model X.prog X.w) X.A X.xe (evalEach vs X.env) acc (fun out s₁=>out.length <= sizeLine/\∃ H',Inv X pins σ H' s₁/\Q out H') s
section
variable {X : Cx} {e v₁ v₂ : Expr} {es rest : List Expr} {te : TE} {r : TJ} {pos : Pos}
theorem pj_nil : PJ X [] tJ0:=fun pins s σ H acc Q I h=>⟨h.1,H,I,h.2⟩
theorem pj_cons (he : PE X e te) (hr : PJ X es r) (h : evalEach (e :: es) X.env = eval e X.env :: evalEach es X.env:=by rfl) : PJ X (e :: es) (tJ1 te r):=fun pins s σ H acc Q I q=>by
 rw [h]
 refine thn (he pins s σ H _ I q) fun u s1 ⟨v,H1,I1,rv,y,ev,hl,q1⟩=>?_
 subst ev
 obtain ⟨tk,rfl⟩ : ∃ tk,u = Value.str y tk:=rv
 exact ⟨y,tk,rfl,hl,hr pins s1 σ H1 _ Q I1 q1⟩
def tJoin (r : TJ) : TE:=fun σ H Q=>r σ H Str.empty fun x H1=>Q (.str x) H1
theorem joins_mono {M : Model} {A : Around} {E : Value->Shared->Prop} {Q Q' : Str->Shared->Prop} (hq : ∀ out s,Q out s->Q' out s) : ∀ (l : List (Sem Value)) (acc : Str) (s : Shared),Joins M A E l acc Q s->Joins M A E l acc Q' s
 | [],acc,s,h=>hq _ _ h
 | _ :: l,acc,s,h=>thn h fun v s1 ⟨y,tk,ev,hl,z1⟩=>⟨y,tk,ev,hl,joins_mono hq l _ _ z1⟩
theorem pe_join (h : PJ X (v₁ :: v₂ :: rest) r) : PE X (.JoinedStr (v₁ :: v₂ :: rest) pos) (tJoin r):=fun pins s σ H Q I q =>
 wpAny_JoinedStr (joins_mono (fun out s1 ⟨hl,H',I',q'⟩=>⟨hl,V.str out,H',I'.tok _,⟨_,rfl⟩,q'⟩) _ _ _ (h pins s σ H Str.empty _ I q))
theorem pe_fmt (he : PE X e te) : PE X (.FormattedValue e (-1) none pos) (tFmt te):=fun pins s σ H Q I q=>by
 refine wpAny_FormattedValue_plain (thn (he pins s σ H _ I q) fun u s1 ⟨v,H1,I1,rv,x,ev,q1⟩=>?_)
 cases v with
 | str y =>
  obtain ⟨tk,rfl⟩ : ∃ tk,u = Value.str y tk:=rv
  have ev : (if y.length <= 1000 then some y else none) = some x:=ev
  split at ev
  ·rename_i hl
   cases ev
   refine wpAny_formatField_str ⟨V.str _,H1,I1,⟨_,rfl⟩,q1⟩ ⟨V.str _,H1,I1.tok _,⟨_,rfl⟩,q1⟩ (Nat.le_of_lt (small1000 hl))
  ·cases ev
 | int i =>
  obtain ⟨tk,rfl⟩ : ∃ tk,u = Value.int i tk:=rv
  have ev : (if i.natAbs.log2 < 1920 then some (Str.ofString (toString i)) else none) = some x:=ev
  split at ev
  ·rename_i hl
   cases ev
   exact wpAny_formatField_int hl ⟨V.str _,H1,I1.tok _,⟨_,rfl⟩,q1⟩
  ·cases ev
 | _=>cases ev
end
end L2
end

section
set_option Elab.async false
set_option linter.all false
set_option maxRecDepth 100000
namespace L2
open PySem PySem.Spec PyProof.Rows
def TrX (h : Heap) (e : Addr) (o : Obj) (T : Addr) (fl : Value) : Prop :=
 ∃ vs oT ts,h.get? e = some { o with data:=.fields vs }/\(vs[1]? : Option Value) = some (.ref T)/\T ≠ e/\h.get? T = some oT/\oT.data = .fields ts/\(ts[3]? : Option Value) = some fl
structure Fk (ch fs : List Addr) (h h' : Heap) : Prop where
 keep : ∀ b o,b ∉ ch->b ∉ fs->h.get? b = some o->h'.get? b = some o
 slot : ∀ b o,b ∉ ch->h.get? b = some o->∃ sl,h'.get? b = some { o with slots:=sl }
 size : h.objs.size <= h'.objs.size
theorem Fk.of_same {a : Addr} {fs : List Addr} {h h' : Heap} (x : Heap.SameBut a h h') : Fk [a] fs h h' :=
 ⟨fun b o hb _ e=>(x.2 b (by simpa using hb)).trans e,fun b o hb e=>⟨o.slots,(x.2 b (by simpa using hb)).trans e⟩,Nat.le_of_eq x.1.symm⟩
theorem Fk.trans {ch ch' fs : List Addr} {h h1 h2 : Heap} (x : Fk ch fs h h1) (y : Fk ch' fs h1 h2) : Fk (ch ++ ch') fs h h2 :=
  ⟨fun b o hb hf e => y.keep b o (fun z => hb (by simp [z])) hf (x.keep b o (fun z => hb (by simp [z])) hf e),
   fun b o hb e => by
    obtain ⟨sl, e1⟩ := x.slot b o (fun z => hb (by simp [z])) e
    obtain ⟨sl2, e2⟩ := y.slot b _ (fun z => hb (by simp [z])) e1
    exact ⟨sl2, e2⟩, Nat.le_trans x.size y.size⟩
theorem Fk.mono {ch ch' fs : List Addr} {h h' : Heap} (x : Fk ch fs h h') (hc : ∀ b ∈ ch,b ∈ ch') : Fk ch' fs h h' :=
 ⟨fun b o hb hf e=>x.keep b o (fun z=>hb (hc b z)) hf e,fun b o hb e=>x.slot b o (fun z=>hb (hc b z)) e,x.size⟩
section
variable {M : Model} {A : Around} {E : Value->Shared->Prop} {s : Shared} {Q : Unit->Shared->Prop}
theorem setF {a : Addr} {o : Obj} {vs : Array Value} {i : Nat} {x : Value} (ho : s.heap.get? a = some { o with data:=.fields vs }) (hi : i < vs.size)
  (h : ∀ h',h'.get? a = some { o with data:=.fields (vs.setIfInBounds i x) }->Heap.SameBut a s.heap h'->Q () { s with heap:=h' }) : wpAny M A (setField (.ref a) i x) Q E s:=by
 refine wpAny_setField ho rfl hi (h _ ?_ (Heap.SameBut.update ..))
 exact Heap.get?_update_self _ ho rfl
variable {base : Heap} {env : Env} {outer : List Env} {L e T : Addr} {o : Obj} {vs : Array Value} {head fl : Value} {hadNext : Bool}
theorem entryX (hfr : A.frames = some (env :: outer)) (hl : s.heap.FunFrames base (env :: outer)) (hf : env.frame = some L) (he : s.heap.get? e = some { o with data := .fields vs }) (hsz : 1 < vs.size)
    (h : ∀ h' T, s.heap.objs.size ≤ T → TrX h' e o T (rawInt L) → Fk [e] (frs (env :: outer)) s.heap h' → Q () { s with heap := h' }) :
    wpAny M A (do let a ← frameOf env
                  let pl ← entryPlaceOf L hadNext
                  let b ← EntryCells.newEntry head a .none (rawInt L) .none pl
                  setField (.ref e) 1 b) Q E s := by
  have nfr : e ∉ frs (env :: outer) := fun z => by
    obtain ⟨_, ob, hob, nf⟩ := hl.mem z
    rw [he] at hob
    cases hob
    exact nf vs rfl
  refine wpAny_bind (wpAny_frameOf_fun hfr hl hf fun h1 ⟨z1, z2, z3⟩ => wpAny_bind (wpAny_entryPlaceOf fun pl hpl => ?_))
  unfold EntryCells.newEntry newFields
  refine wpAny_bind (wpAny_newObj_type ?_ (hpl.sizeOk5 _ _ _ _ _))
  have e1 : h1.get? e = some { o with data := .fields vs } := (z2 e nfr).trans he
  refine setF (o := o) (Heap.get?_push_of_some _ e1) hsz fun h2 e2 sb => h h2 h1.objs.size (Nat.le_of_eq z1.symm) ?_ ?_
  · have nT : h1.objs.size ≠ e := Nat.ne_of_gt (Heap.lt_size e1)
    refine ⟨_, _, _, e2, by simp [hsz], nT, (sb.2 _ nT).trans (Heap.get?_push_size h1 rfl), rfl, ?_⟩
    first | (simp; done) | (rcases hpl with rfl | ⟨_, _, _, _, _, _, _, rfl⟩ <;> simp)
  · refine ⟨fun b ob hb hfb eb => ?_, fun b ob hb eb => ?_, ?_⟩
    · exact (sb.2 b (by simpa using hb)).trans (Heap.get?_push_of_some _ ((z2 b hfb).trans eb))
    · obtain ⟨sl, q⟩ := z3 b ob eb
      exact ⟨sl, (sb.2 b (by simpa using hb)).trans (Heap.get?_push_of_some _ q)⟩
    · rw [sb.1, Heap.size_push, z1]
      exact Nat.le_succ _
theorem landX (ht : TrX s.heap e o T fl) {fs : List Addr} (h : ∀ h',TrX h' e o T .none->Fk [T] fs s.heap h'->Q () { s with heap:=h' }) : wpAny M A (setFlight (.ref e) none) Q E s:=by
 obtain ⟨vs,oT,ts,he,h1,nT,hT,hd,h3⟩:=ht
 unfold setFlight
 refine wpAny_bind (wpAny_field he rfl h1 ?_)
 rw [if_pos (show (Value.ref T != Value.none) = true by simp)]
 obtain ⟨c,d,dt,sl⟩:=oT
 have hd' : dt = .fields ts:=hd
 subst hd'
 have h3' : 3 < ts.size:=(Array.getElem?_eq_some_iff.mp h3).1
 refine setF (o:=⟨c,d,.fields ts,sl⟩) hT h3' fun h' e' sb=>h h' ⟨vs,_,_,(sb.2 e (Ne.symm nT)).trans he,h1,nT,e',rfl,by simp [h3']⟩ (.of_same sb)
theorem note0 (hfr : A.frames = some (env :: outer)) (hl : s.heap.FunFrames base (env :: outer)) (hf : env.frame = some L) (he : s.heap.get? e = some { o with data:=.fields vs }) (h1 : (vs[1]? : Option Value) = some .none)
  (h : ∀ h' T,s.heap.objs.size <= T->TrX h' e o T (rawInt L)->Fk [e] (frs (env :: outer)) s.heap h'->Q () { s with heap:=h' }) : wpAny M A (noteFrame (.ref e) env) Q E s:=by
 unfold noteFrame
 simp only [hf]
 refine wpAny_bind (wpAny_field he rfl h1 ?_)
 rw [if_neg (by decide)]
 exact entryX hfr hl hf he (Array.getElem?_eq_some_iff.mp h1).1 h
theorem noteT (hfr : A.frames = some (env :: outer)) (hl : s.heap.FunFrames base (env :: outer)) (hf : env.frame = some L) (ht : TrX s.heap e o T .none)
  (h : ∀ h' T',s.heap.objs.size <= T'->TrX h' e o T' (rawInt L)->Fk [T,e] (frs (env :: outer)) s.heap h'->Q () { s with heap:=h' }) : wpAny M A (noteFrame (.ref e) env) Q E s:=by
 obtain ⟨vs,oT,ts,he,h1,nT,hT,hd,h3⟩:=ht
 unfold noteFrame
 simp only [hf]
 refine wpAny_bind (wpAny_field he rfl h1 ?_)
 rw [if_pos (show (Value.ref T != Value.none) = true by simp)]
 refine wpAny_bind (wpAny_field hT hd h3 ?_)
 rw [if_neg (show ¬ ((Value.none == rawInt L) = true) by simp [rawInt])]
 obtain ⟨c,d,dt,sl⟩:=oT
 have hd' : dt = .fields ts:=hd
 subst hd'
 have nF : T ∉ frs (env :: outer):=fun z=>by
  obtain ⟨_,ob,hob,nf⟩:=hl.mem z
  rw [hT] at hob
  cases hob
  exact nf ts rfl
 refine wpAny_bind (setF (o:=⟨c,d,.fields ts,sl⟩) hT (Array.getElem?_eq_some_iff.mp h3).1 fun h2 e2 sb=>?_)
 have k2 : Fk [T] (frs (env :: outer)) s.heap h2:=.of_same sb
 refine entryX (s:={ s with heap:=h2 }) (o:=o) (vs:=vs) hfr (hl.of_keeps fun b ob hb nf=>⟨ob,(sb.2 b fun z=>by subst z;rw [hT] at hb;cases hb;exact nf ts rfl).trans hb,rfl⟩) hf ((sb.2 e (Ne.symm nT)).trans he) (Array.getElem?_eq_some_iff.mp h1).1 fun h3 T' z1 z2 z3=>h h3 T' (by rw [<- sb.1];exact z1) z2 (k2.trans z3)
theorem leave0 (hfr : A.frames = some (env :: outer)) (hl : s.heap.FunFrames base (env :: outer)) (hf : env.frame = some L) (he : s.heap.get? e = some { o with data:=.fields vs }) (h1 : (vs[1]? : Option Value) = some .none)
  (h : ∀ h' T,s.heap.objs.size <= T->TrX h' e o T .none->Fk [e] (frs (env :: outer)) s.heap h'->Q () { s with heap:=h' }) : wpAny M A (leaving env (.ref e)) Q E s:=by
 unfold leaving
 refine wpAny_bind (note0 hfr hl hf he h1 fun h' T z1 z2 z3=>landX (fs:=frs (env :: outer)) z2 fun h2 y1 y2=>h h2 T z1 y1 ?_)
 have nT : ∀ b ob,s.heap.get? b = some ob->b ≠ T:=fun b ob q z=>absurd (Heap.lt_size q) (Nat.not_lt.mpr (z ▸ z1))
 exact ⟨fun b ob hb hfb q=>y2.keep b ob (by simpa using nT b ob q) hfb (z3.keep b ob hb hfb q),fun b ob hb q=>by
  obtain ⟨sl,q1⟩:=z3.slot b ob hb q
  obtain ⟨sl2,q2⟩:=y2.slot b _ (by simpa using nT b ob q) q1
  exact ⟨sl2,q2⟩,Nat.le_trans z3.size y2.size⟩
theorem leaveT (hfr : A.frames = some (env :: outer)) (hl : s.heap.FunFrames base (env :: outer)) (hf : env.frame = some L) (ht : TrX s.heap e o T .none)
  (h : ∀ h' T',s.heap.objs.size <= T'->TrX h' e o T' .none->Fk [T,e] (frs (env :: outer)) s.heap h'->Q () { s with heap:=h' }) : wpAny M A (leaving env (.ref e)) Q E s:=by
 unfold leaving
 refine wpAny_bind (noteT hfr hl hf ht fun h' T' z1 z2 z3=>landX (fs:=frs (env :: outer)) z2 fun h2 y1 y2=>h h2 T' z1 y1 ?_)
 have nT : ∀ b ob,s.heap.get? b = some ob->b ≠ T':=fun b ob q z=>absurd (Heap.lt_size q) (Nat.not_lt.mpr (z ▸ z1))
 exact ⟨fun b ob hb hfb q=>y2.keep b ob (by simpa using nT b ob q) hfb (z3.keep b ob hb hfb q),fun b ob hb q=>by
  obtain ⟨sl,q1⟩:=z3.slot b ob hb q
  obtain ⟨sl2,q2⟩:=y2.slot b _ (by simpa using nT b ob q) q1
  exact ⟨sl2,q2⟩,Nat.le_trans z3.size y2.size⟩
end
def excObj (C : Addr) (d : Option Addr) (vs : Array Value) : Obj:={ cls:=.ref C,dict:=d,data:=.fields vs }
def excO (e C : Addr) (d : Option Addr) : HO:=.ext fun h=>∃ vs,h.get? e = some (excObj C d vs)
def excN (e C : Addr) (d : Option Addr) : HO:=.ext fun h=>∃ vs,h.get? e = some (excObj C d vs)/\(vs[1]? : Option Value) = some .none
section
variable {P : Program} {w : World} {H H' : Hp} {h h' : Heap} {e C : Addr} {d : Option Addr}
theorem excO.ok {vs : Array Value} (q : h.get? e = some (excObj C d vs)) : ObjOk P w H h e (excO e C d):=⟨⟨vs,q⟩,⟨_,q⟩,fun _ _ ⟨us,z⟩ k=>⟨us,k _ z⟩⟩
theorem excN.ok {vs : Array Value} (q : h.get? e = some (excObj C d vs)) (q1 : (vs[1]? : Option Value) = some .none) : ObjOk P w H h e (excN e C d):=⟨⟨vs,q,q1⟩,⟨_,q⟩,fun _ _ ⟨us,z,y⟩ k=>⟨us,k _ z,y⟩⟩
theorem HOk.exc (k : HOk P w H h) (q : H e = some (excO e C d)) : ∃ vs,h.get? e = some (excObj C d vs):=(k e _ q).1
theorem HOk.exn (k : HOk P w H h) (q : H e = some (excN e C d)) : ∃ vs,h.get? e = some (excObj C d vs)/\(vs[1]? : Option Value) = some .none:=(k e _ q).1
theorem HOk.fly {ch fs : List Addr} {u : HO} (k : HOk P w H h) (f : Fk ch fs h h') (hc : ∀ b ∈ ch,b = e\/H b = none) (hf : ∀ b ∈ fs,H b = none) (hm : Mut (H e)) (new : ObjOk P w (upd H e u) h' e u) : HOk P w (upd H e u) h':=fun b ob q=>by
 by_cases hb : b = e
 ·subst hb
  rw [upd_same] at q
  cases q
  exact new
 ·rw [upd_ne hb] at q
  refine (k b ob q).stay (fun c v hcb z=>f.keep c v (fun y=>?_) (fun y=>?_) z) (fun c z=>?_) (fun c xs z=>?_)
  ·rcases hc c y with rfl | n
   ·rcases hcb with rfl | n
    ·exact hb rfl
    ·rw [n] at hm;exact hm
   ·rcases hcb with rfl | n'
    ·rw [n] at q;cases q
    ·rw [n] at n';cases n'
  ·have n:=hf c y
   rcases hcb with rfl | n'
   ·rw [n] at q;cases q
   ·rw [n] at n';cases n'
  ·rw [upd_ne (fun y=>by subst y;rw [z] at hm;exact hm)];exact z
  ·rw [upd_ne (fun y=>by subst y;rw [z] at hm;exact hm)];exact z
end
end L2
end

section
set_option Elab.async false
set_option linter.all false
set_option maxRecDepth 100000
namespace L2
open PySem PySem.Spec PyProof.Rows
theorem upd_self {H : Hp} {a : Addr} {o : HO} (h : H a = some o) : upd H a o = H:=by
 funext b
 by_cases hb : b = a
 ·subst hb;rw [upd_same,h]
 ·rw [upd_ne hb]
def CXF (P : Program) (w : World) : CXT:=fun outer H s E ev s'=>∃ (e C : Addr) (d : Option Addr) (T : Addr) (H' : Hp),ev = .ref e/\s'.os = s.os/\GOk s.gens s'.gens/\Un (frs outer) [] H H' s.heap s'.heap/\HOk P w H' s'.heap /\
 s.heap.objs.size <= T/\H' T = none/\TrX s'.heap e (excObj C d #[]) T .none/\H' e = some (excO e C d)/\E (.ref e) d H'
theorem Un.fly {fs fs' ch : List Addr} {H H' : Hp} {h h1 h2 : Heap} {e : Addr} {u : HO} (x : Un fs [] H H' h h1) (f : Fk ch fs' h1 h2) (hm : Mut (H' e)) (he : ∃ o,h2.get? e = some o)
  (hc : ∀ b ∈ ch,b = e\/h.objs.size <= b) (hf : ∀ b ∈ fs',b ∈ fs\/h.objs.size <= b) : Un fs [] H (upd H' e u) h h2:=by
 have big : ∀ {b o},h.get? b = some o->¬ h.objs.size <= b:=fun q=>Nat.not_le.mpr (Heap.lt_size q)
 have ne : ∀ {b o},h.get? b = some o->H b = none->b ≠ e:=fun {b o} q n z=>by
  have:=x.free b o q n (by simp)
  rw [z] at this
  rw [this] at hm
  exact hm
 have nch : ∀ {b o},h.get? b = some o->b ≠ e->b ∉ ch:=fun {b o} q n z=>(hc b z).elim n (big q)
 refine ⟨fun b o q n hb _=>?_,fun b o q n hb _=>?_,fun b o q n _=>?_,fun b o q _=>?_,fun b xs q=>?_,fun b o v q=>?_,fun b ps q=>?_⟩
 ·exact f.keep b o (nch q (ne q n)) (fun z=>(hf b z).elim hb (big q)) (x.keep b o q n hb (by simp))
 ·obtain ⟨sl,q1⟩:=x.slot b o q n hb (by simp)
  obtain ⟨sl2,q2⟩:=f.slot b _ (nch q (ne q n)) q1
  exact ⟨sl2,q2⟩
 ·rw [upd_ne (ne q n)];exact x.free b o q n (by simp)
 ·by_cases hb : b = e
  ·rw [hb];exact he
  ·obtain ⟨o1,q1⟩:=x.there b o q (by simp)
   obtain ⟨sl2,q2⟩:=f.slot b _ (nch q hb) q1
   exact ⟨_,q2⟩
 ·have:=x.tups b xs q
  rw [upd_ne (fun z=>by rw [z] at this;rw [this] at hm;exact hm)];exact this
 ·have:=x.frzs b o v q
  rw [upd_ne (fun z=>by rw [z] at this;rw [this] at hm;exact hm)];exact this
 ·obtain ⟨more,this⟩:=x.tbls b ps q
  exact ⟨more,by rw [upd_ne (fun z=>by rw [z] at this;rw [this] at hm;exact hm)];exact this⟩
structure Fly (X : Cx) (pins : List (Addr × Obj)) (H : Hp) (s : Shared) (e C : Addr) (d : Option Addr) (T : Addr) : Prop where
 tr : TrX s.heap e (excObj C d #[]) T .none
 at_ : H e = some (excO e C d)
 big : X.s₀.heap.objs.size <= T
 free : H T = none
 loc : T ≠ X.env.locals
 cell : ∀ x c,X.env.cells.lookup x = some c->c ≠ T
 pin : ∀ p ∈ X.pn ++ pins,p.1 ≠ T
abbrev SK:=St->Addr->Addr->Option Addr->Hp->Prop
structure XeOk (X : Cx) (S : SK) : Prop where
 new : ∀ (pins : List (Addr × Obj)) (σ : St) (H : Hp) (s : Shared) (e C : Addr) (d : Option Addr),Inv X pins σ H s->H e = some (excN e C d)->S σ e C d (upd H e (excO e C d))->X.xe (.ref e) s
 fly : ∀ (pins : List (Addr × Obj)) (σ : St) (H : Hp) (s : Shared) (e C : Addr) (d : Option Addr) (T : Addr),Inv X pins σ H s->Fly X pins H s e C d T->S σ e C d H->X.xe (.ref e) s
section
variable {CX : CXT} {P : Program} {w : World} {K : PySem.W.Frag} {mg : Str->Option Value} {base : Heap} {N : List Str} {qual : Str} {scope : Scope} {f : Addr} {cdv : Value} {A : Around} {outer : List Env} {s₀ : Shared} {H₀ : Hp} {E : XK}
theorem xe_cx : XeOk (cxOf (CXF P w) P w K mg base N qual scope f cdv A outer s₀ H₀ E) (fun _ e _ d H=>E (.ref e) d H) where
 new:=fun pins σ H s e C d I he hS=>by
  obtain ⟨vs,q,q1⟩:=I.hok.exn he
  show wpAny _ _ (leaving _ _) _ _ _
  refine leave0 (base:=base) (o:=excObj C d #[]) (vs:=vs) I.ok.frames I.stack rfl q q1 fun h' T z1 z2 z3=>?_
  have hT : H T = none:=I.hok.fresh z1
  have hm : Mut (H e):=by rw [he];trivial
  obtain ⟨vs',_,_,q',_⟩:=id z2
  have neT : T ≠ e:=z2.elim fun _ ⟨_,_,_,_,n,_⟩=>n
  exact ⟨e,C,d,T,upd H e (excO e C d),rfl,I.os,I.bare,I.base.fly z3 hm ⟨_,q'⟩ (fun b hb=>.inl (by simpa using hb)) (fun b hb=>(List.mem_cons.mp (I.stkSub b hb)).elim (fun z=>.inr (z ▸ I.ok.above)) .inl),
   I.hok.fly z3 (fun b hb=>.inl (by simpa using hb)) I.stkFree hm (excO.ok q'),Nat.le_trans I.sz z1,by rw [upd_ne neT];exact hT,z2,upd_same,hS⟩
 fly:=fun pins σ H s e C d T I F hS=>by
  show wpAny _ _ (leaving _ _) _ _ _
  refine leaveT (base:=base) I.ok.frames I.stack rfl F.tr fun h' T' z1 z2 z3=>?_
  have hT : H T' = none:=I.hok.fresh z1
  have hm : Mut (H e):=by rw [F.at_];trivial
  obtain ⟨vs',_,_,q',_⟩:=id z2
  have u:=upd_self F.at_
  exact ⟨e,C,d,T',H,rfl,I.os,I.bare,u ▸ (I.base.fly (u:=excO e C d) z3 hm ⟨_,q'⟩ (fun b hb=>by
    rcases List.mem_cons.mp hb with rfl | hb
    ·exact .inr F.big
    ·exact .inl (by simpa using hb)) (fun b hb=>(List.mem_cons.mp (I.stkSub b hb)).elim (fun z=>.inr (z ▸ I.ok.above)) .inl)),
   u ▸ (I.hok.fly (u:=excO e C d) z3 (fun b hb=>by
    rcases List.mem_cons.mp hb with rfl | hb
    ·exact .inr F.free
    ·exact .inl (by simpa using hb)) I.stkFree hm (excO.ok q')),Nat.le_trans I.sz z1,hT,z2,F.at_,hS⟩
end
section
variable {X : Cx} {S : SK}
theorem XeOk.pass (hX : XeOk X S) {pins : List (Addr × Obj)} {σ : St} {H : Hp} {s : Shared} {ev : Value} {s' : Shared} (I : Inv X pins σ H s)
  (h : CXF X.prog X.w X.stack H s (fun v d H'=>∀ e C,v = .ref e->H' e = some (excO e C d)->S σ e C d H') ev s') : X.xe ev s':=by
 obtain ⟨e,C,d,T,H',rfl,os,g,un,hok,hT,hTn,tr,he,hE⟩:=h
 have I' : Inv X pins σ H' s':=I.call' (ch:=[]) os un hok g (by simp)
 refine hX.fly pins σ H' s' e C d T I' ⟨tr,he,Nat.le_trans I.sz hT,hTn,fun z=>?_,fun x c q z=>?_,fun p hp z=>?_⟩ (hE e C rfl he)
 ·exact absurd I.lt (Nat.not_lt.mpr (z ▸ hT))
 ·obtain ⟨v,o,ho,_⟩:=I.cell x c q
  exact absurd (Heap.lt_size ho) (Nat.not_lt.mpr (z ▸ hT))
 ·exact absurd (Heap.lt_size (I.pin p hp).1) (Nat.not_lt.mpr (z ▸ hT))
variable {k j : Nat} {f : Addr} {fd : FuncData} {ps : List Str} {sp : Sp} {x : Str} {p pos : Pos} {e : Expr} {es : List Expr} {t : TA}
def tCallX (sp : Sp) (S : SK) (t : TA) : TE:=fun σ H Q=>t σ H fun vs H1=>sp vs H1 Q fun v d H'=>∀ e C,v = .ref e->H' e = some (excO e C d)->S σ e C d H'
def CallOkX (P : Program) (w : World) (K : PySem.W.Frag) (mg : Str->Option Value) (base : Heap) (x : Str) (k : Nat) (ps : List Str) (sp : Sp) : Prop :=
 ∃ f fd,FnOk P w K mg base (CXF P w) k f fd ps sp/\mg x = some (.ref f)/\PySem.W.keepIn K (.ref f) = true/\Binds K fd ps []
theorem pe_clX (hX : XeOk X S) (C : CallOkX X.prog X.w X.K X.mg X.base x k ps sp) (hr : Room j X.A) (ha : PA X (e :: es) t) (hg : Gl X x:=by rfl) (hj : k <= j:=by decide) (hdb : (x == ("__debug__" : Str)) = false:=by decide)
  (he : starEach (e :: es) X.env = (false,eval e X.env) :: starEach es X.env:=by rfl) (hpl : (backTo pos (starEach es X.env)).any (·.1) = false:=by rfl) : PE X (.Call (.Name x p) (e :: es) [] pos) (tCallX sp S t):=by
 obtain ⟨f,fd,F,hm,hk,hb⟩:=C
 intro pins s σ H Q I h
 refine wpAny_Call_Name_kw (ld_glob I hg hm ?_ hdb)
 refine PySem.W.callWith_K (h₀:=X.base) I.ok.mod.kin hk (thn (ha pos pins s σ H _ I h) fun us s1 ⟨vs,H1,I1,r,q⟩=>⟨I1.kIn,?_⟩) he hpl
 have hl : us.length = ps.length:=by rw [<- r.length];exact F.len _ _ _ _ q
 have hb':=hb s1 us I1.kIn (by simpa using hl)
 rw [List.append_nil] at hb'
 refine wpAny_call (codeAny_mono (F.run X.A X.stack s1 H1 ⟨us,[]⟩ us vs Q _ (hr.mono hj) I1.env0 hb' r q) fun r s' hq=>?_)
 cases r with
 | error ev=>exact hX.pass I1 hq
 | ok fl =>
  cases fl with
  | ret u=>exact I1.after hq
  | next=>exact False.elim hq
  | brk=>exact False.elim hq
  | cont=>exact False.elim hq
end
section
variable {P : Program} {w : World} {K : PySem.W.Frag} {mg : Str->Option Value} {base : Heap}
theorem Fun.okX {x qual : Str} {st : Stmt} {f : Addr} {fd : FuncData} {N ps : List Str} {k : Nat} {sp : Sp} (F : Fun K x qual st f fd) (S : FnScope N ps (defScope st)) (len : ∀ vs H Q E,sp vs H Q E->vs.length = ps.length)
  (hbody : ∀ (cdv : Value) (A : Around) (outer : List Env) (s : Shared) (H : Hp) (vs : List V) (Q : VK) (E : XK),Room k (A.deeper (envOfC qual (defScope st) s.heap.objs.size f cdv))->sp vs H Q E ->
   ∃ t,PSs (cxOf (CXF P w) P w K mg base N qual (defScope st) f cdv A outer s H E) (defBody st) t/\t { nx:=fun _ H'=>Q .non H',rt:=Q } (start N vs) H) : FnOk P w K mg base (CXF P w) (k + 1) f fd ps sp:=by
 obtain ⟨oc,od,kV,doc,pm,an,cdv,ct,osl,rfl,lk,hcd⟩:=F.ex
 exact fn_of lk hcd S len fun A outer s H vs Q E hr hsp=>hbody cdv A outer s H vs Q E hr hsp
theorem CallOk.x {x : Str} {k : Nat} {ps : List Str} {sp : Sp} (C : CallOk P w K mg base x k ps sp) : CallOkX P w K mg base x k ps sp:=by
 obtain ⟨f,fd,F,r⟩:=C
 refine ⟨f,fd,⟨F.len,fun A outer s H args us vs Q E hr he hb hv hs=>codeAny_mono (F.run A outer s H args us vs Q E hr he hb hv hs) fun r s' q=>?_⟩,r⟩
 cases r with
 | error e=>exact q.elim
 | ok fl=>cases fl <;> exact q
end
end L2
end

section
set_option Elab.async false
set_option linter.all false
set_option maxRecDepth 100000
namespace L2
open PySem PySem.Spec PyProof.Rows
abbrev Cx.tr (X : Cx) (S : SK) (pins : List (Addr × Obj)) : Cx :=
 { X with pn:=X.pn ++ pins,xe:=fun ev s'=>∃ σ H e C d,ev = .ref e/\Inv X pins σ H s'/\(H e = some (excN e C d)\/∃ T,Fly X pins H s' e C d T)/\S σ e C d (upd H e (excO e C d)) }
abbrev Cx.hand (X : Cx) (e : Addr) : Cx:={ X with A:=X.A.mark (some (.ref e)),calm:=false,xe:=fun _ _=>False }
section
variable {X : Cx} {S : SK} {pins pins' : List (Addr × Obj)} {σ : St} {H : Hp} {s : Shared} {e : Addr}
theorem Inv.tr (I : Inv X pins σ H s) : Inv (X.tr S pins) [] σ H s :=
 ⟨⟨I.ok.mod,I.ok.kind,I.ok.glob,I.ok.blt,I.ok.above,I.ok.inj,I.ok.has,I.ok.cab,I.ok.hd,I.ok.frames,I.ok.stk,I.ok.exf,I.ok.bs,I.ok.bsz,I.ok.noex,I.ok.exfs,I.ok.funs,I.ok.frf⟩,I.os,I.bare,I.base,I.loc,I.cell,I.free,I.freeC,fun p hp=>I.pin p (by simpa using hp),I.hok,I.len⟩
theorem Inv.untr (I : Inv (X.tr S pins) pins' σ H s) : Inv X pins σ H s :=
 ⟨⟨I.ok.mod,I.ok.kind,I.ok.glob,I.ok.blt,I.ok.above,I.ok.inj,I.ok.has,I.ok.cab,I.ok.hd,I.ok.frames,I.ok.stk,I.ok.exf,I.ok.bs,I.ok.bsz,I.ok.noex,I.ok.exfs,I.ok.funs,I.ok.frf⟩,I.os,I.bare,I.base,I.loc,I.cell,I.free,I.freeC,fun p hp=>I.pin p (List.mem_append_left _ hp),I.hok,I.len⟩
theorem Inv.hand (I : Inv X pins σ H s) : Inv (X.hand e) pins σ H s :=
 ⟨⟨I.ok.mod,I.ok.kind,I.ok.glob,I.ok.blt,I.ok.above,I.ok.inj,I.ok.has,I.ok.cab,(fun z=>by cases z),I.ok.frames,I.ok.stk,I.ok.exf,I.ok.bs,I.ok.bsz,I.ok.noex,I.ok.exfs,I.ok.funs,I.ok.frf⟩,I.os,I.bare,I.base,I.loc,I.cell,I.free,I.freeC,I.pin,I.hok,I.len⟩
theorem Inv.unhand (ok : X.Ok) (I : Inv (X.hand e) pins σ H s) : Inv X pins σ H s :=
 ⟨ok,I.os,I.bare,I.base,I.loc,I.cell,I.free,I.freeC,I.pin,I.hok,I.len⟩
theorem SP.untr {D : Ends} {f : Flow} (h : SP (X.tr S pins) [] D f s) : SP X pins D f s:=by
 cases f with
 | next=>obtain ⟨σ',H',I,q⟩:=h;exact ⟨σ',H',I.untr,q⟩
 | brk=>obtain ⟨σ',H',I,q⟩:=h;exact ⟨σ',H',I.untr,q⟩
 | cont=>obtain ⟨σ',H',I,q⟩:=h;exact ⟨σ',H',I.untr,q⟩
 | ret u=>obtain ⟨v,σ',H',I,r,q⟩:=h;exact ⟨v,σ',H',I.untr,r,q⟩
theorem xe_tr : XeOk (X.tr S pins) S where
 new:=fun pins' σ H s e C d I he hS=>⟨σ,H,e,C,d,rfl,I.untr,.inl he,hS⟩
 fly:=fun pins' σ H s e C d T I F hS=>⟨σ,H,e,C,d,rfl,I.untr,.inr ⟨T,F.tr,F.at_,F.big,F.free,F.loc,F.cell,fun p hp=>F.pin p (List.mem_append_left _ hp)⟩,by rw [upd_self F.at_];exact hS⟩
theorem Inv.flew {ch : List Addr} {h' : Heap} {C : Addr} {d : Option Addr} {vs : Array Value} (I : Inv X pins σ H s) (f : Fk ch (frs X.stack) s.heap h') (hm : Mut (H e)) (q : h'.get? e = some (excObj C d vs))
  (hc : ∀ b ∈ ch,b = e\/(H b = none/\X.s₀.heap.objs.size <= b/\b ≠ X.env.locals/\(∀ x c,X.env.cells.lookup x = some c->c ≠ b)/\∀ p ∈ X.pn ++ pins,p.1 ≠ b)) :
  Inv X pins σ (upd H e (excO e C d)) { s with heap:=h' }:=by
 have nU : ∀ b,H b = none->b ≠ e:=fun b n z=>by rw [z] at n;rw [n] at hm;exact hm
 have nD : ∀ b,H b = none->b ∉ ch.filter (· != e)->b ∉ ch:=fun b n hb z=>hb (List.mem_filter.mpr ⟨z,by simpa using nU b n⟩)
 refine I.step (g':=s.gens) (d':=s.drawn) (t':=s.toks) (ch:=ch.filter (· != e)) (fun b hb=>?_) (fun b o hL hf hb q n=>f.keep b o (nD b n hb) (fun z=>(List.mem_cons.mp (I.stkSub b z)).elim hL hf) q)
  (fun b o _ _ hb q n=>f.slot b o (nD b n hb) q) (fun b o _ _ n=>by rw [upd_ne (nU b n)];exact n) (fun b o hb z=>?_) (fun b xs z=>?_) (fun b o u z=>?_) (fun b ps z=>?_) (fun m hn=>?_) (I.hok.fly f (fun b hb=>(hc b hb).imp id (·.1)) I.stkFree hm (excO.ok q)) ⟨I.bare.1,Nat.le_refl _⟩
 ·obtain ⟨h1,h2⟩:=List.mem_filter.mp hb
  rcases hc b h1 with z | ⟨_,h3,h4,h5,h6⟩
  ·rw [z] at h2;simp at h2
  ·exact ⟨.inr h3,h4,h5,h6⟩
 ·by_cases hbe : b = e
  ·exact ⟨_,hbe ▸ q⟩
  ·obtain ⟨sl,z1⟩:=f.slot b o (fun y=>hb (List.mem_filter.mpr ⟨y,by simpa using hbe⟩)) z
   exact ⟨_,z1⟩
 ·rw [upd_ne (fun y=>by rw [y] at z;rw [z] at hm;exact hm)];exact z
 ·rw [upd_ne (fun y=>by rw [y] at z;rw [z] at hm;exact hm)];exact z
 ·exact ⟨#[],by rw [upd_ne (fun y=>by rw [y] at z;rw [z] at hm;exact hm)];simpa using z⟩
 ·obtain ⟨o,es,ep,ho,r⟩:=hn
  have ny : X.env.locals ∉ ch:=fun y=>by
   rcases hc _ y with y | ⟨_,_,y,_⟩
   ·exact nU _ I.free y
   ·exact y rfl
  obtain ⟨sl,z⟩:=f.slot _ o ny ho
  exact ⟨_,es,ep,z,r⟩
end
section
variable {X : Cx} {body suite : List Stmt} {b₀ : Stmt} {x n : Str} {np pos hpos : Pos} {i : Nat} {D₀ : Addr} {tb : SK->TS} {ts : Addr->TS}
def tTry (K : PySem.W.Frag) (i : Nat) (D₀ : Addr) (tb : SK->TS) (ts : Addr->TS) : TS:=fun D σ H=>tb (fun σ' e C _ H'=>PySem.W.mroIn K C (.ref D₀) = some true /\
 ts e { nx:=fun σ2 H2=>D.nx (σ2.set i none) H2,rt:=D.rt,bk:=fun σ2 H2=>D.bk (σ2.set i none) H2,ct:=fun σ2 H2=>D.ct (σ2.set i none) H2 } (σ'.set i (some (.ref e))) H') D σ H
theorem unbind_ok {pins : List (Addr × Obj)} {σ : St} {H : Hp} {s : Shared} {M : Model} {A : Around} {E : Value->Shared->Prop} {Q : Unit->Shared->Prop} (I : Inv X pins σ H s) (hN : X.N.Nodup) (hi : X.N[i]? = some n) (hk : X.env.scope.names.lookup n = some .local)
  (h : ∀ s',Inv X pins (σ.set i none) H s'->Q () s') : wpAny M A (do bindName X.env n .none;unbindBehindTheSuite X.env n pos) Q E s:=by
 obtain ⟨m,hn,hl⟩:=id I.loc
 refine wpAny_nameGoes_keeps hk hn (by rw [I.ok.kind];rfl) fun h' v hn' sb=>h _ ?_
 obtain ⟨oL,_,_,hoL,_⟩:=id hn
 have keep : ∀ b o,b ≠ X.env.locals->s.heap.get? b = some o->h'.get? b = some o:=fun b o hb q=>(sb.2 b hb).trans q
 have hσ : ∀ (j : Nat) (w : V),(σ.set i none)[j]? = some (some w)->j ≠ i/\σ[j]? = some (some w):=fun j w q=>by
  by_cases hj : j = i
  ·subst hj
   rw [List.getElem?_set] at q
   simp only [if_true] at q
   split at q <;> cases q
  ·rw [List.getElem?_set_ne (Ne.symm hj)] at q
   exact ⟨hj,q⟩
 have I2 : Inv X pins (σ.set i none) H s:=I.weak (by simp) fun j w q=>(hσ j w q).2
 have hx : ∀ j y w,X.N[j]? = some y->(σ.set i none)[j]? = some (some w)->y ≠ n:=fun j y w h1 h2 z=>(hσ j w h2).1 (nodup_ix hN h1 (z ▸ hi))
 refine ⟨I.ok,I.os,I.bare,⟨fun b o q nn hb hx=>keep b o ?_ (I.base.keep b o q nn hb hx),fun b o q nn hb hx=>?_,I.base.free,fun b o q hx=>?_,I.base.tups,I.base.frzs,I.base.tbls⟩,⟨_,hn',fun j y w h1 h2 h3=>?_⟩,fun y c q=>?_,I.free,I.freeC,fun p hp=>?_,fun b ob q=>?_,I2.len⟩
 ·exact Nat.ne_of_lt (Nat.lt_of_lt_of_le (Heap.lt_size q) I.ok.above)
 ·obtain ⟨sl,q1⟩:=I.base.slot b o q nn hb hx
  exact ⟨sl,keep b _ (Nat.ne_of_lt (Nat.lt_of_lt_of_le (Heap.lt_size q) I.ok.above)) q1⟩
 ·obtain ⟨o',q1⟩:=I.base.there b o q hx
  exact ⟨o',keep b _ (Nat.ne_of_lt (Nat.lt_of_lt_of_le (Heap.lt_size q) I.ok.above)) q1⟩
 ·obtain ⟨u,r,l⟩:=hl j y w h1 (hσ j w h2).2 h3
  refine ⟨u,r,?_⟩
  rcases l with ⟨k,q⟩ | ⟨k,c,q,z⟩
  ·exact .inl ⟨k,by simp [hx j y w h1 h2,q]⟩
  ·exact .inr ⟨k,c,q,z.sameBut sb (I.cne y c q)⟩
 ·obtain ⟨v,z⟩:=I.cell y c q
  exact ⟨v,z.sameBut sb (I.cne y c q)⟩
 ·obtain ⟨q,nn,ne,nf,dd⟩:=I.pin p hp
  exact ⟨keep _ _ ne q,nn,ne,nf,dd⟩
 ·refine (I.hok b ob q).stay (fun c v hc z=>keep c v (fun y=>?_) z) (fun _ z=>z) fun _ _ z=>z
  subst y
  rcases hc with rfl | hc
  ·rw [I.free] at q;cases q
  ·rw [I.free] at hc;cases hc
def excClsIn (K : PySem.W.Frag) (D : Addr) : Bool:=(PySem.W.clsIn K D).isSome && PySem.W.instIn K (.ref D) (.type "tuple") == some false && PySem.W.mroIn K D (.type "BaseException") == some true
open PySem.W in
theorem exc_matches {M : Model} {A : Around} {E : Value->Shared->Prop} {s : Shared} {K : PySem.W.Frag} {D e C : Addr} {oe : Obj} {Q : Bool->Shared->Prop} (X : K.In s.heap) (hD : excClsIn K D = true) (he : s.heap.get? e = some oe) (hc : oe.cls = .ref C)
  (hs : PySem.W.mroIn K C (.ref D) = some true) (hq : Q true s) : wpAny M A (excMatches (.ref e) (.ref D)) Q E s:=by
 unfold excClsIn at hD
 rw [Bool.and_eq_true,Bool.and_eq_true,beq_iff_eq,beq_iff_eq] at hD
 obtain ⟨⟨h1,h2⟩,h3⟩:=hD
 obtain ⟨hh,g,dr,tk,os⟩:=s
 have L1:=looks_instIn (M:=M) X h2
 have L2:=looks_mroIn (M:=M) X h3
 have L3:=looks_mroIn (M:=M) X hs
 obtain ⟨oD,hD1,cdD,hD2⟩ : ∃ oD,hh.get? D = some oD/\∃ cd,oD.data = .cls cd:=by
  unfold clsIn at h1
  split at h1
  ·rename_i ho
   exact ⟨_,X _ _ ho,_,rfl⟩
  ·cases h1
 have T : Looks M hh (typeOf (.ref e)) (.ref C):=hc ▸ (Looks.ld he).andThen .now
 unfold excMatches isExcClass
 repeat (first | (with_reducible refine Looks.at L1 ?_) | (with_reducible refine Looks.at L2 ?_) | (with_reducible refine Looks.at L3 ?_) | (with_reducible refine Looks.at T ?_) | (with_reducible refine ks_wpAny_isType_cls hD1 hD2 ?_) | wp_step)
 all_goals exact hq
theorem ps_try (hb : ∀ pins S,PSs (X.tr S pins) body (tb S)) (hh : ∀ e,PSs (X.hand e) (b₀ :: suite) (ts e)) (hN : X.N.Nodup) (hi : X.N[i]? = some n) (hm : X.mg x = some (.ref D₀)) (hD : excClsIn X.K D₀ = true) (hk : X.env.scope.names.lookup n = some .local:=by rfl)
  (hg : Gl X x:=by rfl) (hs : X.stack = X.env :: X.outer:=by rfl) (hf : X.env.frame = some X.env.locals:=by rfl) (hdb : (x == ("__debug__" : Str)) = false:=by decide) :
  PS X (.Try body [.ExceptHandler (some (.Name x np)) (some n) (b₀ :: suite) hpos] [] [] pos) (tTry X.K i D₀ tb ts):=by
 intro pins s σ H D I h
 refine wpAny_Try_except (wpAny_mono (hb pins _ [] s σ H D I.tr h) (fun f s1 q=>?_) fun ev s1 q=>?_)
 ·cases f with
  | next=>exact wpAny_execs_nil q.untr
  | ret u=>exact q.untr
  | brk=>exact q.untr
  | cont=>exact q.untr
 obtain ⟨σ1,H1,e,C,d,rfl,I1,hfl,hsub,hS⟩:=q
 have fr : X.A.frames = some (X.env :: X.outer):=hs ▸ I1.ok.frames
 have new : ∀ {T : Addr},s1.heap.objs.size <= T->X.s₀.heap.objs.size <= T/\T ≠ X.env.locals/\(∀ x c,X.env.cells.lookup x = some c->c ≠ T)/\∀ p ∈ X.pn ++ pins,p.1 ≠ T:=fun {T} hT =>
  ⟨Nat.le_trans I1.sz hT,fun z=>absurd I1.lt (Nat.not_lt.mpr (z ▸ hT)),fun y c q z=>by
   obtain ⟨v,o,ho,_⟩:=I1.cell y c q
   exact absurd (Heap.lt_size ho) (Nat.not_lt.mpr (z ▸ hT)),fun p hp z=>absurd (Heap.lt_size (I1.pin p hp).1) (Nat.not_lt.mpr (z ▸ hT))⟩
 generalize hH2 : upd H1 e (excO e C d) = H2 at hS
 have a2 : H2 e = some (excO e C d):=by rw [<- hH2];exact upd_same
 have m2 : Mut (H2 e):=by rw [a2];trivial
 have noted : ∀ {Q : Unit->Shared->Prop} {E : Value->Shared->Prop},(∀ h' T,s1.heap.objs.size <= T->TrX h' e (excObj C d #[]) T (rawInt X.env.locals)->Inv X pins σ1 H2 { s1 with heap:=h' }->Q () { s1 with heap:=h' }) ->
   wpAny (model X.prog X.w) X.A (noteFrame (.ref e) X.env) Q E s1:=by
  intro Q E k
  rcases hfl with he | ⟨T,F⟩
  ·obtain ⟨vs,q,q1⟩:=I1.hok.exn he
   refine note0 (base:=X.base) (o:=excObj C d #[]) fr (hs ▸ I1.stack) hf q q1 fun h' T z1 z2 z3=>k h' T z1 z2 ?_
   obtain ⟨vs',_,_,q',_⟩:=id z2
   exact hH2 ▸ I1.flew (by rw [hs];exact z3) (by rw [he];trivial) q' fun b hb=>.inl (by simpa using hb)
  ·refine noteT (base:=X.base) fr (hs ▸ I1.stack) hf F.tr fun h' T' z1 z2 z3=>k h' T' z1 z2 ?_
   obtain ⟨vs',_,_,q',_⟩:=id z2
   refine hH2 ▸ I1.flew (by rw [hs];exact z3) (by rw [F.at_];trivial) q' fun b hb=>?_
   rcases List.mem_cons.mp hb with rfl | hb
   ·exact .inr ⟨F.free,F.big,F.loc,F.cell,F.pin⟩
   ·exact .inl (by simpa using hb)
 have land : ∀ {A : Around} {Q : Unit->Shared->Prop} {E : Value->Shared->Prop} {s2 : Shared} {T : Addr} {fl : Value},s1.heap.objs.size <= T->TrX s2.heap e (excObj C d #[]) T fl->Inv X pins σ1 H2 s2 ->
   (∀ h',TrX h' e (excObj C d #[]) T .none->Inv X pins σ1 H2 { s2 with heap:=h' }->Q () { s2 with heap:=h' })->wpAny (model X.prog X.w) A (setFlight (.ref e) none) Q E s2:=by
  intro A Q E s2 T fl z1 z2 I2 k
  refine landX (fs:=frs X.stack) z2 fun h' y1 y2=>k h' y1 ?_
  obtain ⟨vs',_,_,q',_⟩:=id y1
  have nT : T ≠ e:=y1.elim fun _ ⟨_,_,_,_,z,_⟩=>z
  have f2 : H2 T = none:=by rw [<- hH2,upd_ne nT];exact I1.hok.fresh z1
  have:=I2.flew (e:=e) (C:=C) (d:=d) (vs:=vs') y2 m2 q' fun b hb=>.inr (by rw [show b = T by simpa using hb];exact ⟨f2,new z1⟩)
  rwa [upd_self a2] at this
 refine noted fun h1 T z1 z2 I2=>land z1 z2 I2 fun h2 z3 I3=>?_
 refine wpAny_handleBy_cons (codeAny_handlers_test (ld_glob (X:=X.hand e) I3.hand hg hm ?_ hdb)) (by intro q;cases q)
 obtain ⟨vs3,q3⟩:=I3.hok.exc a2
 refine exc_matches I3.kIn hD q3 rfl hsub ?_
 refine codeAny_handlers_suite_as (land (A:=X.A.mark (some (.ref e))) z1 z3 I3 fun h4 z4 I4=>?_)
 refine store_ok (X:=X.hand e) I4.hand hN hi (.inl hk) (show RelV (.ref e) (.ref e) from rfl) (fun s5 I5=>?_) (.inr hk)
 refine wpAny_mono (hh e pins s5 _ H2 _ I5 hS) (fun f s6 q=>?_) fun _ _ z=>z.elim
 cases f with
 | next =>
  obtain ⟨σ6,H6,I6,q6⟩:=q
  exact unbind_ok (I6.unhand I1.ok) hN hi hk fun s7 I7=>⟨_,_,I7,q6⟩
 | brk =>
  obtain ⟨σ6,H6,I6,q6⟩:=q
  exact unbind_ok (I6.unhand I1.ok) hN hi hk fun s7 I7=>⟨_,_,I7,q6⟩
 | cont =>
  obtain ⟨σ6,H6,I6,q6⟩:=q
  exact unbind_ok (I6.unhand I1.ok) hN hi hk fun s7 I7=>⟨_,_,I7,q6⟩
 | ret u =>
  obtain ⟨v,σ6,H6,I6,r,q6⟩:=q
  exact unbind_ok (I6.unhand I1.ok) hN hi hk fun s7 I7=>⟨v,_,_,I7,r,q6⟩
end
end L2
end

section
set_option Elab.async false
set_option linter.all false
set_option maxRecDepth 100000
namespace L2
open PySem PySem.Spec PyProof.Rows
def raisesIn (K : PySem.W.Frag) (C : Addr) : Bool:=PySem.W.mroIn K C (.type "BaseException") == some true && PySem.W.typeIn K (.ref C) == some (.type "type")
def tRaise (K : PySem.W.Frag) (S : SK) (te : TE) : TS:=fun _ σ H=>te σ H fun v H1=>∃ e C d,v = .ref e/\H1 e = some (excN e C d)/\raisesIn K C = true/\S σ e C d (upd H1 e (excO e C d))
section
variable {X : Cx} {S : SK} {e : Expr} {te : TE} {pos : Pos}
open PySem.W in
theorem ps_raise (hX : XeOk X S) (he : PE X e te) (hc : X.calm = true := by rfl) : PS X (.Raise (some e) none pos) (tRaise X.K S te) := by
  intro pins s σ H D I h
  rw [arm_exec_Raise]
  show wpAny _ _ (do standAt pos; raiseStmt X.env (some (do let v ← eval e X.env; standAt pos; pure v)) none) _ _ _
  refine wpAny_bind (wpAny_standAt ?_)
  unfold raiseStmt
  refine wpAny_bind (wpAny_bind (thn (he pins s σ H _ I h) fun u s1 ⟨v, H1, I1, r, a, C, d, ev, a1, hr, q⟩ => wpAny_bind (wpAny_standAt (wpAny_pure ?_))))
  subst ev
  obtain rfl : u = Value.ref a := r
  obtain ⟨vs, o1, f1⟩ := I1.hok.exn a1
  have hE := hX.new pins σ H1 s1 a C d I1 a1 q
  have KX := I1.kIn
  obtain ⟨hh, g, dr, tk, os⟩ := s1
  unfold raisesIn at hr
  rw [Bool.and_eq_true, beq_iff_eq, beq_iff_eq] at hr
  have L1 := looks_mroIn (M := model X.prog X.w) KX hr.1
  have L2 := looks_typeIn (M := model X.prog X.w) KX hr.2
  have T : Looks (model X.prog X.w) hh (typeOf (.ref a)) (.ref C) := (Looks.ld o1).andThen .now
  have nc : ∀ c, (excObj C d vs).data ≠ .cls c := fun c z => by cases z
  have hcalm := I1.ok.hd hc
  refine wpAny_bind (wpAny_pure (wpAny_bind (wpAny_holding ?_)))
  unfold excFromValue isExcClass
  refine wpAny_bind (wpAny_bind (ks_wpAny_isType_inst o1 nc (wpAny_pure ?_)))
  show wpAny _ _ (isInstance (.ref a) _ >>= _) _ _ _
  unfold isInstance
  refine wpAny_bind (wpAny_bind (T.at (L1.at ?_)))
  refine wpAny_pure ?_
  refine wpAny_bind (ks_wpAny_isType_inst o1 nc ?_)
  show wpAny _ _ (raisedInstance (.ref a) >>= _) _ _ _
  unfold raisedInstance
  refine wpAny_bind (wpAny_bind (T.at (wpAny_bind (L2.at ?_))))
  refine wpAny_pure ?_
  unfold setFlight
  refine wpAny_bind (wpAny_bind (wpAny_field o1 rfl f1 ?_))
  rw [if_neg (by decide)]
  refine wpAny_pure ?_
  exact wpAny_raiseNew_none hcalm hE
end
abbrev veMro : List Value:=[.type "ValueError",.type "Exception",.type "BaseException",.type "object"]
def excMkIn (K : PySem.W.Frag) (C : Addr) : Bool:=match K.lookup C with
 | some ⟨.type "type",_,.cls cd,sl⟩=>(match cd.mro,sl.toList with
  | .ref C' :: bm,[_,_,_,_,some (.builtin n),_]=>C' == C && n == "ValueError.__new__" && !cd.hasDel && PySem.W.tailIn K veMro bm
  | _,_=>false)
 | _=>false
theorem excMk_of {K : PySem.W.Frag} {h : Heap} {C : Addr} (X : K.In h) (q : excMkIn K C = true) : ∃ nm qn N bs bm hdct sn sub ab col dd k0 k1 k2 k3 k5,
  h.get? C = some (excClassObj nm qn C N bs bm hdct sn sub ab col dd k0 k1 k2 k3 k5 "ValueError.__new__")/\OwnTail h veMro bm:=by
 unfold excMkIn at q
 split at q
 ·rename_i dd cd sl ho
  split at q
  ·rename_i C' bm k0 k1 k2 k3 n k5 hm hs
   simp only [Bool.and_eq_true,beq_iff_eq,Bool.not_eq_true'] at q
   obtain ⟨⟨⟨rfl,rfl⟩,hdel⟩,ht⟩:=q
   obtain ⟨nm,bs,mro,ns,qn,hd,sn,sub,ab,col,del⟩:=cd
   dsimp only at hm hdel
   subst hm hdel
   have hsl : sl = #[k0,k1,k2,k3,some (.builtin "ValueError.__new__"),k5]:=by
    obtain ⟨l⟩:=sl
    simp only at hs
    rw [hs]
   subst hsl
   exact ⟨nm,qn,ns,bs,bm,hd,sn,sub,ab,col,dd,k0,k1,k2,k3,k5,X _ _ ho,PySem.W.tail_of_in X ht⟩
  ·cases q
 ·cases q
structure MkX (K : PySem.W.Frag) (C f : Addr) : Prop where
 shape : excMkIn K C = true
 init : PySem.W.findIn K (.ref C) "__init__" = some (some (.ref f))
 fn : PySem.W.isFn K (.ref f) = true
 kp : PySem.W.keepIn K (.ref C) = true
section
variable {prog : Program} {w : World} {A : Around} {E : Value->Shared->Prop} {K : PySem.W.Frag} {C f : Addr} {s : Shared} {rest : List Value} {Q : Value->Shared->Prop}
open PySem.W in
theorem make_exc (X : K.In s.heap) (m : MkX K C f) (hl : rest.length <= sizeLine)
  (hq : ∀ h',(∀ b o,s.heap.get? b = some o->h'.get? b = some o)->h'.get? (s.heap.objs.size + 1) = some (excObj C none #[.ref s.heap.objs.size,.none,.none,.none,.bool false,.none]) ->
   wpAny (model prog w) (A.under (.builtin "type.__call__" ⟨.ref C :: rest,[]⟩)) (call (.ref f) (.ref (s.heap.objs.size + 1) :: rest)) (fun r s'=>r = .none/\Q (.ref (s.heap.objs.size + 1)) s') E { s with heap:=h' }) :
  wpAny (model prog w) A (call (.ref C) rest) Q E s:=by
 obtain ⟨nm,qn,N,bs,bm,hdct,sn,sub,ab,col,dd,k0,k1,k2,k3,k5,hC,T⟩:=excMk_of X m.shape
 have F:=PySem.F.excBase_ValueError
 obtain ⟨h,g,d,t,os⟩:=s
 have f1:=tc_lookup
 have f2:=tc_bind (.ref C)
 have hT : (⟨h,g,d,t,os⟩ : Shared).TypeIs (.ref C) "type" := ⟨_,hC,rfl⟩
 refine wpAny_call (codeAny_of_tree ?_)
 show wpAny _ _ (callAny (.ref C) _) _ _ _
 repeat (any_goals (first | assumption | (with_reducible refine wpAny_loadPart_at hC ?_) | wp_step))
 refine ⟨rfl,codeAny_call_builtin_at (Code.quiet_builtin _ (by decide +kernel)) entry_typeCall (wpAny_check_type_call_sub hC ?_)⟩
 repeat (first | (with_reducible refine wpAny_loadPart_at hC ?_) | (with_reducible refine wpAny_madeBy_exc hC ?_) | wp_step)
 refine codeAny_call_builtin_code (Code.quiet_builtin _ F.quiet) (wpAny_check_new_subT F T hC ?_)
 refine codeAny_exc_new_subT F T hC ?_ hl
 show wpAny _ _ _ _ _ _
 have kp : ∀ b o,h.get? b = some o->((h.push { cls:=.type "tuple",data:=.seq rest.toArray }).push { cls:=.ref C,data:=.fields #[.ref h.objs.size,.none,.none,.none,.bool false,.none] }).get? b = some o:=fun b o e=>Heap.get?_push_of_some _ (Heap.get?_push_of_some _ e)
 have get : ((h.push { cls:=.type "tuple",data:=.seq rest.toArray }).push { cls:=.ref C,data:=.fields #[.ref h.objs.size,.none,.none,.none,.bool false,.none] }).get? (h.objs.size + 1) = some (excObj C none #[.ref h.objs.size,.none,.none,.none,.bool false,.none]):=Heap.get?_push_at (by rw [Heap.size_push]) rfl
 have X1 : K.In ((h.push { cls:=.type "tuple",data:=.seq rest.toArray }).push { cls:=.ref C,data:=.fields #[.ref h.objs.size,.none,.none,.none,.bool false,.none] }):=X.keeps kp
 have hC1:=kp _ _ hC
 have hcC : (Value.ref C :: bm).contains (.ref C) = true:=by simp
 have T1 : Looks (model prog w) ((h.push { cls:=.type "tuple",data:=.seq rest.toArray }).push { cls:=.ref C,data:=.fields #[.ref h.objs.size,.none,.none,.none,.bool false,.none] }) (typeOf (.ref (h.objs.size + 1))) (.ref C):=(Looks.ld get).andThen .now
 have L1:=looks_findIn (M:=model prog w) X1 m.init
 have L2:=bind_fn (M:=model prog w) X1 (.ref (h.objs.size + 1)) (beq_iff_eq.mp m.fn)
 have hq1:=hq _ kp get
 unfold isInstance
 repeat (first | (with_reducible refine Looks.at T1 ?_) | (with_reducible refine wpAny_loadPart_at get ?_) | (with_reducible refine wpAny_isSubtype_exc hC1 ?_;rw [hcC]) | wp_step)
 show wpAny _ _ (isSubtype (.ref C) (.ref C)) _ _ _
 refine wpAny_isSubtype_exc hC1 ?_
 rw [hcC]
 repeat (first | (with_reducible refine Looks.at T1 ?_) | wp_step)
 show wpAny _ _ (typeLookup (.ref C) _) _ _ _
 refine Looks.at L1 ?_
 refine wpAny_holding (wpAny_bind ?_)
 refine Looks.at L2 ?_
 refine wpAny_bind (wpAny_mono hq1 (fun r s' hr=>?_) fun _ _ z=>z)
 obtain ⟨rfl,hQ⟩:=hr
 wp_walk
 exact hQ
end
def tMakeX (C : Addr) (sp : Sp) (t : TA) : TE:=fun σ H Q=>t σ H fun vs H1=>vs.length <= 1000/\∀ e,H1 e = none->sp (.ref e :: vs) (upd H1 e (excN e C none)) (fun v H2=>v = .non/\Q (.ref e) H2) E0
def MakeOk (P : Program) (w : World) (K : PySem.W.Frag) (mg : Str->Option Value) (base : Heap) (x : Str) (C : Addr) (k : Nat) (ps : List Str) (sp : Sp) : Prop :=
 ∃ f fd,MkX K C f/\FnOk P w K mg base CX0 k f fd ps sp/\mg x = some (.ref C)/\Binds K fd ps []
section
variable {X : Cx} {k j : Nat} {C : Addr} {ps : List Str} {sp : Sp} {x : Str} {p pos : Pos} {e : Expr} {es : List Expr} {t : TA}
theorem pe_makeX (M : MakeOk X.prog X.w X.K X.mg X.base x C k ps sp) (hr : Room j X.A) (ha : PA X (e :: es) t) (hg : Gl X x:=by rfl) (hj : k + 1 <= j:=by decide) (hdb : (x == ("__debug__" : Str)) = false:=by decide)
  (he : starEach (e :: es) X.env = (false,eval e X.env) :: starEach es X.env:=by rfl) (hpl : (backTo pos (starEach es X.env)).any (·.1) = false:=by rfl) : PE X (.Call (.Name x p) (e :: es) [] pos) (tMakeX C sp t):=by
 obtain ⟨f,fd,M,F,hm,hb⟩:=M
 intro pins s σ H Q I h
 refine wpAny_Call_Name_kw (ld_glob I hg hm ?_ hdb)
 refine PySem.W.callWith_K (h₀:=X.base) I.ok.mod.kin M.kp (thn (ha pos pins s σ H _ I h) fun us s1 ⟨vs,H1,I1,r,hl,q⟩=>⟨I1.kIn,?_⟩) he hpl
 show wpAny _ _ (call (.ref C) us) _ _ _
 refine make_exc I1.kIn M (by rw [<- r.length];exact Nat.le_of_lt (small1000 hl)) fun h' kp get=>?_
 have q:=q (s1.heap.objs.size + 1) (I1.hok.fresh (Nat.le_succ _))
 have I2 : Inv X pins σ (upd H1 (s1.heap.objs.size + 1) (excN (s1.heap.objs.size + 1) C none)) { s1 with heap:=h' }:=I1.laid (t':=s1.toks) kp (Nat.le_succ _) (excN.ok get rfl)
 have r2 : Vals (V.ref (s1.heap.objs.size + 1) :: vs) (Value.ref (s1.heap.objs.size + 1) :: us):=.cons rfl r
 have hl2 : (Value.ref (s1.heap.objs.size + 1) :: us).length = ps.length:=by rw [<- r2.length];exact F.len _ _ _ _ q
 have hb':=hb { s1 with heap:=h' } (Value.ref (s1.heap.objs.size + 1) :: us) I2.kIn (by rw [List.append_nil];exact hl2)
 rw [List.append_nil] at hb'
 refine wpAny_call (codeAny_mono (F.run _ X.stack _ _ ⟨_,[]⟩ _ _ _ E0 ((hr.mono hj).make C us []) (I2.env0.make C us []) hb' r2 q) fun r s' hq'=>?_)
 cases r with
 | error ev=>exact hq'.elim
 | ok fl =>
  cases fl with
  | ret u =>
   obtain ⟨v,H',I3,rv,ev,q3⟩:=I2.after hq'
   subst ev
   exact ⟨rv,⟨V.ref (s1.heap.objs.size + 1),H',I3,rfl,q3⟩⟩
  | next=>exact False.elim hq'
  | brk=>exact False.elim hq'
  | cont=>exact False.elim hq'
end
end L2
end

section
set_option Elab.async false
set_option linter.all false
set_option maxRecDepth 100000
namespace L2
open PySem PySem.Spec PyProof.Rows PySem.W
abbrev veInit : String := "ValueError.__init__"
theorem xw_slot : Slot "wrapper_descriptor" "__get__" "wrapper_descriptor.__get__" := .of (owner := "wrapper_descriptor") (n := "__get__") (by rw [typeLookup_type,builtinLookup_eq_fast];kernel_rfl) (by decide +kernel) (by decide +kernel) (by decide +kernel) (by first | exact .inl (by decide +kernel) | exact .inr (by decide +kernel)) (by rw [isSubtype_type];kernel_rfl)
theorem xw_entry : entryFor table "wrapper_descriptor.__get__" = some Builtin.«wrapper_descriptor.__get__» := entryFor_of_tree (by kernel_rfl)
theorem xw_args (a b c : Value) : argsOk "wrapper_descriptor.__get__" ⟨[a,b,c],[]⟩:=by unfold argsOk;kernel_rfl
theorem xw_type : typeOf (.builtin veInit) = pure (.type "wrapper_descriptor"):=by kernel_rfl
theorem xw_bound {M : Model} {A : Around} {E : Value->Shared->Prop} {hh : Heap} {g : Array GenState} {d : Drawn} {t : Nat} {os : OsState} {Q : Unit->Shared->Prop} {e C : Addr} {oe : Obj} {K : Frag} (b : Value) (X : K.In hh) (he : hh.get? e = some oe) (hc : oe.cls = .ref C)
  (hk : (clsIn K C).isSome = true) (hq : Q () ⟨hh,g,d,t,os⟩) : wpAny M A (checkBoundCall veInit ⟨[.ref e,b],[]⟩) Q E ⟨hh,g,d,t,os⟩:=by
 have F:=PySem.F.excBase_ValueError
 obtain ⟨cd,hcd⟩:=Option.isSome_iff_exists.mp hk
 have L:=looks_clsIn (M:=M) X hcd
 simp only [checkBoundCall,F.initRow,F.initKind]
 repeat (first | (with_reducible refine wpAny_loadPart_at he ?_;rw [hc]) | (with_reducible refine Looks.at L ?_) | (with_reducible refine wpAny_onRaise ?_) | wp_step)
 exact hq
abbrev mwObj (x : Addr) : Obj:={ cls:=.type "method-wrapper",data:=.fields #[.builtin veInit,.ref x] }
section
variable {prog : Program} {w : World} {A : Around} {E : Value->Shared->Prop} {h : Heap} {g : Array GenState} {d : Drawn} {t : Nat} {os : OsState} {so D x C : Addr} {ox : Obj} {l₀ l : List Value} {K : Frag}
theorem xw_get {Q : Fin->Shared->Prop} (X : K.In h) (hx : h.get? x = some ox) (hxc : ox.cls = .ref C) (hve : mroIn K C (.type "ValueError") = some true)
  (hq : Q (.done (.ret (.ref h.objs.size))) ⟨h.push (mwObj x),g,d,t,os⟩) :
  wpAny (model prog w) A (Builtin.«wrapper_descriptor.__get__» ⟨[.builtin veInit,.ref x,.ref C],[]⟩) Q E ⟨h,g,d,t,os⟩:=by
 have T : Looks (model prog w) h (typeOf (.ref x)) (.ref C):=hxc ▸ (Looks.ld hx).andThen .now
 have L1:=looks_mroIn (M:=model prog w) X hve
 unfold Builtin.«wrapper_descriptor.__get__»
 repeat (first | (with_reducible refine Looks.at T ?_) | (with_reducible refine Looks.at L1 ?_) | wp_step | dsimp only)
 rw [show (".".intercalate (veInit.cutAt '.').dropLast) = "ValueError" by decide +kernel]
 refine Looks.at L1 ?_
 repeat (first | (with_reducible refine wpAny_newObj_type ?_ (by size_fits)) | wp_step | dsimp only)
 exact hq
theorem xs_ga {tk : Tok} {Q : Fin → Shared → Prop} (hso : h.get? so = some (ks_superObj D x C)) (hno : Looks (model prog w) h (opaqueClassAbove (.ref C)) none)
    (hC : Looks (model prog w) h (mroOf (.ref C)) l₀) (hl : (l₀.dropWhile (· != .ref D)).drop 1 = l) (X : K.In h) (hf : alongIn K "__init__" l = some (some (.builtin veInit))) (hx : h.get? x = some ox) (hxc : ox.cls = .ref C) (hve : mroIn K C (.type "ValueError") = some true) (hxC : x ≠ C)
    (hq : Q (.done (.ret (.ref h.objs.size))) ⟨h.push (mwObj x), g, d, t, os⟩) :
    wpAny (model prog w) A (Builtin.«super.__getattribute__» ⟨[.ref so, .str "__init__" tk], []⟩) Q E ⟨h, g, d, t, os⟩ := by
  have hlk := xw_slot.lookup
  have hne : (Value.ref x == Value.ref C) = false := by simp [hxC]
  have hT : (⟨h, g, d, t, os⟩ : Shared).TypeIs (.builtin veInit) "wrapper_descriptor" := xw_type
  have dt : (ks_superObj D x C).data = .fields #[.ref D, .ref x, .ref C] := rfl
  have f0 : (#[.ref D, .ref x, .ref C] : Array Value)[0]? = some (.ref D) := rfl
  have f1 : (#[.ref D, .ref x, .ref C] : Array Value)[1]? = some (.ref x) := rfl
  have f2 : (#[.ref D, .ref x, .ref C] : Array Value)[2]? = some (.ref C) := rfl
  unfold Builtin.«super.__getattribute__»
  repeat (first
    | (with_reducible refine wpAny_field hso dt f0 ?_) | (with_reducible refine wpAny_field hso dt f1 ?_) | (with_reducible refine wpAny_field hso dt f2 ?_)
    | (with_reducible refine ks_wpAny_notOpaque hno ?_) | (with_reducible refine Looks.at hC ?_; rw [hl])
    | (refine ks_forIn_along X (fun _ _ => rfl) rfl ?_ hf)
    | (with_reducible refine wpAny_typeOf hT ?_)
    | (with_reducible refine wpAny_call_entry xw_slot hT xw_entry (xw_get X hx hxc hve ?_) (xw_args _ _ _))
    | (with_reducible refine ⟨_, rfl, ?_⟩)
    | (simp only [hne, Bool.false_eq_true, if_false])
    | wp_step | dsimp only)
  all_goals exact hq
theorem xs_method {pl : Sem Bool} {Q : Value × List Value → Shared → Prop} (hso : h.get? so = some (ks_superObj D x C)) (hno : Looks (model prog w) h (opaqueClassAbove (.ref C)) none)
    (hC : Looks (model prog w) h (mroOf (.ref C)) l₀) (hl : (l₀.dropWhile (· != .ref D)).drop 1 = l) (X : K.In h) (hf : alongIn K "__init__" l = some (some (.builtin veInit))) (hx : h.get? x = some ox) (hxc : ox.cls = .ref C) (hve : mroIn K C (.type "ValueError") = some true) (hxC : x ≠ C)
    (hq : Q (.ref h.objs.size, []) ⟨h.push (mwObj x), g, d, t + 1, os⟩) : wpAny (model prog w) A (getMethod (.ref so) "__init__" pl) Q E ⟨h, g, d, t, os⟩ := by
  have hT : ∀ t', (⟨h, g, d, t', os⟩ : Shared).TypeIs (.ref so) "super" := fun _ => ⟨_, hso, rfl⟩
  unfold getMethod
  refine wpAny_bind (wpAny_specialOf (hT _) PySem.F.ks_slot_super_ga.lookup ?_)
  show wpAny _ _ (if (Manifest.canonical "super.__getattribute__" != "object.__getattribute__") = true then _ else _) _ _ _
  rw [if_pos PySem.F.ks_canon_super_ga]
  unfold getAttr getAttrBy
  refine wpAny_bind (wpAny_bind (wpAny_mkText (wpAny_holding (wpAny_bind (wpAny_typeOf (hT _) (wpAny_bind (wpAny_of_eq PySem.F.ks_slot_super_ga.lookup ?_)))))))
  show wpAny _ _ (getAttrByItsOwn (.ref so) (.str "__init__" t) (.type "super") (.builtin "super.__getattribute__") true false) _ _ _
  unfold getAttrByItsOwn hookBefore; unfold callGetattribute boundAndCalled
  refine wpAny_bind (wpAny_of_eq (show (if onTheHeap (.type "super") then typeLookup (.type "super") "__getattr__" else pure none) = pure none from rfl) (wpAny_bind (wpAny_attempt (wpAny_holding ?_))))
  show wpAny _ _ (bindSpecial (.builtin "super.__getattribute__") (.ref so) >>= _) _ _ _
  refine wpAny_bind (wpAny_of_eq (PySem.F.ks_slot_super_ga.bind _) ?_)
  refine wpAny_mono (Q := fun v s' => v = .ref h.objs.size ∧ s' = ⟨h.push (mwObj x), g, d, t + 1, os⟩) (E := fun _ _ => False)
    (wpAny_call_entry PySem.F.ks_slot_super_ga (hT _) PySem.F.ks_entry_super_ga (xs_ga hso hno hC hl X hf hx hxc hve hxC ⟨_, rfl, rfl, rfl⟩) (PySem.F.ks_gaArgs_super _ _)) (fun v s' hv => ?_) fun _ _ z => z.elim
  obtain ⟨rfl, rfl⟩ := hv
  exact wpAny_pure (wpAny_pure hq)
theorem mw_call {s : Shared} {mw e : Addr} {x0 : Value} {dx : Option Addr} {vs : Array Value} {u : Value} {Q : Value->Shared->Prop} (X : K.In s.heap) (hk : (clsIn K C).isSome = true) (hm : s.heap.get? mw = some (mwObj e)) (he : s.heap.get? e = some (excObj C dx vs)) (h0 : (vs[0]? : Option Value) = some x0)
  (hq : ∀ h',(∀ b o,b ≠ e->s.heap.get? b = some o->h'.get? b = some o)->h'.get? e = some (excObj C dx (vs.setIfInBounds 0 (.ref s.heap.objs.size)))->Q .none { s with heap:=h' }) : wpAny (model prog w) A (call (.ref mw) [u]) Q E s:=by
 have F:=PySem.F.excBase_ValueError
 obtain ⟨hh,g,d,tk,os⟩:=s
 refine wpAny_call (codeAny_of_tree ?_)
 show wpAny _ A.in1 (callAny (.ref mw) ⟨[u],[]⟩) _ _ _
 simp only [callAny]
 refine wpAny_bind (wpAny_load hm ?_)
 show wpAny _ _ (checkBoundCall veInit ⟨[.ref e,u],[]⟩ >>= fun _=>_) _ _ _
 refine wpAny_bind (xw_bound u X he rfl hk ?_)
 refine wpAny_bind (wpAny_pure (wpAny_pure ⟨Code.quiet_builtin _ (by decide +kernel),codeAny_builtin F.initEntry ?_⟩))
 unfold Builtin.«BaseException.__init__»
 dsimp only
 rw [if_neg (by simp)]
 unfold newTuple Builtin.BaseException.bexcPut
 have he1:=Heap.get?_push_of_some (h:=hh) { cls:=.type "tuple",data:=.seq #[u] } he
 refine wpAny_bind (wpAny_newObj_type (wpAny_bind (wpAny_bind (wpAny_field he1 rfl h0 (wpAny_bind ?_)))) (by show 1 <= sizeLine;decide))
 refine setF (o:=excObj C dx #[]) he1 (Array.getElem?_eq_some_iff.mp h0).1 fun h' e' sb=>?_
 have fin:=hq h' (fun b o hb q=>(sb.2 b hb).trans (Heap.get?_push_of_some _ q)) e'
 cases x0 <;> first | exact wpAny_letGo (wpAny_pure fin) | exact wpAny_pure (wpAny_pure fin)
end
end L2
end

section
set_option Elab.async false
set_option linter.all false
set_option maxRecDepth 100000
namespace L2
open PySem PySem.Spec PyProof.Rows PySem.W
theorem lookup_nodup {α β : Type} [BEq α] [LawfulBEq α] : ∀ {l : List (α × β)} {k : α} {v : β},(l.map (·.1)).Nodup->(k,v) ∈ l->l.lookup k = some v
 | [],_,_,_,h=>nomatch h
 | (a,b) :: l,k,v,nd,h=>by
  rw [List.map_cons,List.nodup_cons] at nd
  rw [List.lookup_cons]
  rcases List.mem_cons.mp h with h | h
  ·cases h;simp
  ·have : (k == a) = false:=beq_eq_false_iff_ne.mpr fun z=>nd.1 (z ▸ List.mem_map_of_mem (f:=(·.1)) h)
   rw [this]
   exact lookup_nodup nd.2 h
structure InScope (ps : List Str) (sc : Scope) : Prop where
 kind : sc.kind = .function
 co : sc.isCoroutine = false
 gen : sc.isGenerator = false
 nd : ps.Nodup
 loc : ∀ x ∈ ps,sc.names.lookup x = some .local
 cell : ∀ x ∈ sc.names,x.2 ≠ .cell
 free : ∀ x ∈ sc.names,x.2 = .free->x.1 = "__class__"
def cxI (P : Program) (w : World) (K : PySem.W.Frag) (mg : Str->Option Value) (base : Heap) (N : List Str) (qual : Str) (scope : Scope) (f : Addr) (cd : Value) (cc : Addr) (A : Around) (outer : List Env) (s : Shared) (H : Hp) : Cx where
 prog:=P
 w:=w
 K:=K
 mg:=mg
 base:=base
 A:=A.deeper (ksEnv qual scope s.heap.objs.size f cd cc)
 N:=N
 s₀:=s
 H₀:=H
 env:=ksEnv qual scope s.heap.objs.size f cd cc
 outer:=outer
 stack:=ksEnv qual scope s.heap.objs.size f cd cc :: outer
 ex:=[]
 calm:=true
 fn:=fun x=>x != "__class__"
 pn:=[]
 xe:=fun _ _=>False
section
variable {P : Program} {w : World} {K : PySem.W.Frag} {mg : Str->Option Value} {base : Heap} {k : Nat} {f cc C cda : Addr} {name qual : Str} {params : Arguments} {body : List Stmt} {scope : Scope} {kV doc pm ct oc cl : Value} {an od cld : Option Addr}
 {osl csl : Array (Option Value)} {ps : List Str} {sp : Sp}
theorem init_of (lk : K.lookup f = some ⟨oc,od,.func (ksFn name qual params body scope .none kV doc pm an (.ref cda) ct cc),osl⟩) (hcd : PySem.W.codeIn K (.ref cda) qual = true) (lc : K.lookup cc = some ⟨cl,cld,.cell (some (.ref C)),csl⟩)
  (S : InScope ps scope) (len : ∀ vs H Q E,sp vs H Q E->vs.length = ps.length)
  (hbody : ∀ (A : Around) (outer : List Env) (s s1 : Shared) (H : Hp) (vs : List V) (Q : VK) (E : XK),Room k (A.deeper (ksEnv qual scope s.heap.objs.size f (.ref cda) cc))->sp vs H Q E ->
   Inv (cxI P w K mg base ps qual scope f (.ref cda) cc A outer s H) [] (vs.map some) H s1 ->
   PySem.wpAt (model P w) (A.deeper (ksEnv qual scope s.heap.objs.size f (.ref cda) cc)) (.func body (ksEnv qual scope s.heap.objs.size f (.ref cda) cc)) (execs body (ksEnv qual scope s.heap.objs.size f (.ref cda) cc))
    (SP (cxI P w K mg base ps qual scope f (.ref cda) cc A outer s H) [] { nx:=fun _ H'=>Q .non H',rt:=Q }) (fun _ _=>False) s1) :
  FnOk P w K mg base CX0 (k + 1) f (ksFn name qual params body scope .none kV doc pm an (.ref cda) ct cc) ps sp:=by
 refine ⟨len,fun A outer s H args us vs Q E hr e0 hb r hsp=>?_⟩
 have hl:=len _ _ _ _ hsp
 have hlu : us.length = ps.length:=r.length ▸ hl
 have kb : ∀ b o,base.get? b = some o->s.heap.get? b = some o:=fun b o e=>(e0.bs b o e).1
 have KX : K.In s.heap:=e0.mod.kin.keeps kb
 have lim : s.heap.NoLimit:=e0.mod.nolimit.keeps kb
 refine ks_codeAny_call_defAt (fd:=ksFn name qual params body scope .none kV doc pm an (.ref cda) ct cc) (body:=body) (binds:=ps.zip us) hr.depth (KX _ _ lk) rfl lim (PySem.W.codeRec_of KX hcd) rfl hb S.cell (fun y hy=>S.loc _ (List.of_mem_zip hy).1) (fun h₀ hns hk=>?_) S.co S.gen S.kind
 have ndz : ((ps.zip us).reverse.map (·.1)).Nodup:=by
  rw [List.map_reverse,List.map_fst_zip (by rw [hlu];exact Nat.le_refl _)]
  exact List.pairwise_reverse.mpr (S.nd.imp fun z y=>z y.symm)
 have I : Inv (cxI P w K mg base ps qual scope f (.ref cda) cc A outer s H) [] (vs.map some) H { s with heap:=h₀,toks:=s.toks + (ps.zip us).length }:=by
  have cellL : ∀ y c,(ksEnv qual scope s.heap.objs.size f (.ref cda) cc).cells.lookup y = some c->y = "__class__"/\c = cc:=fun y c q=>by
   have q' : List.lookup y [(("__class__" : Str),cc)] = some c:=q
   rw [List.lookup_cons] at q'
   split at q'
   ·rename_i z
    exact ⟨by simpa using z,(Option.some.inj q').symm⟩
   ·cases q'
  have noA : ∀ b : Addr,b ∉ (cxI P w K mg base ps qual scope f (.ref cda) cc A outer s H).ex:=fun b z=>absurd (show b ∈ ([] : List Addr) from z) (by simp)
  have cb:=e0.mod.kin cc _ lc
  refine ⟨⟨e0.mod,S.kind,rfl,rfl,Nat.le_refl _,fun y z c h1 h2=>(cellL y c h1).1.trans (cellL z c h2).1.symm,fun y hy=>?_,fun y c h1 h2=>?_,fun _=>hr.hd,Around.frames_deeper e0.frames,.inr ⟨rfl,rfl⟩,fun b z=>absurd z (noA b),e0.bs,e0.bsz,fun b _ _=>noA b,fun b z=>absurd z (noA b),e0.funs,e0.frf⟩,
   rfl,⟨e0.bare,Nat.le_refl _⟩,Un.kept hk,⟨_,hns,fun i y v h1 h2 h3=>?_⟩,fun y c h=>?_,e0.hok.fresh (Nat.le_refl _),fun y c h=>?_,fun p hp=>absurd (show p ∈ ([] : List (Addr × Obj)) from hp) (by simp),e0.hok.kept hk,(List.length_map _).trans hl⟩
  ·have hy : scope.names.lookup y = some .cell\/scope.names.lookup y = some .free:=hy
   rcases hy with hy | hy
   ·exact absurd rfl (S.cell _ (PySem.mem_of_lookup hy))
   ·have e:=S.free _ (PySem.mem_of_lookup hy) rfl
    exact ⟨cc,by show List.lookup y [(("__class__" : Str),cc)] = some cc;rw [show y = "__class__" from e];rfl⟩
  ·have h1' : (y != "__class__") = true:=h1
   rw [(cellL y c h2).1] at h1'
   simp at h1'
  ·have h2' : (vs.map some)[i]? = some (some v):=h2
   rw [List.getElem?_map] at h2'
   obtain ⟨v',hv,e⟩:=Option.map_eq_some_iff.mp h2'
   cases e
   obtain ⟨u,hu,rv⟩:=r.get hv
   have h1' : ps[i]? = some y:=h1
   refine ⟨u,rv,.inl ⟨S.loc y (List.mem_of_getElem? h1'),?_⟩⟩
   exact lookup_nodup ndz (List.mem_reverse.mpr (List.mem_iff_getElem?.mpr ⟨i,by rw [List.getElem?_zip_eq_some];exact ⟨h1',hu⟩⟩))
  ·rw [(cellL y c h).2]
   exact ⟨_,_,hk _ _ (kb _ _ cb),rfl⟩
  ·rw [(cellL y c h).2]
   exact (e0.bs _ _ cb).2
 refine ks_wpAt_mono (hbody A outer s _ H vs Q E (hr.deeper _) hsp I) (fun fl s' hs=>?_) (fun _ _ (z : False)=>z.elim)
 have fin : ∀ {σ' : St} {H' : Hp} {v : V} {u : Value},Inv (cxI P w K mg base ps qual scope f (.ref cda) cc A outer s H) [] σ' H' s'->RelV v u->Q v H'->CE outer P w H s Q u s' :=
  fun {σ' H' v u} J rv q=>⟨v,H',J.os,J.bare,J.base,J.hok,rv,q⟩
 cases fl with
 | ret u =>
  obtain ⟨v,σ',H',J,rv,q⟩:=hs
  exact fin J rv q
 | next =>
  obtain ⟨σ',H',J,q⟩:=hs
  exact fin (v:=V.non) (u:=Value.none) J rfl q
 | brk =>
  obtain ⟨_,_,_,q⟩:=hs
  exact False.elim q
 | cont =>
  obtain ⟨_,_,_,q⟩:=hs
  exact False.elim q
end
end L2
end

section
set_option Elab.async false
set_option linter.all false
set_option maxRecDepth 100000
namespace L2
open PySem PySem.Spec PyProof.Rows PySem.W
def excAll (K : Frag) (C : Addr) : Bool:=(clsIn K C).isSome && mroIn K C (.ref C) == some true && mroIn K C (.type "ValueError") == some true && ks_superIn K C C "__init__" == some (some (.builtin veInit)) && nsIn K cStatics "thirdparty.any" == some none
section
variable {P : Program} {w : World} {K : PySem.W.Frag} {mg : Str->Option Value} {base : Heap} {f cc C cda e : Addr} {qual : Str} {scope : Scope} {ps : List Str} {A : Around} {outer : List Env} {s₀ s : Shared} {H₀ H : Hp} {σ : St} {body : List Stmt} {arg : Expr} {t : TA} {p0 p1 p2 p3 p4 : Pos}
 {fd : FuncData} {ar : Arg} {vs : Array Value} {file : Str} {tf : Tok} {oc ccl cl : Value} {od cdd cld : Option Addr} {osl ccs csl : Array (Option Value)} {D : Ends}
theorem super_stmt (lk : K.lookup f = some ⟨oc,od,.func fd,osl⟩) (hp : (fd.params.posonlyargs ++ fd.params.args).head? = some ar) (hi : ps[0]? = some ar.arg)
  (lcode : K.lookup cda = some ⟨ccl,cdd,.fields vs,ccs⟩) (hvs : (vs[2]? : Option Value) = some (.str file tf)) (hfile : ((P.main.file : Str) == file) = true) (lc : K.lookup cc = some ⟨cl,cld,.cell (some (.ref C)),csl⟩)
  (hsup : mg "super" = none) (htop : (P.main.scope.names.lookup ("super" : Str)).isSome = false) (hks : scope.names.lookup ("super" : Str) = some .globalImplicit) (hkc : scope.names.lookup ("__class__" : Str) = some .free) (hka : scope.names.lookup ar.arg = some .local)
  (xc : excAll K C = true) (ha : PA (cxI P w K mg base ps qual scope f (.ref cda) cc A outer s₀ H₀) [arg] t)
  (I : Inv (cxI P w K mg base ps qual scope f (.ref cda) cc A outer s₀ H₀) [] σ H s) (h0 : σ[0]? = some (some (.ref e))) (he : H e = some (excN e C none))
  (q : t σ H fun us H1=>us.length = 1/\H1 e = some (excN e C none)/\D.nx σ H1)
  {pl : Sem Bool} (hev : eval (.Call (.Attribute (.Call (.Name "super" p0) [] [] p1) "__init__" p2) [arg] [] p3) (ksEnv qual scope s₀.heap.objs.size f (.ref cda) cc) = (do
   let ov <- attributeBase (.Call (.Name "super" p0) [] [] p1) "__init__" (ksEnv qual scope s₀.heap.objs.size f (.ref cda) cc) (eval (.Call (.Name "super" p0) [] [] p1) (ksEnv qual scope s₀.heap.objs.size f (.ref cda) cc))
   standAt p2.atName
   let (gm,fst) <- holding [ov] (getMethod ov "__init__" pl)
   callWith p3 gm fst (backTo p3 (starEach [arg] (ksEnv qual scope s₀.heap.objs.size f (.ref cda) cc))) [])) (hsw : swapsWith (.Call (.Attribute (.Call (.Name "super" p0) [] [] p1) "__init__" p2) [arg] [] p3) none p4.line (ksEnv qual scope s₀.heap.objs.size f (.ref cda) cc) = pure false)
  (hpl : starEach [arg] (ksEnv qual scope s₀.heap.objs.size f (.ref cda) cc) = [(false,eval arg (ksEnv qual scope s₀.heap.objs.size f (.ref cda) cc))]) :
  PySem.wpAt (model P w) (A.deeper (ksEnv qual scope s₀.heap.objs.size f (.ref cda) cc)) (.func body (ksEnv qual scope s₀.heap.objs.size f (.ref cda) cc))
   (exec (.Expr (.Call (.Attribute (.Call (.Name "super" p0) [] [] p1) "__init__" p2) [arg] [] p3) p4) (ksEnv qual scope s₀.heap.objs.size f (.ref cda) cc))
   (SP (cxI P w K mg base ps qual scope f (.ref cda) cc A outer s₀ H₀) [] D) (fun _ _=>False) s:=by
 unfold excAll at xc
 simp only [Bool.and_eq_true,beq_iff_eq] at xc
 obtain ⟨⟨⟨⟨x1,x2⟩,x3⟩,x4⟩,x5⟩:=xc
 obtain ⟨cd,hcd⟩:=Option.isSome_iff_exists.mp x1
 have KX : K.In s.heap:=I.kIn
 have kind : scope.kind = .function:=I.ok.kind
 obtain ⟨m,hns,hl⟩:=id I.loc
 obtain ⟨u,ru,lu⟩:=hl 0 _ _ hi h0 (.inl hka)
 have hm : m ar.arg = some (.ref e):=by
  obtain rfl : u = .ref e:=ru
  rcases lu with ⟨_,z⟩ | ⟨z,_⟩
  ·exact z
  ·have z' : scope.names.lookup ar.arg = some .cell\/scope.names.lookup ar.arg = some .free:=z
   rw [hka] at z'
   rcases z' with z' | z' <;> cases z'
 obtain ⟨ve,oe,fe⟩:=I.hok.exn he
 obtain ⟨oD,hD1,hD2⟩ : ∃ oD,s.heap.get? C = some oD/\oD.data = .cls cd:=by
  unfold clsIn at hcd
  split at hcd
  ·rename_i ho
   cases hcd
   exact ⟨_,KX _ _ ho,rfl⟩
  ·cases hcd
 have neC : e ≠ C:=fun z=>by
  rw [z] at oe
  rw [hD1] at oe
  cases oe
  cases hD2
 obtain ⟨mb,hb1,hb2⟩:=I.mod.blt
 have bk:=I.bk
 refine ks_wpAt_Expr_any (ks_wpAt_MethodCall (ks_wpAt_super_base (env:=ksEnv qual scope s₀.heap.objs.size f (.ref cda) cc) hks hkc (by decide) rfl (KX _ _ lk) rfl hp rfl (KX _ _ lcode) rfl hvs hfile htop ?_) hev) (by simp [interactive,kind]) hsw
 refine ks_loadName_global kind hks (PySem.Calls.loadGlobal_builtin (env:=ksEnv qual scope s₀.heap.objs.size f (.ref cda) cc) (I.mod.glob.keeps bk) hsup (hb1.keeps bk) ((hb2 _ (by decide)).trans (by decide +kernel)) ⟨rfl,?_⟩)
 refine wpAny_loadName_free kind hkc rfl ⟨_,KX _ _ lc,rfl⟩ ?_
 refine wpAny_loadName_local kind hka hns hm ?_
 obtain ⟨hh,g,dr,tk,os⟩:=s
 refine ks_wpAny_isType_cls hD1 hD2 ⟨rfl,?_⟩
 refine ks_wpAny_call_super hD1 hD2 oe rfl (fun c z=>by cases z) (looks_mroIn KX x2) fun h1 so k1=>?_
 have I1:=I.kept (t':=tk) k1
 have X1 : K.In h1:=I1.kIn
 have L1 : Looks (model P w) h1 (mroOf (.ref C)) cd.mro:=(looks_clsIn X1 hcd).andThen .now
 have hsp : alongIn K "__init__" ((cd.mro.dropWhile (· != .ref C)).drop 1) = some (some (.builtin veInit)):=by
  unfold ks_superIn at x4
  rw [hcd] at x4
  exact x4
 refine xs_method so (looks_opaque X1 x5) L1 rfl X1 hsp (k1 _ _ oe) rfl x3 neC ?_
 have I2:=I1.kept (h':=h1.push (mwObj e)) (t':=tk + 1) fun b o z=>Heap.get?_push_of_some _ z
 have mwg : (h1.push (mwObj e)).get? h1.objs.size = some (mwObj e):=Heap.get?_push_size _ rfl
 have I3:=I2.pins_of (pins':=[(h1.objs.size,mwObj e)]) fun p hp=>by
  rw [show p = (h1.objs.size,mwObj e) by simpa using hp]
  exact ⟨mwg,I1.hok.fresh (Nat.le_refl _),fun z=>absurd I1.lt (by rw [<- z];exact Nat.lt_irrefl _),I1.nofs (Nat.le_refl _),fun v z=>by cases z⟩
 show wpAny _ _ (callWith p3 (.ref h1.objs.size) [] (backTo p3 (starEach [arg] _)) []) _ _ _
 refine callWith_of (P:=fun hp=>hp.get? h1.objs.size = some (mwObj e)) (by rw [hpl];rfl) (fun hp z=>⟨.machine,.inr (.inl rfl),(Looks.ld (part:=none) z).andThen .now⟩) ?_
 have hpa:=ha p3 [(h1.objs.size,mwObj e)] _ σ H _ I3 q
 rw [show starEach [arg] (cxI P w K mg base ps qual scope f (.ref cda) cc A outer s₀ H₀).env = _ from hpl] at hpa
 rw [hpl]
 refine PySem.Calls.evalArgs_plain (wpAny_mono hpa (fun us s4 ⟨vs4,H4,I4,r4,hl4,he4,hn4⟩=>?_) (fun _ _ (z : False)=>z.elim))
 have pin4:=(I4.pin (h1.objs.size,mwObj e) (by simp)).1
 refine ⟨pin4,?_⟩
 obtain ⟨ve4,oe4,fe4⟩:=I4.hok.exn he4
 have sz : 1 < ve4.size:=(Array.getElem?_eq_some_iff.mp fe4).1
 match us,r4 with
 | [u4],_ =>
  refine mw_call I4.kIn x1 pin4 oe4 (Array.getElem?_eq_getElem (Nat.lt_of_succ_lt sz)) fun h5 k5 e5=>?_
  have I5:=I4.write (x:=e) (e:=e) (h':=h5) (t':=s4.toks) (o:=excN e C none) (by rw [he4];trivial) (.inl rfl) k5 ⟨_,e5⟩ (excN.ok e5 (by rw [Array.getElem?_setIfInBounds_ne (by decide)];exact fe4))
  rw [upd_self he4] at I5
  exact ⟨σ,H4,I5.pins_of (fun p hp=>absurd hp (by simp)),hn4⟩
 | [],.nil=>exact absurd hl4 (by simp)
 | _ :: _ :: _,.cons _ (.cons _ _)=>exact absurd hl4 (by simp)
end
end L2
end

section
set_option Elab.async false
set_option linter.all false
set_option maxRecDepth 100000
namespace L2
open PySem PySem.Spec PyProof.Rows PySem.W
def onlyVE : List Value->Bool
 | .ref _ :: r=>onlyVE r
 | l=>l == veMro
theorem refuse_ve (self : Value) : ∀ {l : List Value},onlyVE l = true->refuseLoop self "__setattr__" l = pure ()
 | .ref c :: r,e=>by rw [refuseLoop_ref];exact refuse_ve self (l:=r) e
 | [],e=>by cases e
 | .type n :: r,e=>by rw [show (Value.type n :: r) = veMro from beq_iff_eq.mp e];exact PySem.F.store_ValueError.passes self
 | .none :: r,e=>by cases (beq_iff_eq.mp (show ((Value.none :: r) == veMro) = true from e))
 | .bool _ :: r,e=>by cases (beq_iff_eq.mp (show ((Value.bool _ :: r) == veMro) = true from e))
 | .int _ _ :: r,e=>by cases (beq_iff_eq.mp (show ((Value.int _ _ :: r) == veMro) = true from e))
 | .float _ _ :: r,e=>by cases (beq_iff_eq.mp (show ((Value.float _ _ :: r) == veMro) = true from e))
 | .str _ _ :: r,e=>by cases (beq_iff_eq.mp (show ((Value.str _ _ :: r) == veMro) = true from e))
 | .bytes _ _ :: r,e=>by cases (beq_iff_eq.mp (show ((Value.bytes _ _ :: r) == veMro) = true from e))
 | .builtin _ :: r,e=>by cases (beq_iff_eq.mp (show ((Value.builtin _ :: r) == veMro) = true from e))
 | .ellipsis :: r,e=>by cases (beq_iff_eq.mp (show ((Value.ellipsis :: r) == veMro) = true from e))
 | .notImplemented :: r,e=>by cases (beq_iff_eq.mp (show ((Value.notImplemented :: r) == veMro) = true from e))
theorem ve_has : ∀ {l : List Value},onlyVE l = true->l.contains (.type "object") = true
 | .ref c :: r,e=>by rw [List.contains_cons,ve_has (l:=r) e,Bool.or_true]
 | [],e=>by cases e
 | .type n :: r,e=>by rw [show (Value.type n :: r) = veMro from beq_iff_eq.mp e];rfl
 | .none :: r,e=>by cases (beq_iff_eq.mp (show ((Value.none :: r) == veMro) = true from e))
 | .bool _ :: r,e=>by cases (beq_iff_eq.mp (show ((Value.bool _ :: r) == veMro) = true from e))
 | .int _ _ :: r,e=>by cases (beq_iff_eq.mp (show ((Value.int _ _ :: r) == veMro) = true from e))
 | .float _ _ :: r,e=>by cases (beq_iff_eq.mp (show ((Value.float _ _ :: r) == veMro) = true from e))
 | .str _ _ :: r,e=>by cases (beq_iff_eq.mp (show ((Value.str _ _ :: r) == veMro) = true from e))
 | .bytes _ _ :: r,e=>by cases (beq_iff_eq.mp (show ((Value.bytes _ _ :: r) == veMro) = true from e))
 | .builtin _ :: r,e=>by cases (beq_iff_eq.mp (show ((Value.builtin _ :: r) == veMro) = true from e))
 | .ellipsis :: r,e=>by cases (beq_iff_eq.mp (show ((Value.ellipsis :: r) == veMro) = true from e))
 | .notImplemented :: r,e=>by cases (beq_iff_eq.mp (show ((Value.notImplemented :: r) == veMro) = true from e))
def attrIn (K : Frag) (C : Addr) (f : Str) : Bool := findIn K (.ref C) "__setattr__" == some (some (.builtin "object.__setattr__")) && findIn K (.ref C) "__getattribute__" == some (some (.builtin "BaseException.__getattribute__")) && findIn K (.ref C) "__getattr__" == some none &&
  findIn K (.ref C) f == some none && (clsIn K C).any (fun cd => onlyVE cd.mro && cd.hasDict) && mroIn K C (.type "BaseException") == some true
section
variable {prog : Program} {w : World} {A : Around} {E : Value->Shared->Prop} {s : Shared} {K : Frag} {e C : Addr} {vs : Array Value} {f : Str} {v : Value}
theorem store_open {dx : Option Addr} {od : Option Obj} {Q : Unit->Shared->Prop} (X : K.In s.heap) (J : InstAt s.heap e (excObj C dx vs) C od) (hk : attrIn K C f = true)
  (h : ∀ (b : Bool) (tk : Tok),wpAny (model prog w) A.in1 (Builtin.ObjectAttr.storeInOwnDict (.ref e) (.ref C) (.str f tk) f v b) (fun fin s'=>fin = .done (.ret .none)/\Q () s') (fun _ _=>False) { s with toks:=s.toks + 1 }) :
  wpAny (model prog w) A (setAttr (.ref e) f v) Q E s:=by
 unfold attrIn at hk
 simp only [Bool.and_eq_true,beq_iff_eq] at hk
 obtain ⟨⟨⟨⟨⟨k1,k2⟩,k3⟩,k4⟩,k5⟩,k6⟩:=hk
 obtain ⟨cd,hc,ho⟩:=any_some k5
 rw [Bool.and_eq_true] at ho
 have SF:=PySem.F.store_ValueError
 have ne : cd.mro.isEmpty = false:=by cases q : cd.mro with | nil=>rw [q] at ho;cases ho.1 | cons _ _=>rfl
 have X1 : K.In ({ s with toks:=s.toks + 1 } : Shared).heap:=X
 have J1 : InstAt ({ s with toks:=s.toks + 1 } : Shared).heap e (excObj C dx vs) C od:=J
 have sub : Looks (model prog w) s.heap (isInstance (.ref e) (.type "object")) true:=J.type.andThen (looks_mroIn X (by unfold mroIn;rw [hc,Option.bind_some,if_neg (by rw [ne];decide),ve_has ho.1]))
 have hm : Looks (model prog w) s.heap (mroOf (.ref C)) cd.mro:=(looks_clsIn X hc).andThen .now
 refine set_plain X J k1 (codeAny_call_builtin SF.slot.plain SF.entry (@check_slot (model prog w) _ _ { s with toks:=s.toks + 1 } "object.__setattr__" "object" "__setattr__" (.ref e) [.str f s.toks,v] [] _ SF.kind SF.split sub (SF.args _ _ _) ?_))
 rw [osa_eq,refuse_eq]
 refine wpAny_bind (wpAny_bind (J1.type.here (wpAny_bind (Looks.here (s:={ s with toks:=s.toks + 1 }) hm ?_))))
 rw [refuse_ve _ ho.1]
 refine wpAny_pure (wpAny_bind (J1.type.here (wpAny_bind ((looks_findIn X1 k4).here (wpAny_bind (Looks.here (s:={ s with toks:=s.toks + 1 }) (r:=none) .now ?_))))))
 refine wpAny_mono (h false s.toks) (fun fin s' z=>?_) (fun _ _ (z : False)=>z.elim)
 obtain ⟨rfl,z⟩:=z
 exact z
theorem store_first {Q : Unit->Shared->Prop} (X : K.In s.heap) (he : s.heap.get? e = some (excObj C none vs)) (hk : attrIn K C f = true)
  (h : ∀ h' tk,h'.get? e = some (excObj C (some s.heap.objs.size) vs)->h'.Ns1 s.heap.objs.size (fun y=>if y = f then some v else none)->(∀ b o,b ≠ e->s.heap.get? b = some o->h'.get? b = some o)->Q () { s with heap:=h',toks:=tk }) :
  wpAny (model prog w) A (setAttr (.ref e) f v) Q E s:=by
 have J : InstAt s.heap e (excObj C none vs) C none:=⟨he,rfl,rfl,trivial⟩
 refine store_open X J hk fun b tk=>?_
 unfold attrIn at hk
 simp only [Bool.and_eq_true,beq_iff_eq] at hk
 obtain ⟨cd,hc,ho⟩:=any_some hk.1.2
 rw [Bool.and_eq_true] at ho
 obtain ⟨hh,g,dr,t,os⟩:=s
 have L:=looks_clsIn (M:=model prog w) X hc
 have hxs : e ≠ hh.objs.size:=Nat.ne_of_lt (Heap.lt_size he)
 have he1 : (hh.push { cls:=.type "dict",data:=.dict #[] }).get? e = some (excObj C none vs):=Heap.get?_push_of_some _ he
 refine wpAny_bind (wpAny_pure (wpAny_bind (wpAny_bind (wpAny_loadPart he (wpAny_bind (L.at ?_))))))
 rw [ho.2]
 refine wpAny_bind (wpAny_alloc' (wpAny_bind (wpAny_update' he1 (wpAny_pure ?_))))
 have gd : ((hh.push { cls:=.type "dict",data:=.dict #[] }).update e fun o=>{ cls:=o.cls,dict:=some hh.objs.size,data:=o.data,slots:=o.slots }).get? hh.objs.size = some { cls:=.type "dict",data:=.dict #[] } :=
  (Heap.get?_update_ne _ _ _ _ hxs.symm).trans (Heap.get?_push_at rfl rfl)
 have ge : ((hh.push { cls:=.type "dict",data:=.dict #[] }).update e fun o=>{ cls:=o.cls,dict:=some hh.objs.size,data:=o.data,slots:=o.slots }).get? e = some (excObj C (some hh.objs.size) vs):=Heap.get?_update_self _ he1 rfl
 have nd : ((hh.push { cls:=.type "dict",data:=.dict #[] }).update e fun o=>{ cls:=o.cls,dict:=some hh.objs.size,data:=o.data,slots:=o.slots }).Ns hh.objs.size (fun _=>none):=⟨_,#[],_,gd,rfl,fun z hz=>absurd hz (by simp),fun _=>rfl⟩
 show wpAny _ _ (Builtin.ObjectAttr.storeInDict hh.objs.size (.str f tk) f v) _ _ _
 refine wpAny_bind (wpAny_pure (wpAny_bind (wpAny_nsSet1 (Heap.Ns1.of_empty nd) fun h' hn sb=>?_)))
 obtain ⟨oD,esD,epD,hoD,hdD,hcD⟩:=hn.count (PySem.Within.cons f v PySem.Within.nil)
 refine wpAny_bind (wpAny_lookBehind hoD (by rw [hdD];exact pastItsLine_dict (Nat.le_trans hcD (by rw [List.length_cons,List.length_nil,sizeLine_eq];omega))) (wpAny_pure ⟨rfl,h h' _ ((sb.2 e hxs).trans ge) hn fun b o hb q=>?_⟩))
 exact (sb.2 b (Nat.ne_of_lt (Heap.lt_size q))).trans ((Heap.get?_update_ne _ _ _ _ hb).trans (Heap.get?_push_of_some _ q))
theorem store_next {d : Addr} {mA : Str->Option Value} {ns : List Str} {Q : Unit->Shared->Prop} (X : K.In s.heap) (he : s.heap.get? e = some (excObj C (some d) vs)) (hn : s.heap.Ns1 d mA) (hw : PySem.Within mA ns) (hs : ns.length <= 1000) (hk : attrIn K C f = true)
  (h : ∀ h' tk,h'.Ns1 d (fun y=>if y = f then some v else mA y)->Heap.SameBut d s.heap h'->Q () { s with heap:=h',toks:=tk }) : wpAny (model prog w) A (setAttr (.ref e) f v) Q E s:=by
 obtain ⟨od,hod,hl⟩:=lookIn_ns hn
 have J : InstAt s.heap e (excObj C (some d) vs) C (some od):=⟨he,rfl,rfl,hod⟩
 refine store_open X J hk fun b tk=>?_
 unfold attrIn at hk
 simp only [Bool.and_eq_true,beq_iff_eq] at hk
 obtain ⟨cd,hc,ho⟩:=any_some hk.1.2
 rw [Bool.and_eq_true] at ho
 obtain ⟨hh,g,dr,t,os⟩:=s
 have L:=looks_clsIn (M:=model prog w) X hc
 refine wpAny_bind (wpAny_pure (wpAny_bind (wpAny_bind (wpAny_loadPart he (wpAny_bind (L.at ?_))))))
 rw [ho.2]
 refine wpAny_pure (a:=some d) ?_
 show wpAny _ _ (Builtin.ObjectAttr.storeInDict d (.str f tk) f v) _ _ _
 refine wpAny_bind (wpAny_pure (wpAny_bind (wpAny_nsSet1 (s:=⟨hh,g,dr,t + 1,os⟩) hn fun h' hn' sb=>?_)))
 obtain ⟨oD,esD,epD,hoD,hdD,hcD⟩:=hn'.count (PySem.Within.cons f v hw)
 exact wpAny_bind (wpAny_lookBehind hoD (by rw [hdD];exact pastItsLine_dict (Nat.le_trans hcD (by rw [List.length_cons,sizeLine_eq];omega))) (wpAny_pure ⟨rfl,h h' _ hn' sb⟩))
theorem load_exc {d : Addr} {mA : Str → Option Value} {expr : Bool} {Q : Value → Shared → Prop} (X : K.In s.heap) (he : s.heap.get? e = some (excObj C (some d) vs)) (hn : s.heap.Ns1 d mA) (hk : attrIn K C f = true) (hv : mA f = some v) (hh' : handedIn v = true)
    (hq : Q v { s with toks := s.toks + 1 }) : wpAny (model prog w) A (getAttr (.ref e) f expr) Q E s := by
  obtain ⟨od, hod, hl⟩ := lookIn_ns hn
  have J : InstAt s.heap e (excObj C (some d) vs) C (some od) := ⟨he, rfl, rfl, hod⟩
  unfold attrIn at hk
  simp only [Bool.and_eq_true, beq_iff_eq] at hk
  obtain ⟨⟨⟨⟨⟨k1, k2⟩, k3⟩, k4⟩, k5⟩, k6⟩ := hk
  obtain ⟨cd, hc, ho⟩ := any_some k5
  rw [Bool.and_eq_true] at ho
  have hfo : findObj K C (some od) f = some (.value v) := findObj_own (by unfold hasDictIn; rw [hc]; exact ho.2) k4 rfl (by rw [hl, hv])
  obtain ⟨hh, g, dr, t, os⟩ := s
  have T := J.type (M := model prog w)
  have L1 := looks_findIn (M := model prog w) X k2
  have L2 := looks_findIn (M := model prog w) X k3
  have L3 := looks_find (M := model prog w) X J hfo
  have FB := PySem.F.attr_ValueError
  have f3 := FB.ga.bind (.ref e)
  have hx0 : (expr && onTheHeap (Value.builtin "BaseException.__getattribute__")) = false := by cases expr <;> rfl
  unfold getAttr getAttrBy
  refine wpAny_bind (wpAny_mkText (wpAny_holding (wpAny_bind (T.at (wpAny_bind (L1.at ?_))))))
  show wpAny _ _ (getAttrByItsOwn (.ref e) (.str f t) (.ref C) (.builtin "BaseException.__getattribute__") true expr) _ _ _
  unfold getAttrByItsOwn hookBefore; unfold callGetattribute boundAndCalled
  refine wpAny_bind (L2.at (wpAny_bind (wpAny_attempt (wpAny_holding ?_))))
  rw [hx0]
  show wpAny _ _ (bindSpecial (.builtin "BaseException.__getattribute__") (.ref e) >>= _) _ _ _
  refine wpAny_bind (wpAny_of_eq f3 ?_)
  refine wpAny_mono (Q := fun u s' => u = v ∧ s' = ⟨hh, g, dr, t + 1, os⟩) (E := fun _ _ => False) (wpAny_call (codeAny_call_builtin FB.ga.plain PySem.F.entry_bexc_ga (@check_slot (model prog w) _ _ ⟨hh, g, dr, t + 1, os⟩ "BaseException.__getattribute__" "BaseException" "__getattribute__" (.ref e) [.str f t] [] _ (by decide +kernel) (by decide +kernel)
    (T.andThen (looks_mroIn X k6)) (PySem.F.args_bexc_ga _ _) ?_))) (fun u s' hu => ?_) fun _ _ z => z.elim
  · unfold Builtin.«object.__getattribute__»
    repeat (first | (with_reducible refine Looks.at T ?_) | (with_reducible refine Looks.at L3 ?_) | wp_step)
    all_goals exact ⟨rfl, rfl⟩
  · obtain ⟨rfl, rfl⟩ := hu
    show wpAny _ _ (handedOut u) _ _ _
    rw [handedOut_of hh']
    exact wpAny_pure hq
end
def tXFld (K : Frag) (ta : TE) (f : Str) : TE:=fun σ H Q=>ta σ H fun x H1=>∃ e C d fs v,x = .ref e/\H1 e = some (excO e C (some d))/\H1 d = some (.xd fs)/\attrIn K C f = true/\fs.lookup f = some v/\Q v H1
def sXFld (K : Frag) (ta tv : TE) (f : Str) : TS := fun D σ H => tv σ H fun y H1 => ta σ H1 fun x H2 => ∃ e C, x = .ref e ∧ attrIn K C f = true ∧
  ((H2 e = some (excN e C none) ∧ ∀ d, H2 d = none → D.nx σ (upd (upd H2 d (.xd [(f, y)])) e (excN e C (some d)))) ∨
   ∃ d fs, H2 e = some (excN e C (some d)) ∧ H2 d = some (.xd fs) ∧ fs.length < 1000 ∧ D.nx σ (upd H2 d (.xd (putF f y fs))))
section
variable {X : Cx} {o value : Expr} {f : Str} {pos pos' : Pos} {ta tv : TE}
theorem pe_xfld (he : PE X o ta) (hb : attributeBase o f X.env (eval o X.env) = eval o X.env:=by rfl) : PE X (.Attribute o f pos) (tXFld X.K ta f):=by
 intro pins s σ H Q I h
 refine attr_of hb (thn (he pins s σ H _ I h) fun u s1 ⟨x,H1,I1,rx,e,C,d,fs,v,ex,e1,e2,k,l,q⟩=>?_)
 subst ex
 obtain rfl : u = Value.ref e:=rx
 obtain ⟨vs,oe⟩:=I1.hok.exc e1
 obtain ⟨mA,hn,r⟩:=I1.hok d _ e2
 obtain ⟨y,hy,ry⟩ : ∃ y,mA f = some y/\RelV v y:=by
  have:=r f
  rw [l] at this
  cases z : mA f with
  | none=>rw [z] at this;exact this.elim
  | some y=>rw [z] at this;exact ⟨y,rfl,this⟩
 exact load_exc I1.kIn oe hn k hy (handed_of ry) ⟨v,H1,I1.tok _,ry,q⟩
theorem Inv.firstX {pins : List (Addr × Obj)} {σ : St} {H : Hp} {s : Shared} {h' : Heap} {t' : Nat} {e C : Addr} {vs : Array Value} {fs : List (Str × V)} {mA : Str->Option Value} (I : Inv X pins σ H s) (he : H e = some (excN e C none)) (q : h'.get? e = some (excObj C (some s.heap.objs.size) vs)) (q1 : (vs[1]? : Option Value) = some .none)
  (hn : h'.Ns1 s.heap.objs.size mA) (r : ∀ f,RelO (fs.lookup f) (mA f)) (k : ∀ b o,b ≠ e->s.heap.get? b = some o->h'.get? b = some o) :
  Inv X pins σ (upd (upd H s.heap.objs.size (.xd fs)) e (excN e C (some s.heap.objs.size))) { s with heap:=h',toks:=t' }:=by
 obtain ⟨_,oe,_⟩:=I.hok.exn he
 have ne : s.heap.objs.size ≠ e:=Nat.ne_of_gt (Heap.lt_size oe)
 have nd : ∀ {b o},s.heap.get? b = some o->b ≠ s.heap.objs.size:=fun z=>Nat.ne_of_lt (Heap.lt_size z)
 have fr : H s.heap.objs.size = none:=I.hok.fresh (Nat.le_refl _)
 have kH : ∀ b u,H b = some u->b ≠ e->upd (upd H s.heap.objs.size (.xd fs)) e (excN e C (some s.heap.objs.size)) b = some u:=fun b u z n=>by
  rw [upd_ne n,upd_ne (fun y=>by rw [y,fr] at z;cases z)];exact z
 have tn : ∀ b u,H b = some u->u ≠ excN e C none->b ≠ e:=fun b u z n y=>by rw [y,he] at z;exact n (Option.some.inj z).symm
 refine I.un ⟨fun b o z n _ _=>k b o (fun y=>by rw [y,he] at n;cases n) z,fun b o z n _ _=>⟨o.slots,k b o (fun y=>by rw [y,he] at n;cases n) z⟩,fun b o z n _=>?_,fun b o z _=>?_,fun b xs z=>kH b _ z (tn b _ z fun y=>by cases y),fun b o u z=>kH b _ z (tn b _ z fun y=>by cases y),fun b ps z=>⟨#[],by rw [kH b _ z (tn b _ z fun y=>by cases y)];simp⟩⟩ fun b u z=>?_
 ·rw [upd_ne (fun y=>by rw [y,he] at n;cases n),upd_ne (nd z)];exact n
 ·by_cases hb : b = e
  ·exact ⟨_,hb ▸ q⟩
  ·exact ⟨o,k b o hb z⟩
 ·by_cases hb : b = e
  ·subst hb
   rw [upd_same] at z
   cases z
   exact excN.ok q q1
  ·rw [upd_ne hb] at z
   by_cases hd : b = s.heap.objs.size
   ·subst hd
    rw [upd_same] at z
    cases z
    exact ⟨mA,hn,r⟩
   ·rw [upd_ne hd] at z
    refine (I.hok b u z).stay (fun c v hc y=>k c v (fun x=>?_) y) (fun c y=>kH c _ y (tn c _ y fun x=>by cases x)) (fun c xs y=>kH c _ y (tn c _ y fun x=>by cases x))
    subst x
    rcases hc with x | x
    ·exact hb x.symm
    ·rw [he] at x;cases x
theorem Inv.nextX {pins : List (Addr × Obj)} {σ : St} {H : Hp} {s : Shared} {h' : Heap} {t' : Nat} {d : Addr} {fs fs' : List (Str × V)} {mA : Str->Option Value} (I : Inv X pins σ H s) (he : H d = some (.xd fs)) (sb : Heap.SameBut d s.heap h') (hn : h'.Ns1 d mA) (r : ∀ f,RelO (fs'.lookup f) (mA f)) :
  Inv X pins σ (upd H d (.xd fs')) { s with heap:=h',toks:=t' }:=by
 have k : ∀ b o,b ≠ d->s.heap.get? b = some o->h'.get? b = some o:=fun b o n z=>(sb.2 b n).trans z
 have tn : ∀ b u,H b = some u->u ≠ .xd fs->b ≠ d:=fun b u z n y=>by rw [y,he] at z;exact n (Option.some.inj z).symm
 have kH : ∀ b u,H b = some u->b ≠ d->upd H d (.xd fs') b = some u:=fun b u z n=>by rw [upd_ne n];exact z
 refine I.un ⟨fun b o z n _ _=>k b o (fun y=>by rw [y,he] at n;cases n) z,fun b o z n _ _=>⟨o.slots,k b o (fun y=>by rw [y,he] at n;cases n) z⟩,fun b o z n _=>by rw [upd_ne (fun y=>by rw [y,he] at n;cases n)];exact n,fun b o z _=>?_,fun b xs z=>kH b _ z (tn b _ z fun y=>by cases y),fun b o u z=>kH b _ z (tn b _ z fun y=>by cases y),fun b ps z=>⟨#[],by rw [kH b _ z (tn b _ z fun y=>by cases y)];simp⟩⟩ fun b u z=>?_
 ·by_cases hb : b = d
  ·obtain ⟨o,_,_,z,_⟩:=hn
   exact ⟨_,hb ▸ z⟩
  ·exact ⟨o,k b o hb z⟩
 ·by_cases hb : b = d
  ·subst hb
   rw [upd_same] at z
   cases z
   exact ⟨mA,hn,r⟩
  ·rw [upd_ne hb] at z
   refine (I.hok b u z).stay (fun c v hc y=>k c v (fun x=>?_) y) (fun c y=>kH c _ y (tn c _ y fun x=>by cases x)) (fun c xs y=>kH c _ y (tn c _ y fun x=>by cases x))
   subst x
   rcases hc with x | x
   ·exact hb x.symm
   ·rw [he] at x;cases x
theorem ps_xfld (ha : PE X o ta) (hv : PE X value tv) (hs : swapsWith value (some (.Attribute o f pos')) pos.line X.env = pure false:=by rfl) : PS X (.Assign [.Attribute o f pos'] value pos) (sXFld X.K ta tv f):=by
 intro pins s σ H D I h
 refine plainObj_wpAny_Assign_Attribute (thn (hv pins s σ H _ I h) fun u s1 ⟨y,H1,I1,ry,q⟩=>thn (ha pins s1 σ H1 _ I1 q) fun ov s2 ⟨x,H2,I2,rx,e,C,ex,k,q2⟩=>?_) hs
 subst ex
 obtain rfl : ov = Value.ref e:=rx
 rcases q2 with ⟨e1,q2⟩ | ⟨d,fs,e1,e2,hl,q2⟩
 ·obtain ⟨vs,oe,f1⟩:=I2.hok.exn e1
  refine store_first I2.kIn oe k fun h' tk z1 z2 z3=>⟨σ,_,I2.firstX e1 z1 f1 z2 (fun g=>?_) z3,q2 _ (I2.hok.fresh (Nat.le_refl _))⟩
  show RelO (List.lookup g [(f,y)]) (if g = f then some u else none)
  rw [List.lookup_cons]
  by_cases hg : g = f
  ·rw [if_pos hg,show (g == f) = true by simp [hg]];exact ry
  ·rw [if_neg hg,show (g == f) = false by simp [hg]];trivial
 ·obtain ⟨vs,oe,f1⟩:=I2.hok.exn e1
  obtain ⟨mA,hn,r⟩:=I2.hok d _ e2
  refine store_next (ns:=fs.map (·.1)) I2.kIn oe hn (fun g hg=>?_) (by rw [List.length_map];exact Nat.le_of_lt hl) k fun h' tk z1 z2=>⟨σ,_,I2.nextX e2 z2 z1 (fun g=>?_),q2⟩
  ·have:=r g
   cases z : fs.lookup g with
   | none=>rw [z] at this;cases z' : mA g with | none=>exact absurd z' hg | some _=>rw [z'] at this;exact this.elim
   | some v=>exact List.mem_map.mpr ⟨(g,v),PySem.mem_of_lookup z,rfl⟩
  ·rw [lookup_putF]
   by_cases hg : g = f
   ·rw [if_pos hg,if_pos hg];exact ry
   ·rw [if_neg hg,if_neg hg];exact r g
end
end L2
end

section
set_option Elab.async false
set_option linter.all false
set_option maxRecDepth 100000
namespace L2
open PySem PySem.Spec PyProof.Rows PySem.W
def kindIn (K : Frag) (C : Addr) : Bool := findIn K (.ref C) "__getattribute__" == some (some (.builtin "BaseException.__getattribute__")) && findIn K (.ref C) "__getattr__" == some none && findIn K (.ref C) "__class__" == some (some (.builtin "object.__class__")) &&
  specialIn K (.builtin "object.__class__") "__get__" == some (some (.builtin "getset_descriptor.__get__")) && takesIn K (.builtin "object.__class__") == some true && mroIn K C (.type "object") == some true && mroIn K C (.type "BaseException") == some true && (clsIn K C).isSome
section
variable {K : Frag} {e C d : Addr}
theorem kitx_exc (hk : kindIn K C = true) : KitX K (.ref e) (.ref C) (fun h => ∃ vs od, InstAt h e (excObj C (some d) vs) C (some od)) := by
  unfold kindIn at hk
  simp only [Bool.and_eq_true, beq_iff_eq] at hk
  obtain ⟨⟨⟨⟨⟨⟨⟨k1, k2⟩, k3⟩, k4⟩, k5⟩, k6⟩, k7⟩, k8⟩ := hk
  obtain ⟨cd, hc⟩ := Option.isSome_iff_exists.mp k8
  have cls : ∀ {h : Heap}, K.In h → ∃ oD, h.get? C = some oD ∧ oD.data = .cls cd := fun {h} X => by
    unfold clsIn at hc
    split at hc
    · rename_i ho
      cases hc
      exact ⟨_, X _ _ ho, rfl⟩
    · cases hc
  refine ⟨fun _ _ _ ⟨_, _, I⟩ => I.type, fun M h X _ => ?_, fun h tp dd its n sl X htp => ?_, ?_⟩
  · obtain ⟨oD, h1, h2⟩ := cls X
    intro A' Q' E' s' k q
    unfold isType loadHead
    refine wpAny_bind (wpAny_loadPart (k _ _ h1) ?_)
    rw [h2]
    exact wpAny_pure q
  · obtain ⟨oD, h1, h2⟩ := cls X
    refine Bool.eq_false_iff.mpr fun q => ?_
    have z : C = tp := Value.ref.inj (beq_iff_eq.mp q)
    rw [z, htp] at h1
    cases h1
    cases h2
  · intro prog w A E Q s X ⟨vs, od, I⟩ hq
    obtain ⟨hh, g, dr, t, os⟩ := s
    have hf : findObj K C (some od) "__class__" = some (.bind (.builtin "getset_descriptor.__get__") (.builtin "object.__class__")) := findObj_data k8 k3 k4 k5
    have T := I.type (M := model prog w)
    have L1 := looks_findIn (M := model prog w) X k1
    have L2 := looks_findIn (M := model prog w) X k2
    have L3 := looks_find (M := model prog w) X I hf
    have FB := PySem.F.attr_ValueError
    have f3 := FB.ga.bind (.ref e)
    unfold getAttr? getAttrBy?; unfold getAttrBy
    refine wpAny_bind (wpAny_mkText (wpAny_bind (wpAny_attempt (wpAny_holding (wpAny_bind (T.at (wpAny_bind (L1.at ?_))))))))
    show wpAny _ _ (getAttrByItsOwn (.ref e) (.str "__class__" t) (.ref C) (.builtin "BaseException.__getattribute__") false false) _ _ _
    unfold getAttrByItsOwn hookBefore; unfold callGetattribute boundAndCalled
    refine wpAny_bind (L2.at (wpAny_bind (wpAny_attempt (wpAny_holding ?_))))
    show wpAny _ _ (bindSpecial (.builtin "BaseException.__getattribute__") (.ref e) >>= _) _ _ _
    refine wpAny_bind (wpAny_of_eq f3 ?_)
    refine wpAny_mono (Q := fun u s' => u = .ref C ∧ s' = ⟨hh, g, dr, t + 1, os⟩) (E := fun _ _ => False) (wpAny_call (codeAny_call_builtin FB.ga.plain PySem.F.entry_bexc_ga (@check_slot (model prog w) _ _ ⟨hh, g, dr, t + 1, os⟩ "BaseException.__getattribute__" "BaseException" "__getattribute__" (.ref e) [.str "__class__" t] [] _ (by decide +kernel) (by decide +kernel)
      (T.andThen (looks_mroIn X k7)) (PySem.F.args_bexc_ga _ _) ?_))) (fun u s' hu => ?_) fun _ _ z => z.elim
    · unfold Builtin.«object.__getattribute__»
      repeat (first | (with_reducible refine Looks.at T ?_) | (with_reducible refine Looks.at L3 ?_) | wp_step)
      refine class_get (s := ⟨hh, g, dr, t + 1, os⟩) X I k6 ?_
      repeat (first | exact ⟨rfl, rfl⟩ | wp_step)
    · obtain ⟨rfl, rfl⟩ := hu
      exact wpAny_pure (wpAny_pure hq)
end
def cV : V->Option Value
 | .ref a=>some (.ref a)
 | .ty n=>some (.type n)
 | _=>none
def rIsiX (K : Frag) : List V->Hp->VK->Prop:=fun vs H Q=>∃ e C d fs c cv b,vs = [.ref e,c]/\H e = some (excO e C (some d))/\H d = some (.xd fs)/\kindIn K C = true/\cV c = some cv/\kitOne K (.ref C) cv = some b/\Q (.bl b) H
theorem call_isix {X : Cx} : CallR X (.builtin "isinstance") (rIsiX X.K):=by
 intro pins s σ H xs us Q I r h
 obtain ⟨e,C,d,fs,c,cv,b,rfl,h1,h2,k,hc,hb,q⟩:=h
 obtain ⟨u1,u2,rfl,r1,r2⟩:=r.two
 obtain rfl : u1 = Value.ref e:=r1
 obtain rfl : u2 = cv:=by
  cases c with
  | ref a=>cases hc;exact r2
  | ty n=>cases hc;exact r2
  | _=>cases hc
 obtain ⟨vs,oe⟩:=I.hok.exc h1
 obtain ⟨mA,hn,_⟩:=I.hok d _ h2
 obtain ⟨od,hod,_⟩:=lookIn_ns hn
 exact kia_one (kitx_exc (d:=d) k) I.kIn ⟨vs,od,oe,rfl,rfl,hod⟩ hb (fun z=>nomatch z) fun tk=>⟨.bl b,H,I.tok tk,rfl,q⟩
end L2
end

section
set_option Elab.async false
set_option linter.all false
set_option maxRecDepth 100000
namespace L2
open PySem PySem.Spec PyProof.Rows
open AutoSeq1 (wpAny_loadPart')
theorem boot_enum : bootBuiltins ("enumerate" : Str) = some (.type "enumerate"):=by decide +kernel
theorem Inv.turnedNew {X : Cx} {pins : List (Addr × Obj)} {σ : St} {H : Hp} {s : Shared} {h' : Heap} {t' : Nat} {fp : List Addr} {T : Addr} {xs : List V} {its : List Value} (I : Inv X pins σ H s) (hf : ∀ b ∈ fp,FpOk X pins H b) (k : ∀ b o,b ∉ fp->s.heap.get? b = some o->h'.get? b = some o)
  (hx : ∀ b ∈ fp,∃ o,h'.get? b = some o) (hT : s.heap.objs.size <= T) (ht : IsTup h' T its.toArray) (r : Vals xs its) (hl : xs.length <= sizeLine) : Inv X pins σ (upd H T (.tup xs)) { s with heap:=h',toks:=t' }:=by
 have fr : H T = none:=I.hok.fresh hT
 have nT : ∀ {b o},s.heap.get? b = some o->b ≠ T:=fun z y=>absurd (Heap.lt_size z) (Nat.not_lt.mpr (y ▸ hT))
 have kH : ∀ b u,H b = some u->upd H T (.tup xs) b = some u:=fun b u z=>by rw [upd_ne (fun y=>by rw [y,fr] at z;cases z)];exact z
 have nf : ∀ b u,H b = some u->b ∉ fp:=fun b u z y=>by rw [(hf b y).1] at z;cases z
 refine I.step (g':=s.gens) (d':=s.drawn) (ch:=fp) (fun b hb=>⟨(hf b hb).2.2.2.1,(hf b hb).2.1,(hf b hb).2.2.2.2.1,(hf b hb).2.2.2.2.2⟩) (fun b o _ _ hb z _=>k b o hb z) (fun b o _ _ hb z _=>⟨o.slots,k b o hb z⟩) (fun b o _ z n=>by rw [upd_ne (nT z)];exact n)
  (fun b o hb z=>⟨o,k b o hb z⟩) (fun b ys z=>kH b _ z) (fun b o u z=>kH b _ z) (fun b ps z=>⟨#[],by rw [kH b _ z];simp⟩) (fun m hn=>?_) (fun b u z=>?_) ⟨I.bare.1,Nat.le_refl _⟩
 ·obtain ⟨o,es,ep,ho,rr⟩:=hn
  exact ⟨o,es,ep,k _ o (fun y=>(hf _ y).2.1 rfl) ho,rr⟩
 ·by_cases hb : b = T
  ·subst hb
   rw [upd_same] at z
   cases z
   exact ⟨hl,its,r,ht⟩
  ·rw [upd_ne hb] at z
   refine (I.hok b u z).stay (fun c v hc y=>k c v (fun x=>?_) y) (fun c y=>kH c _ y) (fun c ys y=>kH c _ y)
   rcases hc with e | e
   ·rw [e] at x;exact nf b u z x
   ·exact nf c _ e x
section
variable {prog : Program} {w : World} {A : Around} {E : Value->Shared->Prop} {s : Shared}
theorem nextOf_titem {it l : Addr} {i : Nat} {items : Array Value} {x : Value} {Q : Value->Shared->Prop} (hit : s.heap.IsTupleIter it l i) (hl : s.heap.IsTuple l items) (hx : items[i]? = some x)
  (hQ : ∀ h',h'.IsTupleIter it l (i + 1)->Heap.SameBut it s.heap h'->Q x { s with heap:=h' }) : wpAny (model prog w) A (Builtin.SmallTypes.nextOf (.ref it)) Q E s:=by
 obtain ⟨o,ho,hc,hd⟩:=id hit
 obtain ⟨ol,hol,_,nl,hdl⟩:=hl
 unfold Builtin.SmallTypes.nextOf
 refine wpAny_bind (wpAny_callSpecial?_slot (name:=Str.ofString "__next__") hit.typeIs F.slot_tuple_iterator_next (wpAny_call_entry F.slot_tuple_iterator_next hit.typeIs F.entry_tuple_iterator_next ?_ (F.args_tuple_iterator_next_1 _)))
 show wpAny _ _ (field (.ref it) 0 >>= _) _ _ s
 refine wpAny_bind (wpAny_field ho hd (x:=.ref l) rfl ?_)
 show wpAny _ _ (if (Value.ref l == Value.none) = true then _ else _) _ _ s
 rw [if_neg (by simp)]
 show wpAny _ _ (field (.ref it) 1 >>= _) _ _ s
 refine wpAny_bind (wpAny_field ho hd (x:=.int i 0) rfl ?_)
 show wpAny _ _ (seqItems? (.ref l) >>= _) _ _ s
 refine wpAny_bind (wpAny_seqItems hol hdl ?_)
 simp only [Int.toNat_natCast,hx]
 refine wpAny_bind (wpAny_setField ho hd (by simp) (wpAny_pure ⟨x,rfl,wpAny_pure (hQ _ ⟨_,Heap.get?_update_self _ ho (Obj.isFreed_of_fields (Obj.data_mapFields hd _)),(Obj.cls_mapFields ..).trans hc,?_⟩ (Heap.SameBut.update ..))⟩))
 rw [Obj.data_mapFields hd];simp [rawInt]
theorem nextOf_tend {it l : Addr} {i : Nat} {items : Array Value} {Q : Value->Shared->Prop} (hh : A.handled = none) (hit : s.heap.IsTupleIter it l i) (hl : s.heap.IsTuple l items) (hx : items[i]? = none)
  (hE : ∀ h' e,Heap.ExtBut it s.heap h'->(∃ o,h'.get? e = some o/\o.cls = .type "StopIteration")->E (.ref e) { s with heap:=h' }) : wpAny (model prog w) A (Builtin.SmallTypes.nextOf (.ref it)) Q E s:=by
 obtain ⟨o,ho,hc,hd⟩:=id hit
 obtain ⟨ol,hol,_,nl,hdl⟩:=hl
 unfold Builtin.SmallTypes.nextOf
 refine wpAny_bind (wpAny_callSpecial?_slot (name:=Str.ofString "__next__") hit.typeIs F.slot_tuple_iterator_next (wpAny_call_entry F.slot_tuple_iterator_next hit.typeIs F.entry_tuple_iterator_next ?_ (F.args_tuple_iterator_next_1 _)))
 show wpAny _ _ (field (.ref it) 0 >>= _) _ _ s
 refine wpAny_bind (wpAny_field ho hd (x:=.ref l) rfl ?_)
 show wpAny _ _ (if (Value.ref l == Value.none) = true then _ else _) _ _ s
 rw [if_neg (by simp)]
 show wpAny _ _ (field (.ref it) 1 >>= _) _ _ s
 refine wpAny_bind (wpAny_field ho hd (x:=.int i 0) rfl ?_)
 show wpAny _ _ (seqItems? (.ref l) >>= _) _ _ s
 refine wpAny_bind (wpAny_seqItems hol hdl ?_)
 simp only [Int.toNat_natCast,hx]
 refine wpAny_bind (wpAny_rule (wpAny_bind (wpAny_setField ho hd (by simp) ?_)))
 show wpAny _ _ (newExc (.type "StopIteration") [] >>= _) _ _ _
 refine wpAny_bind ?_
 simp only [newExc,newTuple]
 refine wpAny_bind (wpAny_newObj_type (wpAny_bind (m:=firstArgMember _ _) (wpAny_of_eq (a:=Value.none) (by first | rfl | (simp only [firstArgMember];rfl)) (wpAny_newObj_type ?_ (by size_fits)))) (by size_fits))
 simp only [raiseNew]
 refine wpAny_bind (wpAny_handled ?_)
 rw [show A.in1.handled = none from hh]
 exact wpAny_bind (wpAny_pure (wpAny_throw (hE _ _ (((Heap.SameBut.update ..).extBut.push _).push _) ⟨_,Heap.get?_push_size _ rfl,rfl⟩)))
end
theorem _root_.PySem.Draws.tuple {prog : Program} {w : World} {A : Around} (hh : A.handled = none) (it l : Addr) (hne : l ≠ it) (items : Array Value) :
  Draws prog w A it [it,l] items.size (fun i v=>items[i]? = some v) (fun i h=>h.IsTupleIter it l i/\h.IsTuple l items) where
 live:=fun _ _ st=>let ⟨o,ho,_⟩:=st.1;⟨o,ho⟩
 frame:=fun _ _ _ st hk=>⟨st.1.at fun o e=>hk it (by simp) o e,st.2.at fun o e=>hk l (by simp) o e⟩
 item:=fun i s Q E hi st hQ=>nextOf_titem st.1 st.2 (x:=items[i]) (by simp [hi]) fun h' hit' hs'=>hQ _ h' s.toks (by simp [hi]) ⟨hit',st.2.extBut hs'.extBut hne⟩ hs'
 done:=fun s Q E st hE=>nextOf_tend hh st.1 st.2 (by simp) hE
section
variable {prog : Program} {w : World} {A : Around} {E : Value->Shared->Prop} {s : Shared}
theorem enum_endT {e it l : Addr} {i : Nat} {items : Array Value} {old : Value} {Q : Option Value->Shared->Prop} (hh : A.handled = none) (he : IsEnum s.heap e it i old) (hit : s.heap.IsTupleIter it l i) (hl : s.heap.IsTuple l items) (hx : items[i]? = none)
  (hQ : ∀ h',Heap.ExtBut it s.heap h'->Q none { s with heap:=h' }) : wpAny (model prog w) A (pyNext (.ref e)) Q E s:=by
 have hT : s.TypeIs (.ref e) "enumerate" := ⟨_,he,rfl⟩
 unfold pyNext
 refine wpAny_bind (wpAny_attempt (wpAny_callSpecial?_slot (name:=Str.ofString "__next__") hT F.slot_enumerate_next (wpAny_call_entry F.slot_enumerate_next hT F.entry_enumerate_next ?_ (F.args_enumerate_next_1 _))))
 show wpAny _ _ (field (.ref e) 2 >>= _) _ _ _
 refine wpAny_bind (wpAny_field he rfl (x:=.ref it) rfl (wpAny_bind (nextOf_tend hh hit hl hx fun h' x eb ⟨o,ho,hc⟩=>?_)))
 exact wpAny_bind (wpAny_isInstance (T := "StopIteration") (b:=true) ⟨o,ho,hc⟩ isSubtype_stop (wpAny_pure (hQ _ eb)))
theorem new_enumT (l : Addr) (items : Array Value) (o : Obj) (hc : o.cls = .type "tuple") (n : Nat) (hd : o.data = .seq items n) :
  Meets (Builtin.«enumerate.__new__» ⟨[.type "enumerate",.ref l],[]⟩) (fun _ R s=>s.heap.get? l = some o/\R (.ok (.ret (.ref (s.heap.push { cls:=.type "tuple_iterator",data:=.fields #[.ref l,.int 0 0] }).objs.size)))
   { s with heap:=(s.heap.push { cls:=.type "tuple_iterator",data:=.fields #[.ref l,.int 0 0] }).push { cls:=.type "enumerate",data:=.fields #[.none,.bool false,.ref s.heap.objs.size,rawInt 0,.none,.none] } }):=by
 obtain ⟨c,dct,dt,sl⟩:=o
 replace hc : c = .type "tuple" := hc
 replace hd : dt = .seq items n:=hd
 subst hc hd
 exact .of_wp fun prog w A R s h=>by
  obtain ⟨hp,g,d,tk,os⟩:=s;obtain ⟨hl,h⟩:=h
  have hsub:=sub_enumerate
  have hL : Heap.IsTuple (Shared.heap ⟨hp,g,d,tk,os⟩) l items:=⟨_,hl,rfl,n,rfl⟩
  wp_walk using wpAny_loadPart' hl
  refine wpAny_stack_any fun st=>wpAny_pure ?_
  split
  ·rename_i c _ _ _ _ _
   cases (c == Value.type "enumerate") <;> (wp_walk using wpAny_loadPart' hl,wpAny_pyIter_tuple hL;exact ⟨_,rfl,h⟩)
  ·wp_walk using wpAny_loadPart' hl,wpAny_pyIter_tuple hL;exact ⟨_,rfl,h⟩
theorem call_enumT {l : Addr} {items : Array Value} {Q : Value->Shared->Prop} (hL : s.heap.IsTuple l items)
  (h : ∀ h',IsEnum h' (s.heap.objs.size + 1) s.heap.objs.size 0 .none->h'.IsTupleIter s.heap.objs.size l 0->(∀ b o,s.heap.get? b = some o->h'.get? b = some o)->Q (.ref (s.heap.objs.size + 1)) { s with heap:=h' }) :
  wpAny (model prog w) A (call (.type "enumerate") [.ref l]) Q E s:=by
 obtain ⟨o,hl,hc,n,hd⟩:=hL
 refine callType_new F.called_enumerate (by decide) (F.typeCall_enumerate_1 _) (F.newCall_enumerate_1 _) (fun obj=>F.args_object_init_2 obj _) F.entry_enumerate_new (new_enumT l items o hc n hd) ⟨hl,?_⟩
 have hz : (s.heap.push { cls:=.type "tuple_iterator",data:=.fields #[.ref l,.int 0 0] }).objs.size = s.heap.objs.size + 1:=Heap.size_push ..
 show _/\_
 rw [hz]
 have he : IsEnum ((s.heap.push { cls:=.type "tuple_iterator",data:=.fields #[.ref l,.int 0 0] }).push { cls:=.type "enumerate",data:=.fields #[.none,.bool false,.ref s.heap.objs.size,rawInt 0,.none,.none] }) (s.heap.objs.size + 1) s.heap.objs.size 0 .none :=
  Heap.get?_push_at hz.symm rfl
 exact ⟨⟨_,he,rfl⟩,h _ he ⟨_,Heap.get?_push_of_some _ (Heap.get?_push_size _ rfl),rfl,rfl⟩ fun b o x=>Heap.get?_push_of_some _ (Heap.get?_push_of_some _ x)⟩
end
def IteT (K : PySem.W.Frag) (a : Addr) : It :=
 ⟨fun i H=>∃ xs x,SqT K H a xs/\xs[i]? = some x,fun i H v H'=>∃ T x,v = .ref T/\H T = none/\H' = upd H T (.tup [.int i,x])/\∀ xs,SqT K H a xs->xs[i]? = some x,fun i H=>∃ xs,SqT K H a xs/\xs.length <= i⟩
theorem turn_enumT {P : Program} {w : World} {K : PySem.W.Frag} {elts : List Expr} {k} {pos : Pos} (a e it : Addr) (hne : e ≠ it) : Turn P w K (.Tuple elts k pos) (IteT K a) [e,it] e (fun i h=>(∃ old,IsEnum h e it i old)/\h.IsTupleIter it a i) where
 mem:=by simp
 obj:=fun i h st b hb=>by
  obtain ⟨⟨old,he⟩,o,ho,hc,hd⟩:=st
  rcases List.mem_cons.mp hb with rfl | hb
  ·exact ⟨_,he,fun v z=>by cases z⟩
  ·rw [show b = it by simpa using hb]
   exact ⟨o,ho,fun v z=>by rw [hd] at z;cases z⟩
 keep:=fun i h h' st kk=>by
  obtain ⟨⟨old,he⟩,hit⟩:=st
  exact ⟨⟨old,kk e (by simp) _ he⟩,hit.at fun o z=>kk it (by simp) o z⟩
 item:=by
  intro X hP hw hK hc i pins s σ H E I hf st hg
  subst hP hw hK
  obtain ⟨xs,x,hq,hx⟩:=hg
  obtain ⟨its,rv,p,hz⟩:=I.tuple hq
  obtain ⟨u,hu,ru⟩:=rv.get hx
  obtain ⟨⟨old,he⟩,hit⟩:=st
  have ht : s.heap.IsTuple a its.toArray:=p
  have hi : i < its.toArray.size:=by rw [List.size_toArray];exact (List.getElem?_eq_some_iff.mp hu).1
  have nai : a ≠ it:=fun z=>by
   obtain ⟨o1,q1,c1,_⟩:=ht
   obtain ⟨o2,q2,c2,_⟩:=hit
   rw [z,q2] at q1;cases q1;rw [c2] at c1;exact absurd c1 (by decide)
  have nae : e ≠ a:=fun z=>by
   obtain ⟨o1,q1,c1,_⟩:=ht
   rw [<- z,he] at q1;cases q1;exact absurd (show Value.type "enumerate" = .type "tuple" from c1) (by decide)
  have D:=Draws.tuple (prog:=X.prog) (w:=X.w) (A:=X.A.in1) (I.ok.hd hc) it a nai its.toArray
  refine wpAny_pyNext_enum_itemD D he ⟨hit,ht⟩ hi hne (by simp [hne,nae]) fun v h' tk hv ho hst hT hsz hk=>?_
  have hv' : its[i]? = some v:=by simpa using hv
  rw [hu] at hv'
  cases hv'
  refine ⟨_,rfl,wpAny_letOwnedTupleGo_enum (s:={ s with heap:=h',toks:=tk + 1 }) ho fun h2 he2 sb=>?_⟩
  have helt : e < s.heap.objs.size:=Heap.lt_size he
  have hilt : it < s.heap.objs.size:=by obtain ⟨_,z,_⟩:=hit;exact Heap.lt_size z
  have nT : s.heap.objs.size ≠ e:=Nat.ne_of_gt helt
  have hit2 : h2.IsTupleIter it a (i + 1):=hst.1.at fun o z=>(sb.2 it (Ne.symm hne)).trans z
  obtain ⟨o2,q2,_⟩:=id hit2
  have J : Inv X pins σ (upd H s.heap.objs.size (.tup [.int i,x])) { s with heap:=h2,toks:=tk + 1 }:=by
   refine I.turnedNew (fp:=[e,it]) (its:=[.int i tk,u]) hf (fun b o hb z=>(sb.2 b (fun y=>hb (by simp [y]))).trans (hk b o (fun y=>hb (by simp [y])) (fun y=>hb (by simp [y])) z)) (fun b hb=>?_) (Nat.le_refl _) ⟨_,(sb.2 _ nT).trans hT,rfl,0,rfl⟩ (.cons ⟨tk,rfl⟩ (.cons ru .nil)) (by show 2 <= sizeLine;decide)
   rcases List.mem_cons.mp hb with rfl | hb
   ·exact ⟨_,he2⟩
   ·rw [show b = it by simpa using hb];exact ⟨_,q2⟩
  refine ⟨.ref s.heap.objs.size,upd H s.heap.objs.size (.tup [.int i,x]),J,rfl,⟨_,x,rfl,I.hok.fresh (Nat.le_refl _),rfl,fun ys hy=>by rw [I.tuple_inj hy hq];exact hx⟩,⟨⟨_,by simpa using he2⟩,hit2⟩,fun b hb=>?_⟩
  ·have : b < s.heap.objs.size:=by
    rcases List.mem_cons.mp hb with rfl | hb
    ·exact helt
    ·rw [show b = it by simpa using hb];exact hilt
   rw [upd_ne (Nat.ne_of_lt this)]
   exact (hf b hb).1
 done:=by
  intro X hP hw hK hc i pins s σ H E I hf st hg
  subst hP hw hK
  obtain ⟨xs,hq,hx⟩:=hg
  obtain ⟨its,rv,p,hz⟩:=I.tuple hq
  obtain ⟨⟨old,he⟩,hit⟩:=st
  have ht : s.heap.IsTuple a its.toArray:=p
  have hl:=rv.length
  obtain ⟨f0,f1,f2,f3,f4,f5⟩:=hf it (by simp)
  exact enum_endT (I.ok.hd hc) he hit ht (by simp;omega) fun h' eb=>⟨rfl,I.turned (t':=s.toks) (fun b o hb z=>eb b o hb z) f0 f1 f3 f4 f5⟩
 self:=fun _ _ _ _ _ st h=>by
  obtain ⟨⟨old,he⟩,_⟩:=st
  exact wpAny_pyIter_enum he h
section
variable {X : Cx} {elts : List Expr} {k : Nat} {tpos : Pos}
def iEnT (K : PySem.W.Frag) (ta : TA) : TI:=fun σ H R=>ta σ H fun vs H1=>∃ a,vs = [.ref a]/\(∃ xs,SqT K H1 a xs)/\R (IteT K a) H1
theorem pi_enumT {l : Expr} {ta : TA} {p pos : Pos} (hg : Gl X "enumerate") (hm : X.mg "enumerate" = none) (ha : PA X [l] ta) (hs : starEach [l] X.env = [(false,eval l X.env)]:=by rfl) : PI X (.Tuple elts k tpos) (.Call (.Name "enumerate" p) [l] [] pos) (iEnT X.K ta):=by
 intro pins s σ H R I h
 refine Call_ (ld_blt I hg hm boot_enum (PyProof.Rows.callWith_type1 (thn (ha pos pins s σ H _ I h) fun us s1 ⟨vs,H1,I1,r1,q1⟩=>?_) hs rfl))
 obtain ⟨a,e,⟨xs,hq⟩,q⟩:=q1
 subst e
 cases r1 with
 | cons r rr =>
  cases rr
  cases r
  obtain ⟨its,rv,pp,hz⟩:=I1.tuple hq
  refine call_enumT (s:=s1) (show s1.heap.IsTuple a its.toArray from pp) fun h' he hit kp=>wpAny_pyIter_enum (s:={ s1 with heap:=h' }) he ?_
  refine ⟨s1.heap.objs.size + 1,[s1.heap.objs.size + 1,s1.heap.objs.size],_,_,H1,rfl,I1.kept (t':=s1.toks) kp,turn_enumT a _ _ (by simp),⟨⟨_,he⟩,hit⟩,fun b hb=>?_,q⟩
  have : s1.heap.objs.size <= b:=by
   rcases List.mem_cons.mp hb with rfl | hb
   ·exact Nat.le_succ _
   ·rw [show b = s1.heap.objs.size by simpa using hb];exact Nat.le_refl _
  exact I1.fpOk this (I1.hok.fresh this)
end
section
variable {prog : Program} {w : World} {A : Around} {E : Value->Shared->Prop} {s : Shared}
theorem enum_endL {e it l : Addr} {i : Nat} {items : Array Value} {old : Value} {Q : Option Value->Shared->Prop} (hh : A.handled = none) (he : IsEnum s.heap e it i old) (hit : s.heap.IsListIter it l i) (hl : s.heap.IsList l items) (hx : items[i]? = none)
  (hQ : ∀ h',Heap.ExtBut it s.heap h'->Q none { s with heap:=h' }) : wpAny (model prog w) A (pyNext (.ref e)) Q E s:=wpAny_pyNext_enum_end hh he hit hl hx hQ
theorem new_enumL (l : Addr) (items : Array Value) (o : Obj) (hc : o.cls = .type "list") (n : Nat) (hd : o.data = .seq items n) :
  Meets (Builtin.«enumerate.__new__» ⟨[.type "enumerate",.ref l],[]⟩) (fun _ R s=>s.heap.get? l = some o/\R (.ok (.ret (.ref (s.heap.push { cls:=.type "list_iterator",data:=.fields #[.ref l,.int 0 0] }).objs.size)))
   { s with heap:=(s.heap.push { cls:=.type "list_iterator",data:=.fields #[.ref l,.int 0 0] }).push { cls:=.type "enumerate",data:=.fields #[.none,.bool false,.ref s.heap.objs.size,rawInt 0,.none,.none] } }):=by
 obtain ⟨c,dct,dt,sl⟩:=o
 replace hc : c = .type "list" := hc
 replace hd : dt = .seq items n:=hd
 subst hc hd
 exact .of_wp fun prog w A R s h=>by
  obtain ⟨hp,g,d,tk,os⟩:=s;obtain ⟨hl,h⟩:=h
  have hsub:=sub_enumerate
  have hL : Heap.IsList (Shared.heap ⟨hp,g,d,tk,os⟩) l items:=⟨_,hl,rfl,n,rfl⟩
  wp_walk using wpAny_loadPart' hl
  refine wpAny_stack_any fun st=>wpAny_pure ?_
  split
  ·rename_i c _ _ _ _ _
   cases (c == Value.type "enumerate") <;> (wp_walk using wpAny_loadPart' hl,wpAny_pyIter_list hL;exact ⟨_,rfl,h⟩)
  ·wp_walk using wpAny_loadPart' hl,wpAny_pyIter_list hL;exact ⟨_,rfl,h⟩
theorem call_enumL {l : Addr} {items : Array Value} {Q : Value->Shared->Prop} (hL : s.heap.IsList l items)
  (h : ∀ h',IsEnum h' (s.heap.objs.size + 1) s.heap.objs.size 0 .none->h'.IsListIter s.heap.objs.size l 0->(∀ b o,s.heap.get? b = some o->h'.get? b = some o)->Q (.ref (s.heap.objs.size + 1)) { s with heap:=h' }) :
  wpAny (model prog w) A (call (.type "enumerate") [.ref l]) Q E s:=by
 obtain ⟨o,hl,hc,n,hd⟩:=hL
 refine callType_new F.called_enumerate (by decide) (F.typeCall_enumerate_1 _) (F.newCall_enumerate_1 _) (fun obj=>F.args_object_init_2 obj _) F.entry_enumerate_new (new_enumL l items o hc n hd) ⟨hl,?_⟩
 have hz : (s.heap.push { cls:=.type "list_iterator",data:=.fields #[.ref l,.int 0 0] }).objs.size = s.heap.objs.size + 1:=Heap.size_push ..
 show _/\_
 rw [hz]
 have he : IsEnum ((s.heap.push { cls:=.type "list_iterator",data:=.fields #[.ref l,.int 0 0] }).push { cls:=.type "enumerate",data:=.fields #[.none,.bool false,.ref s.heap.objs.size,rawInt 0,.none,.none] }) (s.heap.objs.size + 1) s.heap.objs.size 0 .none :=
  Heap.get?_push_at hz.symm rfl
 exact ⟨⟨_,he,rfl⟩,h _ he ⟨_,Heap.get?_push_of_some _ (Heap.get?_push_size _ rfl),rfl,rfl⟩ fun b o x=>Heap.get?_push_of_some _ (Heap.get?_push_of_some _ x)⟩
end
def IteL (K : PySem.W.Frag) (a : Addr) : It :=
 ⟨fun i H=>∃ xs x,SqL K H a xs/\xs[i]? = some x,fun i H v H'=>∃ T x,v = .ref T/\H T = none/\H' = upd H T (.tup [.int i,x])/\∀ xs,SqL K H a xs->xs[i]? = some x,fun i H=>∃ xs,SqL K H a xs/\xs.length <= i⟩
theorem turn_enumL {P : Program} {w : World} {K : PySem.W.Frag} {elts : List Expr} {k} {pos : Pos} (a e it : Addr) (hne : e ≠ it) : Turn P w K (.Tuple elts k pos) (IteL K a) [e,it] e (fun i h=>(∃ old,IsEnum h e it i old)/\h.IsListIter it a i) where
 mem:=by simp
 obj:=fun i h st b hb=>by
  obtain ⟨⟨old,he⟩,o,ho,hc,hd⟩:=st
  rcases List.mem_cons.mp hb with rfl | hb
  ·exact ⟨_,he,fun v z=>by cases z⟩
  ·rw [show b = it by simpa using hb]
   exact ⟨o,ho,fun v z=>by rw [hd] at z;cases z⟩
 keep:=fun i h h' st kk=>by
  obtain ⟨⟨old,he⟩,hit⟩:=st
  exact ⟨⟨old,kk e (by simp) _ he⟩,hit.at fun o z=>kk it (by simp) o z⟩
 item:=by
  intro X hP hw hK hc i pins s σ H E I hf st hg
  subst hP hw hK
  obtain ⟨xs,x,hq,hx⟩:=hg
  obtain ⟨its,rv,p,hz⟩:=I.list hq
  obtain ⟨u,hu,ru⟩:=rv.get hx
  obtain ⟨⟨old,he⟩,hit⟩:=st
  have ht : s.heap.IsList a its.toArray:=p.isList
  have hi : i < its.toArray.size:=by rw [List.size_toArray];exact (List.getElem?_eq_some_iff.mp hu).1
  have nai : a ≠ it:=fun z=>by
   obtain ⟨o1,q1,c1,_⟩:=ht
   obtain ⟨o2,q2,c2,_⟩:=hit
   rw [z,q2] at q1;cases q1;rw [c2] at c1;exact absurd c1 (by decide)
  have nae : e ≠ a:=fun z=>by
   obtain ⟨o1,q1,c1,_⟩:=ht
   rw [<- z,he] at q1;cases q1;exact absurd (show Value.type "enumerate" = .type "list" from c1) (by decide)
  have D:=Draws.list (prog:=X.prog) (w:=X.w) (A:=X.A.in1) (I.ok.hd hc) it a nai its.toArray
  refine wpAny_pyNext_enum_itemD D he ⟨hit,ht⟩ hi hne (by simp [hne,nae]) fun v h' tk hv ho hst hT hsz hk=>?_
  have hv' : its[i]? = some v:=by simpa using hv
  rw [hu] at hv'
  cases hv'
  refine ⟨_,rfl,wpAny_letOwnedTupleGo_enum (s:={ s with heap:=h',toks:=tk + 1 }) ho fun h2 he2 sb=>?_⟩
  have helt : e < s.heap.objs.size:=Heap.lt_size he
  have hilt : it < s.heap.objs.size:=by obtain ⟨_,z,_⟩:=hit;exact Heap.lt_size z
  have nT : s.heap.objs.size ≠ e:=Nat.ne_of_gt helt
  have hit2 : h2.IsListIter it a (i + 1):=hst.1.at fun o z=>(sb.2 it (Ne.symm hne)).trans z
  obtain ⟨o2,q2,_⟩:=id hit2
  have J : Inv X pins σ (upd H s.heap.objs.size (.tup [.int i,x])) { s with heap:=h2,toks:=tk + 1 }:=by
   refine I.turnedNew (fp:=[e,it]) (its:=[.int i tk,u]) hf (fun b o hb z=>(sb.2 b (fun y=>hb (by simp [y]))).trans (hk b o (fun y=>hb (by simp [y])) (fun y=>hb (by simp [y])) z)) (fun b hb=>?_) (Nat.le_refl _) ⟨_,(sb.2 _ nT).trans hT,rfl,0,rfl⟩ (.cons ⟨tk,rfl⟩ (.cons ru .nil)) (by show 2 <= sizeLine;decide)
   rcases List.mem_cons.mp hb with rfl | hb
   ·exact ⟨_,he2⟩
   ·rw [show b = it by simpa using hb];exact ⟨_,q2⟩
  refine ⟨.ref s.heap.objs.size,upd H s.heap.objs.size (.tup [.int i,x]),J,rfl,⟨_,x,rfl,I.hok.fresh (Nat.le_refl _),rfl,fun ys hy=>by rw [I.list_inj hy hq];exact hx⟩,⟨⟨_,by simpa using he2⟩,hit2⟩,fun b hb=>?_⟩
  ·have : b < s.heap.objs.size:=by
    rcases List.mem_cons.mp hb with rfl | hb
    ·exact helt
    ·rw [show b = it by simpa using hb];exact hilt
   rw [upd_ne (Nat.ne_of_lt this)]
   exact (hf b hb).1
 done:=by
  intro X hP hw hK hc i pins s σ H E I hf st hg
  subst hP hw hK
  obtain ⟨xs,hq,hx⟩:=hg
  obtain ⟨its,rv,p,hz⟩:=I.list hq
  obtain ⟨⟨old,he⟩,hit⟩:=st
  have ht : s.heap.IsList a its.toArray:=p.isList
  have hl:=rv.length
  obtain ⟨f0,f1,f2,f3,f4,f5⟩:=hf it (by simp)
  exact enum_endL (I.ok.hd hc) he hit ht (by simp;omega) fun h' eb=>⟨rfl,I.turned (t':=s.toks) (fun b o hb z=>eb b o hb z) f0 f1 f3 f4 f5⟩
 self:=fun _ _ _ _ _ st h=>by
  obtain ⟨⟨old,he⟩,_⟩:=st
  exact wpAny_pyIter_enum he h
section
variable {X : Cx} {elts : List Expr} {k : Nat} {tpos : Pos}
def iEnL (K : PySem.W.Frag) (ta : TA) : TI:=fun σ H R=>ta σ H fun vs H1=>∃ a,vs = [.ref a]/\(∃ xs,SqL K H1 a xs)/\R (IteL K a) H1
theorem pi_enumL {l : Expr} {ta : TA} {p pos : Pos} (hg : Gl X "enumerate") (hm : X.mg "enumerate" = none) (ha : PA X [l] ta) (hs : starEach [l] X.env = [(false,eval l X.env)]:=by rfl) : PI X (.Tuple elts k tpos) (.Call (.Name "enumerate" p) [l] [] pos) (iEnL X.K ta):=by
 intro pins s σ H R I h
 refine Call_ (ld_blt I hg hm boot_enum (PyProof.Rows.callWith_type1 (thn (ha pos pins s σ H _ I h) fun us s1 ⟨vs,H1,I1,r1,q1⟩=>?_) hs rfl))
 obtain ⟨a,e,⟨xs,hq⟩,q⟩:=q1
 subst e
 cases r1 with
 | cons r rr =>
  cases rr
  cases r
  obtain ⟨its,rv,pp,hz⟩:=I1.list hq
  refine call_enumL (s:=s1) (show s1.heap.IsList a its.toArray from pp.isList) fun h' he hit kp=>wpAny_pyIter_enum (s:={ s1 with heap:=h' }) he ?_
  refine ⟨s1.heap.objs.size + 1,[s1.heap.objs.size + 1,s1.heap.objs.size],_,_,H1,rfl,I1.kept (t':=s1.toks) kp,turn_enumL a _ _ (by simp),⟨⟨_,he⟩,hit⟩,fun b hb=>?_,q⟩
  have : s1.heap.objs.size <= b:=by
   rcases List.mem_cons.mp hb with rfl | hb
   ·exact Nat.le_succ _
   ·rw [show b = s1.heap.objs.size by simpa using hb];exact Nat.le_refl _
  exact I1.fpOk this (I1.hok.fresh this)
end
theorem for_enumT {K : PySem.W.Frag} {a : Addr} {xs : List V} {g : TG} {tb : TS} {D : Ends} {σ : St} {H : Hp} (Pv : Nat->St->Hp->Prop) (h0 : Pv 0 σ H) (hl : ∀ i σ H,i <= xs.length->Pv i σ H->SqT K H a xs)
  (hs : ∀ i x T σ H,xs[i]? = some x->Pv i σ H->H T = none->g (.ref T) σ (upd H T (.tup [.int i,x])) fun σ2 H2=>tb { D with nx:=Pv (i + 1),ct:=Pv (i + 1),bk:=D.nx } σ2 H2) (hd : ∀ σ H,Pv xs.length σ H->D.nx σ H) :
  ∃ W : Nat->Nat->St->Hp->Prop,(∃ m,W 0 m σ H)/\∀ i m σ H,W i m σ H ->
   ((IteT K a).stop i H/\D.nx σ H)\/((IteT K a).go i H/\∃ N : St->Hp->Prop,(∀ σ' H',N σ' H'->∃ m',m' < m/\W (i + 1) m' σ' H')/\∀ x H',(IteT K a).yld i H x H'->g x σ H' fun σ2 H2=>tb { D with nx:=N,ct:=N,bk:=D.nx } σ2 H2):=by
 refine ⟨fun i m σ H=>m = xs.length - i/\i <= xs.length/\Pv i σ H,⟨xs.length,by simp,Nat.zero_le _,h0⟩,?_⟩
 rintro i m σ H ⟨rfl,hi,p⟩
 have q:=hl i σ H hi p
 by_cases hlt : i < xs.length
 ·refine .inr ⟨⟨xs,xs[i],q,by simp [hlt]⟩,Pv (i + 1),fun σ' H' p'=>⟨xs.length - (i + 1),by omega,rfl,hlt,p'⟩,fun v H' y=>?_⟩
  obtain ⟨T,x,rfl,hT,rfl,y⟩:=y
  exact hs i x T σ H (y xs q) p hT
 ·have e : i = xs.length:=by omega
  subst e
  exact .inl ⟨⟨xs,q,Nat.le_refl _⟩,hd σ H p⟩
theorem for_enumL {K : PySem.W.Frag} {a : Addr} {xs : List V} {g : TG} {tb : TS} {D : Ends} {σ : St} {H : Hp} (Pv : Nat->St->Hp->Prop) (h0 : Pv 0 σ H) (hl : ∀ i σ H,i <= xs.length->Pv i σ H->SqL K H a xs)
  (hs : ∀ i x T σ H,xs[i]? = some x->Pv i σ H->H T = none->g (.ref T) σ (upd H T (.tup [.int i,x])) fun σ2 H2=>tb { D with nx:=Pv (i + 1),ct:=Pv (i + 1),bk:=D.nx } σ2 H2) (hd : ∀ σ H,Pv xs.length σ H->D.nx σ H) :
  ∃ W : Nat->Nat->St->Hp->Prop,(∃ m,W 0 m σ H)/\∀ i m σ H,W i m σ H ->
   ((IteL K a).stop i H/\D.nx σ H)\/((IteL K a).go i H/\∃ N : St->Hp->Prop,(∀ σ' H',N σ' H'->∃ m',m' < m/\W (i + 1) m' σ' H')/\∀ x H',(IteL K a).yld i H x H'->g x σ H' fun σ2 H2=>tb { D with nx:=N,ct:=N,bk:=D.nx } σ2 H2):=by
 refine ⟨fun i m σ H=>m = xs.length - i/\i <= xs.length/\Pv i σ H,⟨xs.length,by simp,Nat.zero_le _,h0⟩,?_⟩
 rintro i m σ H ⟨rfl,hi,p⟩
 have q:=hl i σ H hi p
 by_cases hlt : i < xs.length
 ·refine .inr ⟨⟨xs,xs[i],q,by simp [hlt]⟩,Pv (i + 1),fun σ' H' p'=>⟨xs.length - (i + 1),by omega,rfl,hlt,p'⟩,fun v H' y=>?_⟩
  obtain ⟨T,x,rfl,hT,rfl,y⟩:=y
  exact hs i x T σ H (y xs q) p hT
 ·have e : i = xs.length:=by omega
  subst e
  exact .inl ⟨⟨xs,q,Nat.le_refl _⟩,hd σ H p⟩
end L2
end

section
set_option Elab.async false
set_option linter.all false
set_option maxRecDepth 100000
namespace L2
open PySem PySem.Spec PyProof.Rows PySem.W
theorem PS.nox {X : Cx} {st : Stmt} {t : TS} (h : PS X.nox st t) : PS X st t:=fun pins s σ H D I hw =>
 wpAny_mono (h pins s σ H D (I.wish _) hw) (fun _ _ q=>q.unwish) fun _ _ z=>False.elim z
theorem boot_tVE : bootBuiltins ("ValueError" : Str) = some (.type "ValueError"):=by decide +kernel
def inCls (st : Stmt) (j : Nat) : Stmt:=match st with
 | .ClassDef _ _ _ body _ _ _ _ _ _ _=>body.getD j (.Pass ⟨0,0,0,0⟩)
 | _=>.Pass ⟨0,0,0,0⟩
def spIni (C : Addr) (f : Str) : Sp:=fun vs H Q _=>∃ (e : Addr) (v : V) (x : Str),vs = [.ref e,v]/\fmtV v = some x/\x.length <= 1000/\H e = some (excN e C none)/\∀ d,H d = none->Q .non (upd (upd H d (.xd [(f,v)])) e (excN e C (some d)))
structure IniIn (P : Program) (K : Frag) (mg : Str->Option Value) (qual : Str) (st : Stmt) (C f cc cda : Addr) (fd : FuncData) : Prop where
 fn : ∃ (oc : Value) (od : Option Addr) (kV doc pm : Value) (an : Option Addr) (ct : Value) (osl : Array (Option Value)),fd = ksFn "__init__" qual (defArgs st) (defBody st) (defScope st) .none kV doc pm an (.ref cda) ct cc/\K.lookup f = some ⟨oc,od,.func fd,osl⟩
 code : PySem.W.codeIn K (.ref cda) qual = true
 file : ∃ (ccl : Value) (cdd : Option Addr) (vs : Array Value) (ccs : Array (Option Value)) (x : Str) (tf : Tok),K.lookup cda = some ⟨ccl,cdd,.fields vs,ccs⟩/\(vs[2]? : Option Value) = some (.str x tf)/\((P.main.file : Str) == x) = true
 cell : ∃ (cl : Value) (cld : Option Addr) (csl : Array (Option Value)),K.lookup cc = some ⟨cl,cld,.cell (some (.ref C)),csl⟩
 sup : mg "super" = none
 top : (P.main.scope.names.lookup ("super" : Str)).isSome = false
 all : excAll K C = true
theorem excO_inj {e C C' : Addr} {d d' : Option Addr} (h : excO e C d = excO e C' d') : C = C'/\d = d':=by
 have h1 : (fun h : Heap=>∃ vs,h.get? e = some (excObj C d vs)) = (fun h : Heap=>∃ vs,h.get? e = some (excObj C' d' vs)):=HO.ext.inj h
 have get : ({ objs:=Array.replicate (e + 1) (excObj C d #[]) } : Heap).get? e = some (excObj C d #[]):=by
  unfold Heap.get?
  rw [show ({ objs:=Array.replicate (e + 1) (excObj C d #[]) } : Heap).objs[e]? = some (excObj C d #[]) by simp]
  rfl
 have h2 : ∃ vs,({ objs:=Array.replicate (e + 1) (excObj C d #[]) } : Heap).get? e = some (excObj C' d' vs):=by
  have h3:=congrFun h1 ({ objs:=Array.replicate (e + 1) (excObj C d #[]) } : Heap)
  exact h3 ▸ ⟨#[],get⟩
 obtain ⟨vs,z⟩:=h2
 rw [get] at z
 have z':=Option.some.inj z
 injection z' with a b
 injection a with a
 exact ⟨a,b⟩
end L2
end

section
set_option Elab.async false
set_option linter.all false
set_option maxRecDepth 100000
set_option maxHeartbeats 1000000
namespace K02
open PySem L2 PyProof.Rows
def top (i : Nat) : Stmt:=PySem.Challenge.pw_cardlanes_k02_plans_told.main.body.getD i (.Pass ⟨0,0,0,0⟩)
abbrev s_is_name : Stmt:=top 13
abbrev s_is_plan : Stmt:=top 14
abbrev s_are_lanes : Stmt:=top 18
abbrev s_are_kinds : Stmt:=top 19
abbrev s_is_lane : Stmt:=top 20
abbrev s_is_kind : Stmt:=top 21
abbrev s_is_way : Stmt:=top 22
abbrev s_are_bounds : Stmt:=top 23
abbrev s_is_bound : Stmt:=top 24
abbrev s_is_whole : Stmt:=top 25
abbrev s_is_tuple : Stmt:=top 26
abbrev s_unlike : Stmt:=top 27
abbrev az : Str := "abcdefghijklmnopqrstuvwxyz"
def inL (x : Str) : Bool := !(Builtin.Str.occurrences az x 0 az.length 1).isEmpty
def sgn (x : Str) : List Str:=x.cps.toList.map fun c=>⟨#[c]⟩
def nm (x : Str) : Bool:=if ("out" : Str) == x || ("yard" : Str) == x then false else decide ((1 : Int) <= (x.length : Int)) && (decide ((x.length : Int) <= 8) && (sgn x).all inL)
def nmD : PyData->Bool
 | .str x=>nm x
 | _=>false
def wholeD : PyData->Bool
 | .int _=>true
 | _=>false
def boundD : PyData->Bool
 | .int i=>decide (1 <= i) && decide (i <= 99)
 | _=>false
def tupD (d : PyData) (lo hi : Int) : Bool:=match d with
 | .tuple ds=>decide (lo <= (ds.length : Int)) && decide ((ds.length : Int) <= hi)
 | _=>false
def laneD : PyData->Bool
 | .tuple [n,b]=>nmD n && boundD b
 | _=>false
def wayOk (cnt : Int) : Int->List PyData->Bool
 | _,[]=>true
 | a,.int i :: r=>(decide (a < i) && decide (i < cnt)) && wayOk cnt i r
 | _,_ :: _=>false
def lenD : PyData->Int
 | .tuple ds=>ds.length
 | _=>0
def wayD (d : PyData) (cnt : Int) : Bool:=match d with
 | .tuple ds=>tupD d 1 cnt && wayOk cnt (-1) ds
 | _=>false
def boundsD (d : PyData) (many : Int) : Bool:=match d with
 | .tuple ds=>tupD d many many && ds.all boundD
 | _=>false
def kindD (cnt : Int) : PyData->Bool
 | .tuple [n,wy,bs]=>nmD n && (wayD wy cnt && boundsD bs (lenD wy))
 | _=>false
def firstD : PyData->Str
 | .tuple (.str x :: _)=>x
 | _=>""
def unlikeD (ds : List PyData) : Bool:=decide ((ds.map firstD).Nodup)
def lanesD (d : PyData) : Bool:=match d with
 | .tuple ds=>tupD d 1 6 && (ds.all laneD && unlikeD ds)
 | _=>false
def kindsD (d : PyData) (cnt : Int) : Bool:=match d with
 | .tuple ds=>tupD d 1 6 && (ds.all (kindD cnt) && unlikeD ds)
 | _=>false
def planD : PyData->Bool
 | .tuple [l,k]=>lanesD l && kindsD k (lenD l)
 | _=>false
mutual
def smallD : PyData->Bool
 | .str x=>decide (x.length <= 1000)
 | .tuple ds=>smallDs ds
 | .list ds=>smallDs ds
 | _=>true
def smallDs : List PyData->Bool
 | []=>true
 | d :: ds=>smallD d && smallDs ds
end
theorem smallDs_mem {d : PyData} : ∀ {ds : List PyData},smallDs ds = true->d ∈ ds->smallD d = true
 | [],_,h=>by simp at h
 | e :: ds,h,m=>by
  have h' : (smallD e && smallDs ds) = true:=h
  rw [Bool.and_eq_true] at h'
  rcases List.mem_cons.mp m with rfl | m
  ·exact h'.1
  ·exact smallDs_mem h'.2 m
def sp1 (ts : List Addr) (f : PyData->Bool) : Sp:=fun vs H Q _=>∃ (d : PyData) (v : V),vs = [v]/\IsD [] H d v/\smallD d = true/\Tb ts H/\∀ H',Ext [] H H'->Q (.bl (f d)) H'
def sp2 (ts : List Addr) (f : PyData->Int->Bool) : Sp:=fun vs H Q _=>∃ (d : PyData) (v : V) (n : Int),vs = [v,.int n]/\IsD [] H d v/\smallD d = true/\Tb ts H/\∀ H',Ext [] H H'->Q (.bl (f d n)) H'
def spTup : Sp:=fun vs H Q _=>∃ (d : PyData) (v : V) (lo hi : Int),vs = [v,.int lo,.int hi]/\IsD [] H d v/\Q (.bl (tupD d lo hi)) H
def spUn : Sp:=fun vs H Q _=>∃ (ds : List PyData) (v : V),vs = [v]/\IsD [] H (.tuple ds) v/\ds.length <= 100/\(∀ d ∈ ds,∃ x r,d = .tuple (.str x :: r))/\Q (.bl (unlikeD ds)) H
structure Txt (K : PySem.W.Frag) (mg : Str->Option Value) : Prop where
 b_len : mg "len" = none
 b_all : mg "all" = none
 b_isinstance : mg "isinstance" = none
 b_str : mg "str" = none
 b_bool : mg "bool" = none
 b_int : mg "int" = none
 b_tuple : mg "tuple" = none
 b_list : mg "list" = none
 b_range : mg "range" = none
 b_min : mg "min" = none
 g_LETTERS : ∃ u,mg "LETTERS" = some u/\RelV (.str az) u
 g_LONGEST_NAME : ∃ u,mg "LONGEST_NAME" = some u/\RelV (.int 8) u
 g_GREATEST_BOUND : ∃ u,mg "GREATEST_BOUND" = some u/\RelV (.int 99) u
 g_MOST_LANES : ∃ u,mg "MOST_LANES" = some u/\RelV (.int 6) u
 g_MOST_KINDS : ∃ u,mg "MOST_KINDS" = some u/\RelV (.int 6) u
structure Out (K : PySem.W.Frag) (mg : Str->Option Value) (a : Addr) : Prop where
 g : ∃ u,mg "OUTSIDE" = some u/\RelV (.ref a) u
 sq : ∀ H,SqT K H a [.str "out",.str "yard"]
section
variable {P : Program} {w : World} {K : PySem.W.Frag} {mg : Str->Option Value} {base : Heap} {ts : List Addr}
theorem sc_is_whole : FnScope ["thing"] ["thing"] (defScope s_is_whole):=⟨rfl,rfl,rfl,by decide +kernel,rfl,by decide +kernel,by decide +kernel⟩
theorem ok_whole {f : Addr} {fd : FuncData} (F : Fun K "is_whole" "is_whole" s_is_whole f fd) (T : Txt K mg) : FnOk P w K mg base CX0 1 f fd ["thing"] (sp1 ts wholeD):=by
 refine F.ok sc_is_whole (fun vs H Q E h=>?_) (fun cdv A outer s H vs Q E hr h=>?_)
 ·obtain ⟨d,v,rfl,_⟩:=h
  rfl
 obtain ⟨d,v,rfl,hd,_,_,q⟩:=h
 refine' ⟨_,?hh,?rr⟩
 case hh=>(refine' pss_one ?hk;(case hk=>refine' ps_ret ?hj;(case hj=>refine' pe_and ?hh ?hi;(case hh=>refine' pe_callB call_isi rfl T.b_isinstance boot_isi ?hc;(case hc=>refine' pa_c (pv 0) ?hb;(case hb=>refine' pa_c (pe_bltn (v:=.ty "int") rfl T.b_int boot_tint rfl) pa_nil)));(case hi=>refine' pe_one ?hg;(case hg=>refine' pe_not ?hf;(case hf=>refine' pe_callB call_isi rfl T.b_isinstance boot_isi ?he;(case he=>refine' pa_c (pv 0) ?hd;(case hd=>refine' pa_c (pe_bltn (v:=.ty "bool") rfl T.b_bool boot_tbool rfl) pa_nil))))))))
 refine ⟨_,rfl,_,_,_,_,rfl,hd.ty,kit_int d,_,rfl,?_⟩
 have q':=q H Ext.refl
 cases d with
 | none=>exact iteF q'
 | str x=>exact iteF q'
 | tuple x=>exact iteF q'
 | list x=>exact iteF q'
 | dict x=>exact iteF q'
 | bool b=>exact iteT ⟨_,rfl,_,_,_,_,rfl,hd.ty,kit_bool _,_,rfl,q'⟩
 | int i=>exact iteT ⟨_,rfl,_,_,_,_,rfl,hd.ty,kit_bool _,_,rfl,q'⟩
theorem sc_is_tuple : FnScope ["thing","least","most"] ["thing","least","most"] (defScope s_is_tuple):=⟨rfl,rfl,rfl,by decide +kernel,rfl,by decide +kernel,by decide +kernel⟩
theorem ok_tuple {f : Addr} {fd : FuncData} (F : Fun K "is_tuple" "is_tuple" s_is_tuple f fd) (T : Txt K mg) : FnOk P w K mg base CX0 1 f fd ["thing","least","most"] spTup:=by
 refine F.ok sc_is_tuple (fun vs H Q E h=>?_) (fun cdv A outer s H vs Q E hr h=>?_)
 ·obtain ⟨d,v,lo,hi,rfl,_⟩:=h
  rfl
 obtain ⟨d,v,lo,hi,rfl,hd,q⟩:=h
 refine' ⟨_,?hh,?rr⟩
 case hh=>(refine' pss_one ?hj;(case hj=>refine' ps_ret ?hi;(case hi=>refine' pe_and ?hg ?hh;(case hg=>refine' pe_callB call_isi rfl T.b_isinstance boot_isi ?hc;(case hc=>refine' pa_c (pv 0) ?hb;(case hb=>refine' pa_c (pe_bltn (v:=.ty "tuple") rfl T.b_tuple boot_ttuple rfl) pa_nil)));(case hh=>refine' pe_one ?hf;(case hf=>refine' pe_chain op_le op_le (pv 1) ?he (pv 2);(case he=>refine' pe_callB call_len_seq rfl T.b_len PySem.boot_len ?hd;(case hd=>refine' pa_c (pv 0) pa_nil)))))))
 refine ⟨_,rfl,_,_,_,_,rfl,hd.ty,kit_tuple d,_,rfl,?_⟩
 cases d with
 | none=>exact iteF q
 | str x=>exact iteF q
 | int x=>exact iteF q
 | bool x=>exact iteF q
 | list x=>exact iteF q
 | dict x=>exact iteF q
 | tuple ds =>
  refine iteT ?_
  obtain ⟨a,us,rfl,_,ha,hds⟩:=hd
  have el:=hds.length
  have q' : ∀ b,tupD (.tuple ds) lo hi = b->Q (.bl b) H:=fun b e=>by rw [<- e];exact q
  refine ⟨_,rfl,_,rfl,a,_,rfl,.inr (SqT.of ha),_,_,rfl,rfl,_,rfl,?_⟩
  rw [el]
  refine ite2 (fun c=>?_) (fun c=>?_)
  ·refine ⟨_,rfl,_,_,rfl,rfl,?_⟩
   refine q' _ ?_
   show (decide _ && decide _) = _
   rw [c,Bool.true_and]
  ·refine q' _ ?_
   show (decide _ && decide _) = _
   rw [Bool.eq_false_iff.mpr c,Bool.false_and]
theorem sc_is_bound : FnScope ["thing"] ["thing"] (defScope s_is_bound):=⟨rfl,rfl,rfl,by decide +kernel,rfl,by decide +kernel,by decide +kernel⟩
theorem ok_bound {f : Addr} {fd : FuncData} (F : Fun K "is_bound" "is_bound" s_is_bound f fd) (T : Txt K mg) (C_is_whole : CallOk P w K mg base "is_whole" 1 ["thing"] (sp1 ts wholeD)) : FnOk P w K mg base CX0 2 f fd ["thing"] (sp1 ts boundD):=by
 refine F.ok sc_is_bound (fun vs H Q E h=>?_) (fun cdv A outer s H vs Q E hr h=>?_)
 ·obtain ⟨d,v,rfl,_⟩:=h
  rfl
 obtain ⟨d,v,rfl,hd,hs,tb,q⟩:=h
 refine' ⟨_,?hh,?rr⟩
 case hh=>(refine' pss_one ?hh;(case hh=>refine' ps_ret ?hg;(case hg=>refine' pe_and ?he ?hf;(case he=>refine' pe_cl C_is_whole hr ?hb rfl ?hc;(case hb=>refine' pa_c (pv 0) pa_nil);(case hc=>decide));(case hf=>refine' pe_one ?hd;(case hd=>refine' pe_chain op_le op_le pe_int (pv 0) (pe_gl T.g_GREATEST_BOUND))))))
 refine ⟨_,rfl,d,v,rfl,hd,hs,tb,fun H1 e1=>⟨_,rfl,?_⟩⟩
 have q' : ∀ b,boundD d = b->Q (.bl b) H1:=fun b e=>by rw [<- e];exact q H1 e1
 cases d with
 | none=>exact iteF (q' _ rfl)
 | str x=>exact iteF (q' _ rfl)
 | tuple x=>exact iteF (q' _ rfl)
 | list x=>exact iteF (q' _ rfl)
 | dict x=>exact iteF (q' _ rfl)
 | bool b=>exact iteF (q' _ rfl)
 | int i =>
  refine iteT ?_
  obtain rfl : v = .int i:=hd
  refine ⟨_,rfl,_,_,rfl,rfl,_,rfl,?_⟩
  refine ite2 (fun c=>?_) (fun c=>?_)
  ·refine ⟨_,_,rfl,rfl,q' _ ?_⟩
   show (decide _ && decide _) = _
   rw [c,Bool.true_and]
  ·refine q' _ ?_
   show (decide _ && decide _) = _
   rw [Bool.eq_false_iff.mpr c,Bool.false_and]
theorem sc_is_lane : FnScope ["thing"] ["thing"] (defScope s_is_lane):=⟨rfl,rfl,rfl,by decide +kernel,rfl,by decide +kernel,by decide +kernel⟩
theorem ok_lane {f : Addr} {fd : FuncData} (F : Fun K "is_lane" "is_lane" s_is_lane f fd) (C_is_tuple : CallOk P w K mg base "is_tuple" 1 ["thing","least","most"] spTup) (C_is_name : CallOk P w K mg base "is_name" 2 ["thing"] (sp1 ts nmD)) (C_is_bound : CallOk P w K mg base "is_bound" 2 ["thing"] (sp1 ts boundD)) :
  FnOk P w K mg base CX0 3 f fd ["thing"] (sp1 ts laneD):=by
 refine F.ok sc_is_lane (fun vs H Q E h=>?_) (fun cdv A outer s H vs Q E hr h=>?_)
 ·obtain ⟨d,v,rfl,_⟩:=h
  rfl
 obtain ⟨d,v,rfl,hd,hs,tb,q⟩:=h
 refine' ⟨_,?hh,?rr⟩
 case hh=>(refine' pss_one ?hr;(case hr=>refine' ps_ret ?hq;(case hq=>refine' pe_and ?ho ?hp;(case ho=>refine' pe_cl C_is_tuple hr ?hd rfl ?he;(case hd=>refine' pa_c (pv 0) ?hc;(case hc=>refine' pa_c pe_int ?hb;(case hb=>refine' pa_c pe_int pa_nil)));(case he=>decide));(case hp=>refine' pe_and ?hm ?hn;(case hm=>refine' pe_cl C_is_name hr ?hg rfl ?hh;(case hg=>refine' pa_c ?hf pa_nil;(case hf=>refine' pe_ix ix_tup (pv 0) pe_int (fun _ _=>rfl)));(case hh=>decide));(case hn=>refine' pe_one ?hl;(case hl=>refine' pe_cl C_is_bound hr ?hj rfl ?hk;(case hj=>refine' pa_c ?hi pa_nil;(case hi=>refine' pe_ix ix_tup (pv 0) pe_int (fun _ _=>rfl)));(case hk=>decide)))))))
 refine ⟨_,rfl,d,v,2,2,rfl,hd,_,rfl,?_⟩
 have q' : ∀ b H1,laneD d = b->Ext [] H H1->Q (.bl b) H1:=fun b H1 e e1=>by rw [<- e];exact q H1 e1
 refine ite2 (fun c=>?_) (fun c=>?_)
 ·obtain ⟨n,b,rfl⟩ : ∃ n b,d = .tuple [n,b]:=by
   cases d with
   | tuple ds =>
    have c' : (decide ((2 : Int) <= (ds.length : Int)) && decide ((ds.length : Int) <= 2)) = true:=c
    rw [Bool.and_eq_true,decide_eq_true_eq,decide_eq_true_eq] at c'
    match ds,c' with
    | [n,b],_=>exact ⟨n,b,rfl⟩
    | [],c'=>simp at c'
    | [_],c'=>simp at c'
    | _ :: _ :: _ :: r,c'=>simp at c';omega
   | _=>cases c
  obtain ⟨a,us,rfl,_,ha,v1,r1,rfl,d1,v2,r2,rfl,d2,rfl⟩:=hd
  have s1 : smallD n = true:=smallDs_mem hs (by simp)
  have s2 : smallD b = true:=smallDs_mem hs (by simp)
  refine ⟨_,rfl,a,_,_,_,rfl,rfl,SqT.of ha,rfl,n,v1,rfl,d1,s1,tb,fun H1 e1=>⟨_,rfl,?_⟩⟩
  refine ite2 (fun c2=>?_) (fun c2=>?_)
  ·refine ⟨_,rfl,a,_,_,_,rfl,rfl,SqT.of (e1.tup (by simp) ha),rfl,b,v2,rfl,IsD.ext e1 d2,s2,e1.tb tb (by simp),fun H2 e2=>?_⟩
   refine q' _ H2 ?_ (e1.trans e2)
   show (nmD n && boundD b) = _
   rw [c2,Bool.true_and]
  ·refine q' _ H1 ?_ e1
   show (nmD n && boundD b) = _
   rw [Bool.eq_false_iff.mpr c2,Bool.false_and]
 ·refine q' _ H ?_ Ext.refl
  cases d with
  | tuple ds =>
   have c' : ¬ (decide ((2 : Int) <= (ds.length : Int)) && decide ((ds.length : Int) <= 2)) = true:=c
   match ds,c' with
   | [n,b],c'=>exact absurd rfl c'
   | [],_=>rfl
   | [_],_=>rfl
   | _ :: _ :: _ :: _,_=>rfl
  | _=>rfl
end
end K02
end

section
set_option Elab.async false
set_option linter.all false
set_option maxRecDepth 100000
set_option maxHeartbeats 1000000
namespace K02
open PySem L2 PyProof.Rows
theorem sgV_sgn (x : Str) : sgV x = (sgn x).map V.str:=by
 unfold sgV sgn
 rw [List.map_map]
 rfl
theorem sgn_at {x : Str} {i : Nat} {y : V} (h : (sgV x)[i]? = some y) : ∃ s,(sgn x)[i]? = some s/\y = .str s:=by
 rw [sgV_sgn,List.getElem?_map] at h
 cases e : (sgn x)[i]? with
 | none=>rw [e] at h;cases h
 | some s=>rw [e] at h;exact ⟨s,rfl,(Option.some.inj h).symm⟩
theorem take_all {α : Type} {xs : List α} {p : α->Bool} {i : Nat} {s : α} (h : xs[i]? = some s) : (xs.take (i + 1)).all p = ((xs.take i).all p && p s):=by
 rw [List.take_add_one,h,List.all_append]
 simp
theorem not_all {α : Type} {xs : List α} {p : α->Bool} {i : Nat} {s : α} (h : xs[i]? = some s) (n : p s = false) : xs.all p = false:=by
 rw [<- Bool.not_eq_true,List.all_eq_true]
 intro z
 rw [z s (List.mem_of_getElem? h)] at n
 cases n
theorem sgn_len (x : Str) : (sgV x).length = (sgn x).length:=by rw [sgV_sgn,List.length_map]
section
variable {P : Program} {w : World} {K : PySem.W.Frag} {mg : Str->Option Value} {base : Heap} {ts : List Addr}
theorem sc_is_name : FnScope ["thing"] ["thing"] (defScope s_is_name):=⟨rfl,rfl,rfl,by decide +kernel,rfl,by decide +kernel,by decide +kernel⟩
theorem ok_name {f c0 tP a : Addr} {fd : FuncData} (F : FunC K "is_name" "is_name" s_is_name f fd c0) (T : Txt K mg) (O : Out K mg a) (hcd : PySem.W.CodeHd base c0 tP) (hbm : BltMod mg base) (hts : tP ∈ ts) : FnOk P w K mg base CX0 2 f fd ["thing"] (sp1 ts nmD):=by
 refine F.ok sc_is_name (fun vs H Q E h=>?_) (fun A outer s H vs Q E hr h=>?_)
 ·obtain ⟨d,v,rfl,_⟩:=h
  rfl
 obtain ⟨d,v,rfl,hd,hz,tb,q⟩:=h
 refine' ⟨_,?hh,?rr⟩
 case hh=>(refine' pss_cons ?hE ?hF;(case hE=>refine' ps_if ?hl ?hm pss_nil;(case hl=>refine' PW.pt ?hj;(case hj=>refine' pw_or ?hh ?hi;(case hh=>refine' pt_not ?he;(case he=>refine' pt_val ?hd;(case hd=>refine' pe_callB call_isi rfl T.b_isinstance boot_isi ?hc;(case hc=>refine' pa_c (pv 0) ?hb;(case hb=>refine' pa_c (pe_bltn (v:=.ty "str") rfl T.b_str boot_tstr rfl) pa_nil)))));(case hi=>refine' pw_or1 ?hg;(case hg=>refine' pt_cmpR op_in_seq (pv 0) (pe_gl O.g) ?hf;(case hf=>with_unfolding_all rfl)))));(case hm=>refine' pss_one ?hk;(case hk=>refine' ps_ret pe_bl)));(case hF=>refine' pss_one ?hD;(case hD=>refine' ps_ret ?hC;(case hC=>refine' pe_and ?hA ?hB;(case hA=>refine' pe_chain op_le op_le pe_int ?ho (pe_gl T.g_LONGEST_NAME);(case ho=>refine' pe_callB call_len_str rfl T.b_len PySem.boot_len ?hn;(case hn=>refine' pa_c (pv 0) pa_nil)));(case hB=>refine' pe_one ?hz;(case hz=>refine' pe_allgen hr rfl rfl hcd hbm rfl T.b_all ?hr (compN ["sign"] 1 []) ?hs ?ht ?hu ?hv ?hw ?hx ?hy;(case hr=>exact ⟨rfl,rfl,by decide +kernel,rfl,(show ∀ y : Str × NameKind,y ∈ _->y.2 = NameKind.free->(defScope s_is_name).names.lookup y.1 = some .cell\/(defScope s_is_name).names.lookup y.1 = some .free from by decide +kernel)⟩);(case hs=>decide +kernel);(case ht=>decide);(case hu=>refine' pi_str (pv 0));(case hv=>intro _ _ _ _ _ _;refine' pg_name ?hp (ixAt 0) (Or.inl rfl) (Or.inr rfl);(case hp=>exact (show (["sign"] : List Str).Nodup from by decide +kernel)));(case hw=>exact (gown_name (by decide)));(case hx=>intro _ _ _ _ _ _;exact pts_nil);(case hy=>intro _ _ _ _ _ _;refine' pe_cmpR op_in_str (pv 0) (pe_gl T.g_LETTERS) ?hq;(case hq=>with_unfolding_all rfl))))))))
 refine ⟨_,rfl,_,_,_,_,rfl,hd.ty,kit_str d,_,rfl,?_⟩
 cases d with
 | none=>exact iteT (iteT (q H Ext.refl))
 | bool b=>exact iteT (iteT (q H Ext.refl))
 | int b=>exact iteT (iteT (q H Ext.refl))
 | list b=>exact iteT (iteT (q H Ext.refl))
 | tuple b=>exact iteT (iteT (q H Ext.refl))
 | dict b=>exact iteT (iteT (q H Ext.refl))
 | str x =>
  have q' : ∀ b H',nm x = b->Ext [] H H'->Q (.bl b) H':=fun b H' e h=>by
   rw [<- e]
   exact q H' h
  obtain rfl : v = .str x:=hd
  have hz0 : x.length <= 1000:=of_decide_eq_true hz
  have hz1 : x.length <= sizeLine:=Nat.le_trans hz0 (Nat.le_of_lt (small1000 (Nat.le_refl _)))
  refine iteF ?_
  refine ⟨_,rfl,a,_,rfl,.inr (O.sq H),rfl,rfl,_,rfl,?_⟩
  refine ite2 (fun c=>?_) (fun c=>?_)
  ·have c' : (("out" : Str) == x || ("yard" : Str) == x) = true:=by simpa [inV,eqV] using c
   exact q' false H (by unfold nm;rw [if_pos c']) Ext.refl
  ·have c' : ¬ (("out" : Str) == x || ("yard" : Str) == x) = true:=by simpa [inV,eqV] using c
   have e1 : nm x = (decide ((1 : Int) <= (x.length : Int)) && (decide ((x.length : Int) <= 8) && (sgn x).all inL)):=by unfold nm;rw [if_neg c']
   refine ⟨_,rfl,_,rfl,hz1,_,_,rfl,rfl,_,rfl,?_⟩
   refine ite2 (fun c1=>?_) (fun c1=>?_)
   ·refine ⟨_,_,rfl,rfl,_,rfl,?_⟩
    refine ite2 (fun c2=>?_) (fun c2=>?_)
    ·obtain ⟨ps,hps⟩:=tb tP hts
     refine ⟨_,rfl,x,rfl,⟨ps,hps⟩,fun ps' tb'=>allgen_by0 yields_str (fun i H2=>Ext [] H H2/\((sgn x).take i).all inL = true) ⟨Ext.tbl hps.1 tb'.2,rfl⟩ (fun _ _ _=>trivial) ?_ ?_⟩
     ·rintro i y H2 hy hi ⟨e,p⟩
      obtain ⟨s',hs,rfl⟩:=sgn_at hy
      refine ⟨_,rfl,s',az,rfl,rfl,_,rfl,?_⟩
      refine ite2 (fun c3=>?_) (fun c3=>?_)
      ·refine nx hi ⟨e,?_⟩
       rw [take_all hs,p]
       exact c3
      ·refine q' false H2 ?_ e
       rw [e1,not_all (p:=inL) hs (Bool.eq_false_iff.mpr c3),Bool.and_false,Bool.and_false]
     ·rintro H2 ⟨e,p⟩
      refine q' true H2 ?_ e
      rw [sgn_len,List.take_length] at p
      rw [e1,p,c1,c2]
      rfl
    ·refine q' false H ?_ Ext.refl
     rw [e1,Bool.eq_false_iff.mpr c2,Bool.false_and,Bool.and_false]
   ·refine ⟨_,rfl,iteF ?_⟩
    refine q' false H ?_ Ext.refl
    rw [e1,Bool.eq_false_iff.mpr c1,Bool.false_and]
theorem sc_unlike : FnScope ["tuples"] ["tuples"] (defScope s_unlike):=⟨rfl,rfl,rfl,by decide +kernel,rfl,by decide +kernel,by decide +kernel⟩
theorem ok_unlike {f : Addr} {fd : FuncData} (F : Fun K "have_unlike_names" "have_unlike_names" s_unlike f fd) (T : Txt K mg) : FnOk P w K mg base CX0 1 f fd ["tuples"] spUn:=by
 refine F.ok sc_unlike (fun vs H Q E h=>?_) (fun cdv A outer s H vs Q E hr h=>?_)
 ·obtain ⟨ds,v,rfl,_⟩:=h
  rfl
 obtain ⟨ds,v,rfl,hd,hl,hall,q⟩:=h
 refine' ⟨_,?hh,?rr⟩
 case hh=>(refine' pss_one ?ho;(case ho=>refine' ps_ret ?hn;(case hn=>refine' pe_cmpR op_eq ?hl ?hm (nomark _);(case hl=>refine' pe_lenset rfl T.b_len rfl ?hd (compN ["each"] 1 []) ?he ?hf ?hg ?hh ?hi ?hj;(case hd=>exact ⟨rfl,by decide +kernel,by decide +kernel,(show ∀ y : Str × NameKind,y ∈ _->y.2 = NameKind.free->(defScope s_unlike).names.lookup y.1 = some .cell\/(defScope s_unlike).names.lookup y.1 = some .free from by decide +kernel)⟩);(case he=>decide +kernel);(case hf=>decide);(case hg=>refine' pi_tup (pv 0));(case hh=>intro _ _ _ _;refine' pg_name ?hb (ixAt 0) (Or.inl rfl) (Or.inr rfl);(case hb=>exact (show (["each"] : List Str).Nodup from by decide +kernel)));(case hi=>exact (gown_name (by decide)));(case hj=>intro _ _ _ _;refine' pe_ix ?hc (pv 0) pe_int (fun _ _=>rfl);(case hc=>exact (show IxR _ (rIxT K) from ix_tup))));(case hm=>refine' pe_callB call_len_seq rfl T.b_len PySem.boot_len ?hk;(case hk=>refine' pa_c (pv 0) pa_nil)))))
 obtain ⟨a,us,rfl,_,ha,hds⟩:=hd
 have el:=hds.length
 refine ⟨_,rfl,a,rfl,⟨us,SqT.of ha⟩,lset_by (yields_tup (ys:=us)) (fun i ks H2=>H2 = H/\ks = (ds.take i).map firstD) ⟨rfl,rfl⟩ (fun _ _ _ h=>by rw [h.1];exact SqT.of ha) ?_ ?_⟩
 ·rintro i x ks H2 hx hi ⟨rfl,rfl⟩
  have hi' : i < ds.length:=by omega
  obtain ⟨y,hy,hd⟩:=hds.get (i:=i) (List.getElem?_eq_getElem hi')
  rw [hx] at hy
  cases hy
  obtain ⟨z,r,er⟩:=hall _ (List.getElem_mem hi')
  have e3 : (ds.take (i + 1)).map firstD = (ds.take i).map firstD ++ [z]:=by
   rw [List.take_add_one,List.getElem?_eq_getElem hi',List.map_append,er] <;> rfl
  rw [er] at hd
  obtain ⟨b,ws,rfl,_,hb,v1,r1,rfl,hv1,_⟩:=hd
  obtain rfl : v1 = .str z:=hv1
  refine ⟨_,rfl,b,_,_,_,rfl,rfl,SqT.of hb,atI_nat (j:=0) rfl,z,rfl,?_,nx hi ⟨rfl,e3.symm⟩⟩
  rw [List.length_map,List.length_take]
  omega
 ·rintro ks H2 ⟨rfl,rfl⟩
  refine ⟨_,rfl,a,us,rfl,.inr (SqT.of ha),rfl,?_⟩
  have e : decide (V.int ((dcount ((ds.take us.length).map firstD) : Nat) : Int) = V.int ((us.length : Nat) : Int)) = unlikeD ds:=by
   rw [el,List.take_length]
   unfold unlikeD
   have q2:=dcount_nodup (ds.map firstD)
   rw [List.length_map] at q2
   by_cases hn : (ds.map firstD).Nodup
   ·rw [decide_eq_true hn,q2.mpr hn]
    exact decide_eq_true rfl
   ·rw [decide_eq_false hn]
    refine decide_eq_false fun z=>hn (q2.mp ?_)
    injection z with z
    omega
  rw [e]
  exact q
theorem sc_are_bounds : FnScope ["thing","many"] ["thing","many"] (defScope s_are_bounds):=⟨rfl,rfl,rfl,by decide +kernel,rfl,by decide +kernel,by decide +kernel⟩
theorem ok_bounds {f c0 tP : Addr} {fd : FuncData} (F : FunC K "are_bounds" "are_bounds" s_are_bounds f fd c0) (T : Txt K mg) (hcd : PySem.W.CodeHd base c0 tP) (hbm : BltMod mg base) (hts : tP ∈ ts) (C_is_tuple : CallOk P w K mg base "is_tuple" 1 ["thing","least","most"] spTup) (C_is_bound : CallOk P w K mg base "is_bound" 2 ["thing"] (sp1 ts boundD)) :
  FnOk P w K mg base CX0 4 f fd ["thing","many"] (sp2 ts boundsD):=by
 refine F.ok sc_are_bounds (fun vs H Q E h=>?_) (fun A outer s H vs Q E hr h=>?_)
 ·obtain ⟨d,v,n,rfl,_⟩:=h
  rfl
 obtain ⟨d,v,n,rfl,hd,hz,tb,q⟩:=h
 refine' ⟨_,?hh,?rr⟩
 case hh=>(refine' pss_one ?hu;(case hu=>refine' ps_ret ?ht;(case ht=>refine' pe_and ?hr ?hs;(case hr=>refine' pe_cl C_is_tuple hr ?hd rfl ?he;(case hd=>refine' pa_c (pv 0) ?hc;(case hc=>refine' pa_c (pv 1) ?hb;(case hb=>refine' pa_c (pv 1) pa_nil)));(case he=>decide));(case hs=>refine' pe_one ?hq;(case hq=>refine' pe_allgen hr rfl rfl hcd hbm rfl T.b_all ?hi (compN ["bound"] 1 []) ?hj ?hk ?hl ?hm ?hn ?ho ?hp;(case hi=>exact ⟨rfl,rfl,by decide +kernel,rfl,(show ∀ y : Str × NameKind,y ∈ _->y.2 = NameKind.free->(defScope s_are_bounds).names.lookup y.1 = some .cell\/(defScope s_are_bounds).names.lookup y.1 = some .free from by decide +kernel)⟩);(case hj=>decide +kernel);(case hk=>decide);(case hl=>refine' pi_tup (pv 0));(case hm=>intro _ _ _ _ _ _;refine' pg_name ?hf (ixAt 0) (Or.inl rfl) (Or.inr rfl);(case hf=>exact (show (["bound"] : List Str).Nodup from by decide +kernel)));(case hn=>exact (gown_name (by decide)));(case ho=>intro _ _ _ _ _ _;exact pts_nil);(case hp=>intro _ _ _ _ _ _;refine' pe_cl C_is_bound (genRoom hr) ?hg rfl ?hh;(case hg=>refine' pa_c (pv 0) pa_nil);(case hh=>decide)))))))
 refine ⟨_,rfl,_,rfl,_,rfl,d,v,n,n,rfl,hd,_,rfl,?_⟩
 have q' : ∀ b H1,boundsD d n = b->Ext [] H H1->Q (.bl b) H1:=fun b H1 e e1=>by rw [<- e];exact q H1 e1
 refine ite2 (fun c=>?_) (fun c=>?_)
 ·cases d with
  | tuple ds =>
   obtain ⟨a,us,rfl,_,ha,hds⟩:=hd
   have el:=hds.length
   obtain ⟨ps,hps⟩:=tb tP hts
   have e0 : boundsD (.tuple ds) n = ds.all boundD:=by
    show (tupD (.tuple ds) n n && ds.all boundD) = _
    rw [c,Bool.true_and]
   refine ⟨_,rfl,a,rfl,⟨us,SqT.of ha⟩,⟨ps,hps⟩,fun ps' tb'=>allgen_by0 (yields_tup (ys:=us)) (fun i H2=>Ext [] H H2/\(ds.take i).all boundD = true) ⟨Ext.tbl hps.1 tb'.2,rfl⟩ (fun _ _ h=>SqT.of (h.1.tup (by simp) ha)) ?_ ?_⟩
   ·rintro i y H2 hy hi ⟨e,p⟩
    have hi' : i < ds.length:=by omega
    obtain ⟨y',hy',hdy⟩:=hds.get (i:=i) (List.getElem?_eq_getElem hi')
    rw [hy] at hy'
    cases hy'
    refine ⟨_,rfl,ds[i],y,rfl,IsD.ext e hdy,smallDs_mem hz (List.getElem_mem hi'),e.tb tb (by simp),fun H3 e3=>⟨_,rfl,?_⟩⟩
    refine ite2 (fun c3=>?_) (fun c3=>?_)
    ·refine nx hi ⟨e.trans e3,?_⟩
     rw [take_all (List.getElem?_eq_getElem hi'),p,c3]
     rfl
    ·refine q' false H3 ?_ (e.trans e3)
     rw [e0,not_all (List.getElem?_eq_getElem hi') (Bool.eq_false_iff.mpr c3)]
   ·rintro H2 ⟨e,p⟩
    refine q' true H2 ?_ e
    rw [el,List.take_length] at p
    rw [e0,p]
  | _=>cases c
 ·refine q' false H ?_ Ext.refl
  cases d with
  | tuple ds =>
   show (tupD (.tuple ds) n n && ds.all boundD) = false
   rw [Bool.eq_false_iff.mpr c,Bool.false_and]
  | _=>rfl
theorem wayOk_snoc {cnt : Int} : ∀ {a : Int} (ds : List PyData) {i : Nat} {d : PyData},ds[i]? = some d->True->∀ {l : Int},(∀ b,wayOk cnt a (ds.take i ++ b) = wayOk cnt l b)->∀ b,wayOk cnt a (ds.take (i + 1) ++ b) = wayOk cnt l (d :: b):=by
 intro a ds i d h _ l e b
 rw [List.take_add_one,h,List.append_assoc]
 exact e (d :: b)
theorem sc_is_way : FnScope ["thing","lane_count","ahead","number"] ["thing","lane_count"] (defScope s_is_way):=⟨rfl,rfl,rfl,by decide +kernel,rfl,by decide +kernel,by decide +kernel⟩
theorem ok_way {f : Addr} {fd : FuncData} (F : Fun K "is_way" "is_way" s_is_way f fd) (T : Txt K mg) (C_is_tuple : CallOk P w K mg base "is_tuple" 1 ["thing","least","most"] spTup) (C_is_whole : CallOk P w K mg base "is_whole" 1 ["thing"] (sp1 ts wholeD)) :
  FnOk P w K mg base CX0 2 f fd ["thing","lane_count"] (sp2 ts wayD):=by
 refine F.ok sc_is_way (fun vs H Q E h=>?_) (fun cdv A outer s H vs Q E hr h=>?_)
 ·obtain ⟨d,v,n,rfl,_⟩:=h
  rfl
 obtain ⟨d,v,n,rfl,hd,hz,tb,q⟩:=h
 refine' ⟨_,?hh,?rr⟩
 case hh=>(refine' pss_cons ?hI ?hJ;(case hI=>refine' ps_if ?hi ?hj pss_nil;(case hi=>refine' pt_not ?hg;(case hg=>refine' pt_val ?hf;(case hf=>refine' pe_cl C_is_tuple hr ?hd rfl ?he;(case hd=>refine' pa_c (pv 0) ?hc;(case hc=>refine' pa_c pe_int ?hb;(case hb=>refine' pa_c (pv 1) pa_nil)));(case he=>decide))));(case hj=>refine' pss_one ?hh;(case hh=>refine' ps_ret pe_bl)));(case hJ=>refine' pss_cons ?hG ?hH;(case hG=>refine' ps_set sc_is_way.nd (ixAt 2) (Or.inl rfl) ?hk;(case hk=>refine' pe_un un_neg pe_int));(case hH=>refine' pss_cons ?hE ?hF;(case hE=>refine' ps_for PassesOwn.never rfl ?hA ?hB ?hC;(case hA=>refine' pi_tup (pv 0));(case hB=>refine' pg_name sc_is_way.nd (ixAt 3) (Or.inl rfl) (Or.inl rfl));(case hC=>refine' pss_cons ?hy ?hz;(case hy=>refine' ps_if ?hv ?hw pss_nil;(case hv=>refine' PW.pt ?ht;(case ht=>refine' pw_or ?hr ?hs;(case hr=>refine' pt_not ?ho;(case ho=>refine' pt_val ?hn;(case hn=>refine' pe_cl C_is_whole hr ?hl rfl ?hm;(case hl=>refine' pa_c (pv 3) pa_nil);(case hm=>decide))));(case hs=>refine' pw_or1 ?hq;(case hq=>refine' pt_not ?hp;(case hp=>refine' pt_chain op_lt op_lt (pv 2) (pv 3) (pv 1))))));(case hw=>refine' pss_one ?hu;(case hu=>refine' ps_ret pe_bl)));(case hz=>refine' pss_one ?hx;(case hx=>refine' ps_set sc_is_way.nd (ixAt 2) (Or.inl rfl) (pv 3)))));(case hF=>refine' pss_one ?hD;(case hD=>refine' ps_ret pe_bl)))))
 refine ⟨_,rfl,_,rfl,d,v,1,n,rfl,hd,_,rfl,?_⟩
 have q' : ∀ b H1,wayD d n = b->Ext [] H H1->Q (.bl b) H1:=fun b H1 e e1=>by rw [<- e];exact q H1 e1
 cases c : tupD d 1 n with
 | false =>
  refine iteT (q' false H ?_ Ext.refl)
  cases d with
  | tuple ds =>
   show (tupD (.tuple ds) 1 n && wayOk n (-1) ds) = false
   rw [c,Bool.false_and]
  | _=>rfl
 | true =>
  refine iteF ?_
  cases d with
  | tuple ds =>
   obtain ⟨a,us,rfl,_,ha,hds⟩:=hd
   have el:=hds.length
   have e0 : wayD (.tuple ds) n = wayOk n (-1) ds:=by
    show (tupD (.tuple ds) 1 n && wayOk n (-1) ds) = _
    rw [c,Bool.true_and]
   refine ⟨_,rfl,?_⟩
   refine ⟨_,rfl,a,rfl,⟨us,SqT.of ha⟩,for_tup (xs:=us) (fun i σ H2=>∃ (l : Int) (nn : Option V),σ = [some (V.ref a),some (V.int n),some (V.int l),nn]/\Ext [] H H2/\∀ b,wayOk n (-1) (ds.take i ++ b) = wayOk n l b) ⟨_,_,rfl,Ext.refl,fun b=>rfl⟩ (fun _ _ _ _ ⟨_,_,_,e,_⟩=>SqT.of (e.tup (by simp) ha)) ?_ ?_⟩
   ·rintro i y σ H2 hy ⟨l,nn,rfl,e,hw⟩
    have hi : i < us.length:=(List.getElem?_eq_some_iff.mp hy).1
    have hi' : i < ds.length:=by omega
    obtain ⟨y',hy',hdy⟩:=hds.get (i:=i) (List.getElem?_eq_getElem hi')
    rw [hy] at hy'
    cases hy'
    have hd2 : ds = ds.take i ++ ds[i] :: ds.drop (i + 1):=by
     rw [<- List.drop_eq_getElem_cons hi',List.take_append_drop]
    have hstop : wayOk n l (ds[i] :: ds.drop (i + 1)) = wayOk n (-1) ds:=by
     rw [<- hw,<- hd2]
    have hsm:=smallDs_mem hz (List.getElem_mem hi')
    have hnext:=wayOk_snoc ds (List.getElem?_eq_getElem hi') trivial hw
    generalize ds[i] = dy at hdy hsm hnext hstop
    refine ⟨_,rfl,dy,y,rfl,IsD.ext e hdy,hsm,e.tb tb (by simp),fun H3 e3=>⟨_,rfl,?_⟩⟩
    cases dy with
    | int k =>
     refine iteF ?_
     obtain rfl : y = .int k:=hdy
     refine ⟨_,rfl,_,rfl,_,_,rfl,rfl,_,rfl,?_⟩
     have hst : ((decide (l < k) && decide (k < n)) && wayOk n k (ds.drop (i + 1))) = wayOk n (-1) ds:=hstop
     refine ite2 (fun c1=>?_) (fun c1=>?_)
     ·refine ⟨_,rfl,_,_,rfl,rfl,_,rfl,?_⟩
      cases c2 : decide (k < n) with
      | true =>
       refine iteF ?_
       refine ⟨_,rfl,k,_,rfl,e.trans e3,fun b=>?_⟩
       rw [hnext b]
       show ((decide (l < k) && decide (k < n)) && wayOk n k b) = _
       rw [c1,c2]
       rfl
      | false =>
       refine iteT (q' false H3 ?_ (e.trans e3))
       rw [e0,<- hst,c2,Bool.and_false,Bool.false_and]
     ·refine ⟨_,rfl,iteT (q' false H3 ?_ (e.trans e3))⟩
      rw [e0,<- hst,Bool.eq_false_iff.mpr c1,Bool.false_and,Bool.false_and]
    | none=>exact iteT (q' false H3 (by rw [e0,<- hstop];rfl) (e.trans e3))
    | bool k=>exact iteT (q' false H3 (by rw [e0,<- hstop];rfl) (e.trans e3))
    | str k=>exact iteT (q' false H3 (by rw [e0,<- hstop];rfl) (e.trans e3))
    | list k=>exact iteT (q' false H3 (by rw [e0,<- hstop];rfl) (e.trans e3))
    | tuple k=>exact iteT (q' false H3 (by rw [e0,<- hstop];rfl) (e.trans e3))
    | dict k=>exact iteT (q' false H3 (by rw [e0,<- hstop];rfl) (e.trans e3))
   ·rintro σ H2 ⟨l,nn,rfl,e,hw⟩
    refine q' true H2 ?_ e
    have:=hw []
    rw [el,List.take_length,List.append_nil] at this
    rw [e0,this]
    rfl
  | _=>cases c
end
end K02
end

section
set_option Elab.async false
set_option linter.all false
set_option maxRecDepth 100000
set_option maxHeartbeats 1000000
namespace K02
open PySem L2 PyProof.Rows
theorem lane_str {d : PyData} (h : laneD d = true) : ∃ x r,d = .tuple (.str x :: r):=by
 match d,h with
 | .tuple [n,b],h =>
  have h' : (nmD n && boundD b) = true:=h
  rw [Bool.and_eq_true] at h'
  match n,h'.1 with
  | .str x,_=>exact ⟨x,[b],rfl⟩
theorem kind_str {cnt : Int} {d : PyData} (h : kindD cnt d = true) : ∃ x r,d = .tuple (.str x :: r):=by
 match d,h with
 | .tuple [n,w,b],h =>
  have h' : (nmD n && (wayD w cnt && boundsD b (lenD w))) = true:=h
  rw [Bool.and_eq_true] at h'
  match n,h'.1 with
  | .str x,_=>exact ⟨x,[w,b],rfl⟩
theorem tup_len {ds : List PyData} {lo hi : Int} (c : tupD (.tuple ds) lo hi = true) : lo <= (ds.length : Int)/\(ds.length : Int) <= hi:=by
 have c' : (decide (lo <= (ds.length : Int)) && decide ((ds.length : Int) <= hi)) = true:=c
 rw [Bool.and_eq_true,decide_eq_true_eq,decide_eq_true_eq] at c'
 exact c'
section
variable {P : Program} {w : World} {K : PySem.W.Frag} {mg : Str->Option Value} {base : Heap} {ts : List Addr}
theorem sc_is_kind : FnScope ["thing","lane_count","name","way","bounds"] ["thing","lane_count"] (defScope s_is_kind):=⟨rfl,rfl,rfl,by decide +kernel,rfl,by decide +kernel,by decide +kernel⟩
theorem ok_kind {f : Addr} {fd : FuncData} (F : Fun K "is_kind" "is_kind" s_is_kind f fd) (T : Txt K mg) (C_is_tuple : CallOk P w K mg base "is_tuple" 1 ["thing","least","most"] spTup) (C_is_name : CallOk P w K mg base "is_name" 2 ["thing"] (sp1 ts nmD)) (C_is_way : CallOk P w K mg base "is_way" 2 ["thing","lane_count"] (sp2 ts wayD)) (C_are_bounds : CallOk P w K mg base "are_bounds" 4 ["thing","many"] (sp2 ts boundsD)) :
  FnOk P w K mg base CX0 5 f fd ["thing","lane_count"] (sp2 ts fun d n=>kindD n d):=by
 refine F.ok sc_is_kind (fun vs H Q E h=>?_) (fun cdv A outer s H vs Q E hr h=>?_)
 ·obtain ⟨d,v,n,rfl,_⟩:=h
  rfl
 obtain ⟨d,v,n,rfl,hd,hz,tb,q⟩:=h
 refine' ⟨_,?hh,?rr⟩
 case hh=>(refine' pss_cons ?hK ?hL;(case hK=>refine' ps_if ?hi ?hj pss_nil;(case hi=>refine' pt_not ?hg;(case hg=>refine' pt_val ?hf;(case hf=>refine' pe_cl C_is_tuple hr ?hd rfl ?he;(case hd=>refine' pa_c (pv 0) ?hc;(case hc=>refine' pa_c pe_int ?hb;(case hb=>refine' pa_c pe_int pa_nil)));(case he=>decide))));(case hj=>refine' pss_one ?hh;(case hh=>refine' ps_ret pe_bl)));(case hL=>refine' pss_cons ?hI ?hJ;(case hI=>refine' ps_asg (pv 0) ?hq;(case hq=>refine' pg_tup rfl ?hp;(case hp=>refine' pgs_cons ?hn ?ho;(case hn=>refine' pg_name sc_is_kind.nd (ixAt 2) (Or.inl rfl) (Or.inl rfl));(case ho=>refine' pgs_cons ?hl ?hm;(case hl=>refine' pg_name sc_is_kind.nd (ixAt 3) (Or.inl rfl) (Or.inl rfl));(case hm=>refine' pgs_cons ?hk pgs_nil;(case hk=>refine' pg_name sc_is_kind.nd (ixAt 4) (Or.inl rfl) (Or.inl rfl)))))));(case hJ=>refine' pss_one ?hH;(case hH=>refine' ps_ret ?hG;(case hG=>refine' pe_and ?hE ?hF;(case hE=>refine' pe_cl C_is_name hr ?hr rfl ?hs;(case hr=>refine' pa_c (pv 2) pa_nil);(case hs=>decide));(case hF=>refine' pe_and ?hC ?hD;(case hC=>refine' pe_cl C_is_way hr ?hu rfl ?hv;(case hu=>refine' pa_c (pv 3) ?ht;(case ht=>refine' pa_c (pv 1) pa_nil));(case hv=>decide));(case hD=>refine' pe_one ?hB;(case hB=>refine' pe_cl C_are_bounds hr ?hz rfl ?hA;(case hz=>refine' pa_c (pv 4) ?hy;(case hy=>refine' pa_c ?hx pa_nil;(case hx=>refine' pe_callB call_len_seq rfl T.b_len PySem.boot_len ?hw;(case hw=>refine' pa_c (pv 3) pa_nil))));(case hA=>decide)))))))))
 refine ⟨_,rfl,d,v,3,3,rfl,hd,_,rfl,?_⟩
 have q' : ∀ b H1,kindD n d = b->Ext [] H H1->Q (.bl b) H1:=fun b H1 e e1=>by rw [<- e];exact q H1 e1
 cases c : tupD d 3 3 with
 | false =>
  refine iteT (q' false H ?_ Ext.refl)
  cases d with
  | tuple ds =>
   have c' : ¬ (decide ((3 : Int) <= (ds.length : Int)) && decide ((ds.length : Int) <= 3)) = true:=Bool.eq_false_iff.mp c
   match ds,c' with
   | [_,_,_],c'=>exact absurd rfl c'
   | [],_=>rfl
   | [_],_=>rfl
   | [_,_],_=>rfl
   | _ :: _ :: _ :: _ :: _,_=>rfl
  | _=>rfl
 | true =>
  refine iteF ?_
  obtain ⟨nm1,wy,bs,rfl⟩ : ∃ n b m,d = .tuple [n,b,m]:=by
   cases d with
   | tuple ds =>
    have c':=tup_len c
    match ds,c' with
    | [n,b,m],_=>exact ⟨n,b,m,rfl⟩
    | [],c'=>simp at c'
    | [_],c'=>simp at c'
    | [_,_],c'=>simp at c'
    | _ :: _ :: _ :: _ :: r,c'=>simp at c';omega
   | _=>cases c
  obtain ⟨a,us,rfl,_,ha,v1,r1,rfl,d1,v2,r2,rfl,d2,v3,r3,rfl,d3,rfl⟩:=hd
  have s1 : smallD nm1 = true:=smallDs_mem hz (by simp)
  have s2 : smallD wy = true:=smallDs_mem hz (by simp)
  have s3 : smallD bs = true:=smallDs_mem hz (by simp)
  have ek : kindD n (.tuple [nm1,wy,bs]) = (nmD nm1 && (wayD wy n && boundsD bs (lenD wy))):=rfl
  refine ⟨_,rfl,a,_,rfl,SqT.of ha,rfl,v1,_,rfl,v2,_,rfl,v3,_,rfl,rfl,?_⟩
  refine ⟨_,rfl,nm1,v1,rfl,d1,s1,tb,fun H1 e1=>⟨_,rfl,?_⟩⟩
  refine ite2 (fun c1=>?_) (fun c1=>?_)
  ·refine ⟨_,rfl,_,rfl,wy,v2,n,rfl,IsD.ext e1 d2,s2,e1.tb tb (by simp),fun H2 e2=>⟨_,rfl,?_⟩⟩
   refine ite2 (fun c2=>?_) (fun c2=>?_)
   ·cases wy with
    | tuple ws =>
     have e12:=e1.trans e2
     obtain ⟨b,xs,rfl,_,hb,hws⟩:=IsD.ext e12 d2
     refine ⟨_,rfl,_,rfl,b,xs,rfl,.inr (SqT.of hb),bs,v3,_,rfl,IsD.ext e12 d3,s3,e12.tb tb (by simp),fun H3 e3=>?_⟩
     refine q' _ H3 ?_ (e12.trans e3)
     rw [ek,c1,c2,Bool.true_and,Bool.true_and,hws.length]
     rfl
    | _=>cases c2
   ·refine q' _ H2 ?_ (e1.trans e2)
    rw [ek,Bool.eq_false_iff.mpr c2,Bool.false_and,Bool.and_false]
  ·refine q' _ H1 ?_ e1
   rw [ek,Bool.eq_false_iff.mpr c1,Bool.false_and]
theorem sc_are_lanes : FnScope ["thing"] ["thing"] (defScope s_are_lanes):=⟨rfl,rfl,rfl,by decide +kernel,rfl,by decide +kernel,by decide +kernel⟩
theorem ok_lanes {f c0 tP : Addr} {fd : FuncData} (F : FunC K "are_lanes" "are_lanes" s_are_lanes f fd c0) (T : Txt K mg) (hcd : PySem.W.CodeHd base c0 tP) (hbm : BltMod mg base) (hts : tP ∈ ts) (C_is_tuple : CallOk P w K mg base "is_tuple" 1 ["thing","least","most"] spTup) (C_is_lane : CallOk P w K mg base "is_lane" 3 ["thing"] (sp1 ts laneD)) (C_have_unlike_names : CallOk P w K mg base "have_unlike_names" 1 ["tuples"] spUn) :
  FnOk P w K mg base CX0 5 f fd ["thing"] (sp1 ts lanesD):=by
 refine F.ok sc_are_lanes (fun vs H Q E h=>?_) (fun A outer s H vs Q E hr h=>?_)
 ·obtain ⟨d,v,rfl,_⟩:=h
  rfl
 obtain ⟨d,v,rfl,hd,hz,tb,q⟩:=h
 refine' ⟨_,?hh,?rr⟩
 case hh=>(refine' pss_one ?hy;(case hy=>refine' ps_ret ?hx;(case hx=>refine' pe_and ?hv ?hw;(case hv=>refine' pe_cl C_is_tuple hr ?hd rfl ?he;(case hd=>refine' pa_c (pv 0) ?hc;(case hc=>refine' pa_c pe_int ?hb;(case hb=>refine' pa_c (pe_gl T.g_MOST_LANES) pa_nil)));(case he=>decide));(case hw=>refine' pe_and ?ht ?hu;(case ht=>refine' pe_allgen hr rfl rfl hcd hbm rfl T.b_all ?hi (compN ["lane"] 1 []) ?hj ?hk ?hl ?hm ?hn ?ho ?hp;(case hi=>exact ⟨rfl,rfl,by decide +kernel,rfl,(show ∀ y : Str × NameKind,y ∈ _->y.2 = NameKind.free->(defScope s_are_lanes).names.lookup y.1 = some .cell\/(defScope s_are_lanes).names.lookup y.1 = some .free from by decide +kernel)⟩);(case hj=>decide +kernel);(case hk=>decide);(case hl=>refine' pi_tup (pv 0));(case hm=>intro _ _ _ _ _ _;refine' pg_name ?hf (ixAt 0) (Or.inl rfl) (Or.inr rfl);(case hf=>exact (show (["lane"] : List Str).Nodup from by decide +kernel)));(case hn=>exact (gown_name (by decide)));(case ho=>intro _ _ _ _ _ _;exact pts_nil);(case hp=>intro _ _ _ _ _ _;refine' pe_cl C_is_lane (genRoom hr) ?hg rfl ?hh;(case hg=>refine' pa_c (pv 0) pa_nil);(case hh=>decide)));(case hu=>refine' pe_one ?hs;(case hs=>refine' pe_cl C_have_unlike_names hr ?hq rfl ?hr;(case hq=>refine' pa_c (pv 0) pa_nil);(case hr=>decide)))))))
 refine ⟨_,rfl,d,v,1,6,rfl,hd,_,rfl,?_⟩
 have q' : ∀ b H1,lanesD d = b->Ext [] H H1->Q (.bl b) H1:=fun b H1 e e1=>by rw [<- e];exact q H1 e1
 refine ite2 (fun c=>?_) (fun c=>?_)
 ·cases d with
  | tuple ds =>
   obtain ⟨a,us,rfl,hne,ha,hds⟩:=hd
   have el:=hds.length
   obtain ⟨ps,hps⟩:=tb tP hts
   have e0 : lanesD (.tuple ds) = (ds.all laneD && unlikeD ds):=by
    show (tupD (.tuple ds) 1 6 && _) = _
    rw [c,Bool.true_and]
   refine ⟨_,rfl,a,rfl,⟨us,SqT.of ha⟩,⟨ps,hps⟩,fun ps' tb'=>allgen_by0 (yields_tup (ys:=us)) (fun i H2=>Ext [] H H2/\(ds.take i).all laneD = true) ⟨Ext.tbl hps.1 tb'.2,rfl⟩ (fun _ _ h=>SqT.of (h.1.tup (by simp) ha)) ?_ ?_⟩
   ·rintro i y H2 hy hi ⟨e,p⟩
    have hi' : i < ds.length:=by omega
    obtain ⟨y',hy',hdy⟩:=hds.get (i:=i) (List.getElem?_eq_getElem hi')
    rw [hy] at hy'
    cases hy'
    refine ⟨_,rfl,ds[i],y,rfl,IsD.ext e hdy,smallDs_mem hz (List.getElem_mem hi'),e.tb tb (by simp),fun H3 e3=>⟨_,rfl,?_⟩⟩
    refine ite2 (fun c3=>?_) (fun c3=>?_)
    ·refine nx hi ⟨e.trans e3,?_⟩
     rw [take_all (List.getElem?_eq_getElem hi'),p,c3]
     rfl
    ·refine ⟨_,rfl,iteF (q' false H3 ?_ (e.trans e3))⟩
     rw [e0,not_all (List.getElem?_eq_getElem hi') (Bool.eq_false_iff.mpr c3),Bool.false_and]
   ·rintro H2 ⟨e,p⟩
    rw [el,List.take_length] at p
    refine ⟨_,rfl,iteT ?_⟩
    have hl:=tup_len c
    refine ⟨_,rfl,ds,_,rfl,⟨a,us,rfl,hne,e.tup (by simp) ha,IsDs.ext e hds⟩,by omega,fun d hd=>lane_str (List.all_eq_true.mp p d hd),q' _ H2 ?_ e⟩
    rw [e0,p,Bool.true_and]
  | _=>cases c
 ·refine q' false H ?_ Ext.refl
  cases d with
  | tuple ds =>
   show (tupD (.tuple ds) 1 6 && _) = false
   rw [Bool.eq_false_iff.mpr c,Bool.false_and]
  | _=>rfl
theorem sc_are_kinds : FnScope ["thing","lane_count"] ["thing","lane_count"] (defScope s_are_kinds):=⟨rfl,rfl,rfl,by decide +kernel,rfl,by decide +kernel,by decide +kernel⟩
theorem ok_kinds {f c0 tP : Addr} {fd : FuncData} (F : FunC K "are_kinds" "are_kinds" s_are_kinds f fd c0) (T : Txt K mg) (hcd : PySem.W.CodeHd base c0 tP) (hbm : BltMod mg base) (hts : tP ∈ ts) (C_is_tuple : CallOk P w K mg base "is_tuple" 1 ["thing","least","most"] spTup) (C_is_kind : CallOk P w K mg base "is_kind" 5 ["thing","lane_count"] (sp2 ts fun d n=>kindD n d)) (C_have_unlike_names : CallOk P w K mg base "have_unlike_names" 1 ["tuples"] spUn) :
  FnOk P w K mg base CX0 7 f fd ["thing","lane_count"] (sp2 ts kindsD):=by
 refine F.ok sc_are_kinds (fun vs H Q E h=>?_) (fun A outer s H vs Q E hr h=>?_)
 ·obtain ⟨d,v,n,rfl,_⟩:=h
  rfl
 obtain ⟨d,v,n,rfl,hd,hz,tb,q⟩:=h
 refine' ⟨_,?hh,?rr⟩
 case hh=>(refine' pss_cons ?hD ?hE;(case hD=>refine' ps_if ?hi ?hj pss_nil;(case hi=>refine' pt_not ?hg;(case hg=>refine' pt_val ?hf;(case hf=>refine' pe_cl C_is_tuple hr ?hd rfl ?he;(case hd=>refine' pa_c (pv 0) ?hc;(case hc=>refine' pa_c pe_int ?hb;(case hb=>refine' pa_c (pe_gl T.g_MOST_KINDS) pa_nil)));(case he=>decide))));(case hj=>refine' pss_one ?hh;(case hh=>refine' ps_ret pe_bl)));(case hE=>refine' pss_one ?hC;(case hC=>refine' ps_ret ?hB;(case hB=>refine' pe_and ?hz ?hA;(case hz=>refine' pe_allgen hr rfl rfl hcd hbm rfl T.b_all ?ho (compN ["kind","lane_count"] 1 [1]) ?hp ?hq ?hr ?hs ?ht ?hu ?hv;(case ho=>exact ⟨rfl,rfl,by decide +kernel,rfl,(show ∀ y : Str × NameKind,y ∈ _->y.2 = NameKind.free->(defScope s_are_kinds).names.lookup y.1 = some .cell\/(defScope s_are_kinds).names.lookup y.1 = some .free from by decide +kernel)⟩);(case hp=>decide +kernel);(case hq=>decide);(case hr=>refine' pi_tup (pv 0));(case hs=>intro _ _ _ _ _ _;refine' pg_name ?hk (ixAt 0) (Or.inl rfl) (Or.inr rfl);(case hk=>exact (show (["kind","lane_count"] : List Str).Nodup from by decide +kernel)));(case ht=>exact (gown_name (by decide)));(case hu=>intro _ _ _ _ _ _;exact pts_nil);(case hv=>intro _ _ _ _ _ _;refine' pe_cl C_is_kind (genRoom hr) ?hm rfl ?hn;(case hm=>refine' pa_c (pv 0) ?hl;(case hl=>refine' pa_c (pv 1) pa_nil));(case hn=>decide)));(case hA=>refine' pe_one ?hy;(case hy=>refine' pe_cl C_have_unlike_names hr ?hw rfl ?hx;(case hw=>refine' pa_c (pv 0) pa_nil);(case hx=>decide)))))))
 refine ⟨_,rfl,d,v,1,6,rfl,hd,_,rfl,?_⟩
 have q' : ∀ b H1,kindsD d n = b->Ext [] H H1->Q (.bl b) H1:=fun b H1 e e1=>by rw [<- e];exact q H1 e1
 cases c : tupD d 1 6 with
 | true =>
  refine iteF ?_
  cases d with
  | tuple ds =>
   obtain ⟨a,us,rfl,hne,ha,hds⟩:=hd
   have el:=hds.length
   obtain ⟨ps,hps⟩:=tb tP hts
   have e0 : kindsD (.tuple ds) n = (ds.all (kindD n) && unlikeD ds):=by
    show (tupD (.tuple ds) 1 6 && _) = _
    rw [c,Bool.true_and]
   refine ⟨_,rfl,a,rfl,⟨us,SqT.of ha⟩,⟨ps,hps⟩,fun ps' tb'=>allgen_by0 (yields_tup (ys:=us)) (fun i H2=>Ext [] H H2/\(ds.take i).all (kindD n) = true) ⟨Ext.tbl hps.1 tb'.2,rfl⟩ (fun _ _ h=>SqT.of (h.1.tup (by simp) ha)) ?_ ?_⟩
   ·rintro i y H2 hy hi ⟨e,p⟩
    have hi' : i < ds.length:=by omega
    obtain ⟨y',hy',hdy⟩:=hds.get (i:=i) (List.getElem?_eq_getElem hi')
    rw [hy] at hy'
    cases hy'
    refine ⟨_,rfl,_,rfl,ds[i],y,n,rfl,IsD.ext e hdy,smallDs_mem hz (List.getElem_mem hi'),e.tb tb (by simp),fun H3 e3=>⟨_,rfl,?_⟩⟩
    refine ite2 (fun (c3 : kindD n ds[i] = true)=>?_) (fun (c3 : ¬ kindD n ds[i] = true)=>?_)
    ·refine nx hi ⟨e.trans e3,?_⟩
     rw [take_all (List.getElem?_eq_getElem hi'),p,c3]
     rfl
    ·refine ⟨_,rfl,iteF (q' false H3 ?_ (e.trans e3))⟩
     rw [e0,not_all (List.getElem?_eq_getElem hi') (Bool.eq_false_iff.mpr c3),Bool.false_and]
   ·rintro H2 ⟨e,p⟩
    rw [el,List.take_length] at p
    refine ⟨_,rfl,iteT ?_⟩
    have hl:=tup_len c
    refine ⟨_,rfl,ds,_,rfl,⟨a,us,rfl,hne,e.tup (by simp) ha,IsDs.ext e hds⟩,by omega,fun d hd=>kind_str (List.all_eq_true.mp p d hd),q' _ H2 ?_ e⟩
    rw [e0,p,Bool.true_and]
  | _=>cases c
 | false =>
  refine iteT (q' false H ?_ Ext.refl)
  cases d with
  | tuple ds =>
   show (tupD (.tuple ds) 1 6 && _) = false
   rw [c,Bool.false_and]
  | _=>rfl
theorem sc_is_plan : FnScope ["thing","lanes","kinds"] ["thing"] (defScope s_is_plan):=⟨rfl,rfl,rfl,by decide +kernel,rfl,by decide +kernel,by decide +kernel⟩
theorem ok_plan {f : Addr} {fd : FuncData} (F : Fun K "is_plan" "is_plan" s_is_plan f fd) (T : Txt K mg) (C_is_tuple : CallOk P w K mg base "is_tuple" 1 ["thing","least","most"] spTup) (C_are_lanes : CallOk P w K mg base "are_lanes" 5 ["thing"] (sp1 ts lanesD)) (C_are_kinds : CallOk P w K mg base "are_kinds" 7 ["thing","lane_count"] (sp2 ts kindsD)) :
  FnOk P w K mg base CX0 8 f fd ["thing"] (sp1 ts planD):=by
 refine F.ok sc_is_plan (fun vs H Q E h=>?_) (fun cdv A outer s H vs Q E hr h=>?_)
 ·obtain ⟨d,v,rfl,_⟩:=h
  rfl
 obtain ⟨d,v,rfl,hd,hz,tb,q⟩:=h
 refine' ⟨_,?hh,?rr⟩
 case hh=>(refine' pss_cons ?hD ?hE;(case hD=>refine' ps_if ?hi ?hj pss_nil;(case hi=>refine' pt_not ?hg;(case hg=>refine' pt_val ?hf;(case hf=>refine' pe_cl C_is_tuple hr ?hd rfl ?he;(case hd=>refine' pa_c (pv 0) ?hc;(case hc=>refine' pa_c pe_int ?hb;(case hb=>refine' pa_c pe_int pa_nil)));(case he=>decide))));(case hj=>refine' pss_one ?hh;(case hh=>refine' ps_ret pe_bl)));(case hE=>refine' pss_cons ?hB ?hC;(case hB=>refine' ps_asg (pv 0) ?ho;(case ho=>refine' pg_tup rfl ?hn;(case hn=>refine' pgs_cons ?hl ?hm;(case hl=>refine' pg_name sc_is_plan.nd (ixAt 1) (Or.inl rfl) (Or.inl rfl));(case hm=>refine' pgs_cons ?hk pgs_nil;(case hk=>refine' pg_name sc_is_plan.nd (ixAt 2) (Or.inl rfl) (Or.inl rfl))))));(case hC=>refine' pss_one ?hA;(case hA=>refine' ps_ret ?hz;(case hz=>refine' pe_and ?hx ?hy;(case hx=>refine' pe_cl C_are_lanes hr ?hp rfl ?hq;(case hp=>refine' pa_c (pv 1) pa_nil);(case hq=>decide));(case hy=>refine' pe_one ?hw;(case hw=>refine' pe_cl C_are_kinds hr ?hu rfl ?hv;(case hu=>refine' pa_c (pv 2) ?ht;(case ht=>refine' pa_c ?hs pa_nil;(case hs=>refine' pe_callB call_len_seq rfl T.b_len PySem.boot_len ?hr;(case hr=>refine' pa_c (pv 1) pa_nil))));(case hv=>decide))))))))
 refine ⟨_,rfl,d,v,2,2,rfl,hd,_,rfl,?_⟩
 have q' : ∀ b H1,planD d = b->Ext [] H H1->Q (.bl b) H1:=fun b H1 e e1=>by rw [<- e];exact q H1 e1
 cases c : tupD d 2 2 with
 | false =>
  refine iteT (q' false H ?_ Ext.refl)
  cases d with
  | tuple ds =>
   have c' : ¬ (decide ((2 : Int) <= (ds.length : Int)) && decide ((ds.length : Int) <= 2)) = true:=Bool.eq_false_iff.mp c
   match ds,c' with
   | [_,_],c'=>exact absurd rfl c'
   | [],_=>rfl
   | [_],_=>rfl
   | _ :: _ :: _ :: _,_=>rfl
  | _=>rfl
 | true =>
  refine iteF ?_
  obtain ⟨l,k,rfl⟩ : ∃ n b,d = .tuple [n,b]:=by
   cases d with
   | tuple ds =>
    have c':=tup_len c
    match ds,c' with
    | [n,b],_=>exact ⟨n,b,rfl⟩
    | [],c'=>simp at c'
    | [_],c'=>simp at c'
    | _ :: _ :: _ :: r,c'=>simp at c';omega
   | _=>cases c
  obtain ⟨a,us,rfl,_,ha,v1,r1,rfl,d1,v2,r2,rfl,d2,rfl⟩:=hd
  have s1 : smallD l = true:=smallDs_mem hz (by simp)
  have s2 : smallD k = true:=smallDs_mem hz (by simp)
  have ek : planD (.tuple [l,k]) = (lanesD l && kindsD k (lenD l)):=rfl
  refine ⟨_,rfl,a,_,rfl,SqT.of ha,rfl,v1,_,rfl,v2,_,rfl,rfl,?_⟩
  refine ⟨_,rfl,l,v1,rfl,d1,s1,tb,fun H1 e1=>⟨_,rfl,?_⟩⟩
  refine ite2 (fun c1=>?_) (fun c1=>?_)
  ·cases l with
   | tuple ws =>
    obtain ⟨b,xs,rfl,_,hb,hws⟩:=IsD.ext e1 d1
    refine ⟨_,rfl,_,rfl,b,xs,rfl,.inr (SqT.of hb),k,v2,_,rfl,IsD.ext e1 d2,s2,e1.tb tb (by simp),fun H3 e3=>?_⟩
    refine q' _ H3 ?_ (e1.trans e3)
    rw [ek,c1,Bool.true_and,hws.length]
    rfl
   | _=>cases c1
  ·refine q' _ H1 ?_ e1
   rw [ek,Bool.eq_false_iff.mpr c1,Bool.false_and]
end
end K02
end

section
set_option Elab.async false
set_option linter.all false
set_option maxRecDepth 100000
set_option maxHeartbeats 1000000
namespace K02
open PySem L2 PyProof.Rows
def spTake : Sp:=fun vs H Q _=>∃ (z : Zn) (m : Int),vs = [.ref z.p,.int m]/\Cz z H/\0 < m/\m < 1073741824/\∀ (i : Int) (H' : Hp),0 <= i->i < m->Stp z H H'->Q (.int i) H'
def spDigits (K : PySem.W.Frag) : Sp:=fun vs H Q _=>∃ (a : Addr) (ns : List Int) (k : Int),vs = [.ref a,.int k]/\SqL K H a (ns.map V.int)/\ns.length <= 63/\0 <= k/\k <= 1000/\∀ (p : Addr) (n : Int),H p = none->Q (.ref p) (upd H p (.lst [.int n]))
def spBound : Sp:=fun vs H Q _=>∃ z : Zn,vs = [.ref z.p]/\Cz z H/\∀ (i : Int) (H' : Hp),1 <= i->i <= 99->Stp z H H'->Q (.int i) H'
def spWords : Sp:=fun vs H Q _=>∃ z : Zn,vs = [.ref z.p,.int 12]/\Cz z H/\∀ (ns : List Str) (v : V) (H' : Hp),ns.length = 12->ns.Nodup->(∀ x ∈ ns,nm x = true)->Stp z H H'->IsD z.ex H' (.list (ns.map .str)) v->Q v H'
theorem line {n : Nat} (h : n <= 1000) : n <= sizeLine:=Nat.le_trans h size1000
theorem atI_in {α : Type} {xs : List α} {i : Int} (h0 : 0 <= i) (h1 : i < (xs.length : Int)) : ∃ v,atI xs i = some v/\v ∈ xs:=by
 have hk : i.toNat < xs.length:=by omega
 exact ⟨xs[i.toNat],atI_pos h0 (List.getElem?_eq_getElem hk),List.getElem_mem hk⟩
theorem get_in {α : Type} {xs : List α} {i : Int} (h0 : 0 <= i) (h1 : i < (xs.length : Int)) : ∃ v,xs[i.toNat]? = some v/\v ∈ xs:=by
 have hk : i.toNat < xs.length:=by omega
 exact ⟨xs[i.toNat],List.getElem?_eq_getElem hk,List.getElem_mem hk⟩
def azl : List Nat:=List.range' 97 26
theorem az_tx : ("abcdefghijklmnopqrstuvwxyz" : Str) = tx azl:=by decide +kernel
theorem am_in : ∀ c ∈ (("abcdefghijklm" : Str)).cps.toList,97 <= c/\c <= 109:=by decide +kernel
theorem az_in : ∀ c ∈ azl,97 <= c/\c <= 122:=by decide +kernel
theorem az_turned : ∀ k,k < 26->(azl.drop k ++ azl.take k).Nodup:=by decide +kernel
theorem inL_az : ∀ c ∈ azl,inL (tx [c]) = true:=by decide +kernel
theorem mem_az {c : Nat} (h : 97 <= c/\c <= 122) : c ∈ azl:=by
 unfold azl
 rw [List.mem_range']
 exact ⟨c - 97,by omega,by omega⟩
theorem sgn_tx (l : List Nat) : sgn (tx l) = l.map fun c=>tx [c]:=by
 unfold sgn tx
 simp
theorem sgV_tx (l : List Nat) : sgV (tx l) = l.map fun c=>V.str (tx [c]):=by
 unfold sgV tx
 simp
theorem out_tx : ("out" : Str) = tx [111,117,116]:=by decide +kernel
theorem yard_tx : ("yard" : Str) = tx [121,97,114,100]:=by decide +kernel
theorem name_ok {A B : List Nat} {c : Nat} (hl : A.length + B.length <= 7) (ha : ∀ x ∈ A,97 <= x/\x <= 109) (hb : ∀ x ∈ B,97 <= x/\x <= 109) (hc : 97 <= c/\c <= 122) : nm (tx (A ++ c :: B)) = true:=by
 unfold nm
 have n1 : ¬ tx [111,117,116] = tx (A ++ c :: B):=fun h=>by
  have h:=tx_inj h
  match A,ha,h with
  | [],_,h =>
   injection h with _ h
   have:=hb 117 (by rw [<- h];simp)
   omega
  | a :: _,ha,h =>
   injection h with h _
   have:=ha a (by simp)
   omega
 have n2 : ¬ tx [121,97,114,100] = tx (A ++ c :: B):=fun h=>by
  have h:=tx_inj h
  match A,ha,h with
  | [],_,h =>
   injection h with _ h
   have:=hb 114 (by rw [<- h];simp)
   omega
  | a :: _,ha,h =>
   injection h with h _
   have:=ha a (by simp)
   omega
 rw [out_tx,yard_tx,if_neg (by simp [n1,n2])]
 have e : (tx (A ++ c :: B)).length = A.length + (B.length + 1):=by rw [tx_len,List.length_append,List.length_cons]
 rw [e,decide_eq_true (by omega),decide_eq_true (by omega),Bool.true_and,Bool.true_and,sgn_tx,List.all_eq_true]
 intro s hs
 obtain ⟨x,hx,rfl⟩:=List.mem_map.mp hs
 refine inL_az x (mem_az ?_)
 rcases List.mem_append.mp hx with h | h
 ·have:=ha x h;omega
 ·rcases List.mem_cons.mp h with rfl | h
  ·exact hc
  ·have:=hb x h;omega
def namesOf (A B S : List Nat) : List Str:=S.map fun c=>tx (A ++ c :: B)
theorem names_nodup {A B S : List Nat} (h : S.Nodup) : (namesOf A B S).Nodup:=by
 unfold namesOf List.Nodup
 rw [List.pairwise_map]
 refine List.Pairwise.imp (fun {a b} hne e=>hne ?_) h
 have e2:=List.append_cancel_left (tx_inj e)
 injection e2
section
variable {P : Program} {w : World} {K : PySem.W.Frag} {mg : Str->Option Value} {base : Heap}
abbrev s__law_take : Stmt:=top 30
theorem sc__law_take : FnScope ["_law_held","_law_many","_law_found"] ["_law_held","_law_many"] (defScope s__law_take):=⟨rfl,rfl,rfl,by decide +kernel,rfl,by decide +kernel,by decide +kernel⟩
theorem ok_take {f : Addr} {fd : FuncData} (F : Fun K "_law_take" "_law_take" s__law_take f fd) : FnOk P w K mg base CX0 1 f fd ["_law_held","_law_many"] spTake:=by
 refine F.ok sc__law_take (fun vs H Q E h=>?_) (fun cdv A outer s H vs Q E hr h=>?_)
 ·obtain ⟨z,m,rfl,_⟩:=h
  rfl
 obtain ⟨z,m,rfl,c,h0,h1,q⟩:=h
 obtain ⟨n,hp⟩:=c.held
 refine' ⟨_,?hh,?rr⟩
 case hh=>(refine' pss_cons ?hj ?hk;(case hj=>refine' ps_set sc__law_take.nd (ixAt 2) (Or.inl rfl) ?hc;(case hc=>refine' pe_op op_mod ?hb (pv 1);(case hb=>refine' pe_ix ix_list (pv 0) pe_int (fun _ _=>rfl))));(case hk=>refine' pss_cons ?hh ?hi;(case hh=>refine' ps_asg ?he ?hf;(case he=>refine' pe_op op_fdiv ?hd (pv 1);(case hd=>refine' pe_ix ix_list (pv 0) pe_int (fun _ _=>rfl)));(case hf=>refine' pg_sub (pv 0) pe_int set_list));(case hi=>refine' pss_one ?hg;(case hg=>refine' ps_ret (pv 2)))))
 refine ⟨_,rfl,z.p,_,_,_,rfl,rfl,SqL.of hp,rfl,_,rfl,_,_,rfl,rfl,h0,?_⟩
 refine ⟨_,rfl,z.p,_,_,_,rfl,rfl,SqL.of hp,rfl,_,rfl,_,_,rfl,rfl,⟨h0,h1⟩,?_⟩
 refine ⟨_,rfl,z.p,_,_,_,rfl,rfl,hp,rfl,?_⟩
 exact ⟨_,rfl,q _ _ (Int.emod_nonneg _ (by omega)) (Int.emod_lt_of_pos _ h0) ⟨Ext.put (by simp) _,c.extp (Ext.put (by simp) _) ⟨_,upd_same⟩⟩⟩
abbrev s__law_digits : Stmt:=top 29
theorem sc__law_digits : FnScope ["_law_script","_law_k","_law_cell","_law_total","_law_number","_law_turn"] ["_law_script","_law_k"] (defScope s__law_digits):=⟨rfl,rfl,rfl,by decide +kernel,rfl,by decide +kernel,by decide +kernel⟩
theorem ok_digits {f : Addr} {fd : FuncData} (F : Fun K "_law_digits" "_law_digits" s__law_digits f fd) (T : Txt K mg) : FnOk P w K mg base CX0 1 f fd ["_law_script","_law_k"] (spDigits K):=by
 refine F.ok sc__law_digits (fun vs H Q E h=>?_) (fun cdv A outer s H vs Q E hr h=>?_)
 ·obtain ⟨a,ns,k,rfl,_⟩:=h
  rfl
 obtain ⟨a,ns,k,rfl,hS,h63,h0,h1,q⟩:=h
 refine' ⟨_,?hh,?rr⟩
 case hh=>(refine' pss_cons ?hU ?hV;(case hU=>refine' ps_set sc__law_digits.nd (ixAt 2) (Or.inl rfl) ?hf;(case hf=>refine' pe_ifExp ?hd ?he pe_int;(case hd=>refine' pt_cmpR op_lt (pv 1) ?hc (nomark _);(case hc=>refine' pe_callB call_len_seq rfl T.b_len PySem.boot_len ?hb;(case hb=>refine' pa_c (pv 0) pa_nil)));(case he=>refine' pe_ix ix_list (pv 0) (pv 1) (fun _ _=>rfl))));(case hV=>refine' pss_cons ?hS ?hT;(case hS=>refine' ps_if ?hm ?hn pss_nil;(case hm=>refine' pt_cmpR op_ge (pv 2) ?hg (nomark _);(case hg=>refine' pe_op op_pow pe_int pe_int));(case hn=>refine' pss_one ?hl;(case hl=>refine' ps_ret ?hk;(case hk=>refine' pe_lst ?hj;(case hj=>refine' pa_c ?hi pa_nil;(case hi=>refine' pe_op op_sub (pv 2) ?hh;(case hh=>refine' pe_op op_pow pe_int pe_int)))))));(case hT=>refine' pss_cons ?hQ ?hR;(case hQ=>refine' ps_set sc__law_digits.nd (ixAt 3) (Or.inl rfl) pe_int);(case hR=>refine' pss_cons ?hO ?hP;(case hO=>refine' ps_set sc__law_digits.nd (ixAt 4) (Or.inl rfl) ?hs;(case hs=>refine' pe_op op_mod ?hr pe_int;(case hr=>refine' pe_op op_add ?hq pe_int;(case hq=>refine' pe_op op_add ?ho ?hp;(case ho=>refine' pe_op op_mul (pv 2) pe_int);(case hp=>refine' pe_op op_mul pe_int (pv 1))))));(case hP=>refine' pss_cons ?hM ?hN;(case hM=>refine' ps_for PassesOwn.never rfl ?hG ?hH ?hI;(case hG=>refine' pi_range1 rfl T.b_range ?ht;(case ht=>refine' pa_c pe_int pa_nil));(case hH=>refine' pg_name sc__law_digits.nd (ixAt 5) (Or.inl rfl) (Or.inl rfl));(case hI=>refine' pss_cons ?hE ?hF;(case hE=>refine' ps_set sc__law_digits.nd (ixAt 4) (Or.inl rfl) ?hy;(case hy=>refine' pe_op op_mod ?hx pe_int;(case hx=>refine' pe_op op_add ?hw (pv 5);(case hw=>refine' pe_op op_add ?hu ?hv;(case hu=>refine' pe_op op_mul (pv 4) (pv 4));(case hv=>refine' pe_op op_mul pe_int (pv 4))))));(case hF=>refine' pss_one ?hD;(case hD=>refine' ps_set sc__law_digits.nd (ixAt 3) (Or.inl rfl) ?hC;(case hC=>refine' pe_op op_add ?hA ?hB;(case hA=>refine' pe_op op_mul (pv 3) pe_int);(case hB=>refine' pe_op op_mod ?hz pe_int;(case hz=>refine' pe_op op_mul (pv 4) pe_int)))))));(case hN=>refine' pss_one ?hL;(case hL=>refine' ps_ret ?hK;(case hK=>refine' pe_lst ?hJ;(case hJ=>refine' pa_c (pv 3) pa_nil)))))))))
 have hl : (ns.map V.int).length = ns.length:=List.length_map _
 have d1 : CPow 10 18:=⟨by decide,by decide,by decide⟩
 have one : ∀ x : V,([x] : List V).length <= sizeLine:=fun x=>by show 1 <= sizeLine;decide
 refine ⟨_,rfl,_,rfl,a,_,rfl,.inl hS,_,_,rfl,rfl,_,rfl,?_⟩
 refine ite2 (fun c=>?_) (fun c=>?_)
 ·have c' : k < (((ns.map V.int).length : Nat) : Int):=of_decide_eq_true c
  rw [hl] at c'
  have hk : k.toNat < ns.length:=by omega
  have hv : atI (ns.map V.int) k = some (.int ns[k.toNat]):=atI_pos h0 (by rw [List.getElem?_map,List.getElem?_eq_getElem hk] <;> rfl)
  refine ⟨_,rfl,_,rfl,a,_,_,_,rfl,rfl,hS,hv,?_⟩
  refine ⟨_,rfl,_,_,rfl,rfl,d1,_,_,rfl,rfl,_,rfl,?_⟩
  refine ite2 (fun c1=>?_) (fun c1=>?_)
  ·exact ⟨_,rfl,_,_,rfl,rfl,d1,_,_,rfl,rfl,one _,fun p hp=>q p _ hp⟩
  ·refine ⟨_,rfl,_,_,rfl,rfl,.inr ⟨by decide,by decide⟩,_,rfl,_,_,rfl,rfl,.inl ⟨by decide,by decide⟩,_,_,rfl,rfl,_,_,rfl,rfl,_,_,rfl,rfl,(by show (0 : Int) < 2147483647;decide),?_⟩
   refine ⟨12,rfl,by decide,by decide,for_range (n:=12) (fun i σ H2=>∃ (c : Option V) (total number : Int) (t : Option V),σ = [some (V.ref a),some (V.int k),c,some (V.int total),some (V.int number),t]/\H2 = H/\0 <= number/\number < 2147483648)
    ⟨_,_,_,_,rfl,rfl,Int.emod_nonneg _ (by decide),Int.lt_trans (Int.emod_lt_of_pos _ (by decide)) (by decide)⟩ ?_ ?_⟩
   ·rintro i σ H2 hi ⟨c,total,number,t,rfl,rfl,n0,n1⟩
    refine ⟨_,rfl,_,rfl,_,_,rfl,rfl,.inl ⟨by omega,by omega⟩,_,rfl,_,_,rfl,rfl,.inl ⟨by decide,by decide⟩,_,_,rfl,rfl,_,rfl,_,_,rfl,rfl,_,_,rfl,rfl,(by show (0 : Int) < 2147483629;decide),?_⟩
    refine ⟨_,rfl,_,_,rfl,rfl,.inr ⟨by decide,by decide⟩,_,rfl,_,_,rfl,rfl,.inr ⟨by decide,by decide⟩,_,_,rfl,rfl,(by show (0 : Int) < 2147483587;decide),_,_,rfl,rfl,?_⟩
    exact ⟨_,_,_,_,rfl,rfl,Int.emod_nonneg _ (by decide),Int.lt_trans (Int.emod_lt_of_pos _ (by decide)) (by decide)⟩
   ·rintro σ H2 ⟨c,total,number,t,rfl,rfl,_,_⟩
    exact ⟨_,rfl,one _,fun p hp=>q p _ hp⟩
 ·skip
  refine ⟨_,rfl,_,_,rfl,rfl,d1,_,_,rfl,rfl,_,rfl,?_⟩
  refine ite2 (fun c1=>?_) (fun c1=>?_)
  ·exact ⟨_,rfl,_,_,rfl,rfl,d1,_,_,rfl,rfl,one _,fun p hp=>q p _ hp⟩
  ·refine ⟨_,rfl,_,_,rfl,rfl,.inr ⟨by decide,by decide⟩,_,rfl,_,_,rfl,rfl,.inl ⟨by decide,by decide⟩,_,_,rfl,rfl,_,_,rfl,rfl,_,_,rfl,rfl,(by show (0 : Int) < 2147483647;decide),?_⟩
   refine ⟨12,rfl,by decide,by decide,for_range (n:=12) (fun i σ H2=>∃ (c : Option V) (total number : Int) (t : Option V),σ = [some (V.ref a),some (V.int k),c,some (V.int total),some (V.int number),t]/\H2 = H/\0 <= number/\number < 2147483648)
    ⟨_,_,_,_,rfl,rfl,Int.emod_nonneg _ (by decide),Int.lt_trans (Int.emod_lt_of_pos _ (by decide)) (by decide)⟩ ?_ ?_⟩
   ·rintro i σ H2 hi ⟨c,total,number,t,rfl,rfl,n0,n1⟩
    refine ⟨_,rfl,_,rfl,_,_,rfl,rfl,.inl ⟨by omega,by omega⟩,_,rfl,_,_,rfl,rfl,.inl ⟨by decide,by decide⟩,_,_,rfl,rfl,_,rfl,_,_,rfl,rfl,_,_,rfl,rfl,(by show (0 : Int) < 2147483629;decide),?_⟩
    refine ⟨_,rfl,_,_,rfl,rfl,.inr ⟨by decide,by decide⟩,_,rfl,_,_,rfl,rfl,.inr ⟨by decide,by decide⟩,_,_,rfl,rfl,(by show (0 : Int) < 2147483587;decide),_,_,rfl,rfl,?_⟩
    exact ⟨_,_,_,_,rfl,rfl,Int.emod_nonneg _ (by decide),Int.lt_trans (Int.emod_lt_of_pos _ (by decide)) (by decide)⟩
   ·rintro σ H2 ⟨c,total,number,t,rfl,rfl,_,_⟩
    exact ⟨_,rfl,one _,fun p hp=>q p _ hp⟩
abbrev s__law_bound : Stmt:=top 32
theorem sc__law_bound : FnScope ["_law_held"] ["_law_held"] (defScope s__law_bound):=⟨rfl,rfl,rfl,by decide +kernel,rfl,by decide +kernel,by decide +kernel⟩
theorem ok_lbound {f : Addr} {fd : FuncData} (F : Fun K "_law_bound" "_law_bound" s__law_bound f fd) (C__law_take : CallOk P w K mg base "_law_take" 1 ["_law_held","_law_many"] spTake) : FnOk P w K mg base CX0 2 f fd ["_law_held"] spBound:=by
 refine F.ok sc__law_bound (fun vs H Q E h=>?_) (fun cdv A outer s H vs Q E hr h=>?_)
 ·obtain ⟨z,rfl,_⟩:=h
  rfl
 obtain ⟨z,rfl,c,q⟩:=h
 refine' ⟨_,?hh,?rr⟩
 case hh=>(refine' pss_one ?hu;(case hu=>refine' ps_ret ?ht;(case ht=>refine' pe_ix ix_D ?hr ?hs (fun _ _=>rfl);(case hr=>refine' pe_lstD ?hn;(case hn=>refine' pa_c pe_int ?hm;(case hm=>refine' pa_c pe_int ?hl;(case hl=>refine' pa_c pe_int ?hk;(case hk=>refine' pa_c pe_int ?hj;(case hj=>refine' pa_c pe_int ?hi;(case hi=>refine' pa_c pe_int ?hh;(case hh=>refine' pa_c pe_int ?hg;(case hg=>refine' pa_c ?hf pa_nil;(case hf=>refine' pe_op op_add pe_int ?he;(case he=>refine' pe_cl C__law_take hr ?hc rfl ?hd;(case hc=>refine' pa_c (pv 0) ?hb;(case hb=>refine' pa_c pe_int pa_nil));(case hd=>decide))))))))))));(case hs=>refine' pe_cl C__law_take hr ?hp rfl ?hq;(case hp=>refine' pa_c (pv 0) ?ho;(case ho=>refine' pa_c pe_int pa_nil));(case hq=>decide)))))
 refine ⟨_,rfl,z,99,rfl,c,by decide,by decide,fun i H1 i0 i1 s1=>?_⟩
 refine ⟨_,_,rfl,rfl,z,[.int 1,.int 1,.int 2,.int 2,.int 3,.int 5,.int 99,.int (1 + i)],⟨_,_,rfl,rfl,_,_,rfl,rfl,_,_,rfl,rfl,_,_,rfl,rfl,_,_,rfl,rfl,_,_,rfl,rfl,_,_,rfl,rfl,_,_,rfl,rfl,rfl⟩,(by show 8 <= 1000;decide),s1.cz,fun v H2 s2 f2=>?_⟩
 refine ⟨_,rfl,z,8,rfl,s2.cz,by decide,by decide,fun k H3 k0 k1 s3=>?_⟩
 obtain ⟨d,hd,md⟩:=get_in (xs:=[PyData.int 1,.int 1,.int 2,.int 2,.int 3,.int 5,.int 99,.int (1 + i)]) k0 (by show k < 8;exact k1)
 refine ⟨z,_,k,d,.inr (f2.stp s3),rfl,k0,hd,fun v fv=>?_⟩
 obtain ⟨j,rfl,j1,j2⟩ : ∃ j : Int,d = .int j/\1 <= j/\j <= 99:=by
  simp only [List.mem_cons,List.not_mem_nil,or_false] at md
  rcases md with rfl | rfl | rfl | rfl | rfl | rfl | rfl | rfl <;> exact ⟨_,rfl,by omega,by omega⟩
 obtain rfl : v = .int j:=fv
 exact q j H3 j1 j2 ((s1.trans s2).trans s3)
abbrev s__law_words : Stmt:=top 31
theorem sc__law_words : FnScope ["_law_held","_law_many","_law_letters","_law_word","_law_at","_law_start","_law_signs","_law_ahead","_law_behind","_law_turned","_law_found"] ["_law_held","_law_many"] (defScope s__law_words):=⟨rfl,rfl,rfl,by decide +kernel,rfl,by decide +kernel,by decide +kernel⟩
theorem ok_words {f : Addr} {fd : FuncData} (F : Fun K "_law_words" "_law_words" s__law_words f fd) (T : Txt K mg) (C__law_take : CallOk P w K mg base "_law_take" 1 ["_law_held","_law_many"] spTake) : FnOk P w K mg base CX0 2 f fd ["_law_held","_law_many"] spWords:=by
 refine F.ok sc__law_words (fun vs H Q E h=>?_) (fun cdv A outer s H vs Q E hr h=>?_)
 ·obtain ⟨z,rfl,_⟩:=h
  rfl
 obtain ⟨z,rfl,c,q⟩:=h
 refine' ⟨_,?hh,?rr⟩
 case hh=>(refine' pss_cons ?hFb ?hGb;(case hFb=>refine' ps_set sc__law_words.nd (ixAt 2) (Or.inr rfl) pe_str);(case hGb=>refine' pss_cons ?hDb ?hEb;(case hDb=>refine' ps_set sc__law_words.nd (ixAt 3) (Or.inl rfl) ?hw;(case hw=>refine' pe_bm PySem.F.plainAttrs_str PySem.F.slot_str_join PySem.F.type_str_join mt_join pe_str ?hv;(case hv=>refine' pa_c ?hu pa_nil;(case hu=>refine' pe_lcomp rfl ?hm (compN ["_law_k","_law_held","_law_letters"] 1 [0,2]) ?hn ?ho ?hp ?hq ?hr ?hs ?ht;(case hm=>exact ⟨rfl,by decide +kernel,by decide +kernel,(show ∀ y : Str × NameKind,y ∈ _->y.2 = NameKind.free->(defScope s__law_words).names.lookup y.1 = some .cell\/(defScope s__law_words).names.lookup y.1 = some .free from by decide +kernel)⟩);(case hn=>decide +kernel);(case ho=>decide);(case hp=>refine' pi_range1 rfl T.b_range ?hg;(case hg=>refine' pa_c ?hf pa_nil;(case hf=>refine' pe_op op_add pe_int ?he;(case he=>refine' pe_cl C__law_take hr ?hc rfl ?hd;(case hc=>refine' pa_c (pv 0) ?hb;(case hb=>refine' pa_c pe_int pa_nil));(case hd=>decide)))));(case hq=>intro _ _ _ _;refine' pg_name ?hh (ixAt 0) (Or.inl rfl) (Or.inr rfl);(case hh=>exact (show (["_law_k","_law_held","_law_letters"] : List Str).Nodup from by decide +kernel)));(case hr=>exact (gown_name (by decide)));(case hs=>intro _ _ _ _;exact pts_nil);(case ht=>intro _ _ _ _;refine' pe_ix ix_str (pv 2) ?hl (fun _ _=>rfl);(case hl=>refine' pe_cl C__law_take hr ?hj rfl ?hk;(case hj=>refine' pa_c (pv 1) ?hi;(case hi=>refine' pa_c pe_int pa_nil));(case hk=>decide)))))));(case hEb=>refine' pss_cons ?hBb ?hCb;(case hBb=>refine' ps_set sc__law_words.nd (ixAt 4) (Or.inl rfl) ?hC;(case hC=>refine' pe_cl C__law_take hr ?hA rfl ?hB;(case hA=>refine' pa_c (pv 0) ?hz;(case hz=>refine' pa_c ?hy pa_nil;(case hy=>refine' pe_callB call_len_str rfl T.b_len PySem.boot_len ?hx;(case hx=>refine' pa_c (pv 3) pa_nil))));(case hB=>decide)));(case hCb=>refine' pss_cons ?hzb ?hAb;(case hzb=>refine' ps_set sc__law_words.nd (ixAt 5) (Or.inl rfl) ?hG;(case hG=>refine' pe_cl C__law_take hr ?hE rfl ?hF;(case hE=>refine' pa_c (pv 0) ?hD;(case hD=>refine' pa_c pe_int pa_nil));(case hF=>decide)));(case hAb=>refine' pss_cons ?hxb ?hyb;(case hxb=>refine' ps_set sc__law_words.nd (ixAt 6) (Or.inl rfl) pe_str);(case hyb=>refine' pss_cons ?hvb ?hwb;(case hvb=>refine' ps_set sc__law_words.nd (ixAt 7) (Or.inr rfl) ?hI;(case hI=>refine' pe_slice sl_str (pv 3) po_none ?hH;(case hH=>refine' po_some (pv 4))));(case hwb=>refine' pss_cons ?htb ?hub;(case htb=>refine' ps_set sc__law_words.nd (ixAt 8) (Or.inr rfl) ?hL;(case hL=>refine' pe_slice sl_str (pv 3) ?hK po_none;(case hK=>refine' po_some ?hJ;(case hJ=>refine' pe_op op_add (pv 4) pe_int))));(case hub=>refine' pss_cons ?hrb ?hsb;(case hrb=>refine' ps_set sc__law_words.nd (ixAt 9) (Or.inl rfl) ?hQ;(case hQ=>refine' pe_op op_add_str ?hO ?hP;(case hO=>refine' pe_slice sl_str (pv 6) ?hM po_none;(case hM=>refine' po_some (pv 5)));(case hP=>refine' pe_slice sl_str (pv 6) po_none ?hN;(case hN=>refine' po_some (pv 5)))));(case hsb=>refine' pss_cons ?hpb ?hqb;(case hpb=>refine' ps_setC sc__law_words.nd (ixAt 10) (Or.inl rfl) rfl ?hT (compN ["_law_sign","_law_ahead","_law_behind"] 1 [7,8]) ?hU ?hV ?hW ?hX ?hY ?hZ ?hab;(case hT=>exact ⟨rfl,by decide +kernel,by decide +kernel,(show ∀ y : Str × NameKind,y ∈ _->y.2 = NameKind.free->(defScope s__law_words).names.lookup y.1 = some .cell\/(defScope s__law_words).names.lookup y.1 = some .free from by decide +kernel)⟩);(case hU=>decide +kernel);(case hV=>decide);(case hW=>refine' pi_str (pv 9));(case hX=>intro _ _ _ _;refine' pg_name ?hR (ixAt 0) (Or.inl rfl) (Or.inr rfl);(case hR=>exact (show (["_law_sign","_law_ahead","_law_behind"] : List Str).Nodup from by decide +kernel)));(case hY=>exact (gown_name (by decide)));(case hZ=>intro _ _ _ _;exact pts_nil);(case hab=>intro _ _ _ _;refine' pe_op op_add_str ?hS (pv 2);(case hS=>refine' pe_op op_add_str (pv 1) (pv 0))));(case hqb=>refine' pss_one ?hob;(case hob=>refine' ps_ret ?hnb;(case hnb=>refine' pe_slice sl_listD ?hlb po_none ?hmb;(case hlb=>refine' pe_op op_catLD (pv 10) ?hkb;(case hkb=>refine' pe_lcomp rfl ?hcb (compN ["_law_one"] 1 []) ?hdb ?heb ?hfb ?hgb ?hhb ?hib ?hjb;(case hcb=>exact ⟨rfl,by decide +kernel,by decide +kernel,(show ∀ y : Str × NameKind,y ∈ _->y.2 = NameKind.free->(defScope s__law_words).names.lookup y.1 = some .cell\/(defScope s__law_words).names.lookup y.1 = some .free from by decide +kernel)⟩);(case hdb=>decide +kernel);(case heb=>decide);(case hfb=>refine' pi_list (pv 10));(case hgb=>intro _ _ _ _;refine' pg_name ?hbb (ixAt 0) (Or.inl rfl) (Or.inr rfl);(case hbb=>exact (show (["_law_one"] : List Str).Nodup from by decide +kernel)));(case hhb=>exact (gown_name (by decide)));(case hib=>intro _ _ _ _;exact pts_nil);(case hjb=>intro _ _ _ _;refine' pe_op op_add_str (pv 0) pe_str)));(case hmb=>refine' po_some (pv 1))))))))))))))
 refine ⟨rfl,_,rfl,z,7,rfl,c,by decide,by decide,fun m H1 m0 m1 s1=>?_⟩
 refine ⟨_,_,rfl,rfl,_,rfl,by omega,by omega,lcomp_by0 yields_range (fun i xs H3=>Stp z H H3/\∃ l : List Nat,xs = (l.map fun c=>tx [c]).map V.str/\l.length = i/\∀ c ∈ l,97 <= c/\c <= 109) ⟨s1,[],rfl,rfl,by simp⟩ (fun _ _ _ _=>trivial) ?_ ?_⟩
 ·rintro i x xs H3 hx hi ⟨s3,l,rfl,hl,hc⟩
  rw [List.length_map,List.length_range] at hi
  have hi' : i < 8:=by omega
  refine ⟨_,rfl,_,rfl,z,13,rfl,s3.cz,by decide,by decide,fun k H4 k0 k1 s4=>?_⟩
  obtain ⟨c1,hc1,mc1⟩:=atI_in (xs:=(("abcdefghijklm" : Str)).cps.toList) (i:=k) k0 (by
   have : ((("abcdefghijklm" : Str)).cps.toList.length : Int) = 13:=by decide +kernel
   rw [this]
   exact k1)
  refine ⟨_,_,c1,rfl,rfl,line (by decide +kernel),hc1,?_,nx (by rw [List.length_map,List.length_range];exact hi) ⟨s3.trans s4,l ++ [c1],?_,by simp [hl],?_⟩⟩
  ·rw [List.length_map,List.length_map,hl]
   exact small1000 (by omega)
  ·rw [List.map_append,List.map_append]
   rfl
  ·intro y hm
   rcases List.mem_append.mp hm with hm | hm
   ·exact hc y hm
   ·simp only [List.mem_cons,List.not_mem_nil,or_false] at hm
    subst hm
    exact am_in _ mc1
 ·rintro xs H3 ⟨s3,l,rfl,hl,hc⟩ a ha
  rw [List.length_map,List.length_range] at hl
  have hl1 : 1 <= l.length:=by omega
  have hl7 : l.length <= 7:=by omega
  have s4 : Stp z H (upd H3 a (.lst ((l.map fun c=>tx [c]).map V.str))):=s3.trans (Stp.of s3.cz (Ext.new ha _))
  refine ⟨_,a,_,rfl,rfl,SqL.of upd_same,(by rw [map_len1,List.length_map,show (("" : Str)).length = 0 by decide +kernel];omega),?_⟩
  generalize upd H3 a (.lst ((l.map fun c=>tx [c]).map V.str)) = H4 at s4 ⊢
  generalize hj : Txt.join ("" : Str) (l.map fun c=>tx [c]) = wd
  rw [tx_join] at hj
  subst hj
  have hw : (tx l).length <= sizeLine:=line (by rw [tx_len];omega)
  refine ⟨_,rfl,_,rfl,_,rfl,hw,z,_,rfl,s4.cz,(by rw [tx_len];omega),(by rw [tx_len];omega),fun k H5 k0 k1 s5=>?_⟩
  rw [tx_len] at k1
  refine ⟨_,rfl,z,26,rfl,s5.cz,by decide,by decide,fun st H6 st0 st1 s6=>?_⟩
  have s06:=(s4.trans s5).trans s6
  refine ⟨_,rfl,_,rfl,_,rfl,_,rfl,hw,?_⟩
  generalize ha' : Txt.slice (tx l) none (some k) = ahead
  rw [tx_slice_to k0 (by omega)] at ha'
  subst ha'
  refine ⟨_,rfl,_,rfl,_,_,rfl,rfl,_,rfl,_,rfl,hw,?_⟩
  generalize hb' : Txt.slice (tx l) (some (k + 1)) none = behind
  rw [tx_slice_from (by omega) (by omega)] at hb'
  subst hb'
  have hz26 : (("abcdefghijklmnopqrstuvwxyz" : Str)).length <= sizeLine:=line (by decide +kernel)
  refine ⟨_,rfl,_,rfl,_,rfl,_,rfl,hz26,_,rfl,_,rfl,_,rfl,_,rfl,hz26,_,_,rfl,rfl,?_,?_⟩
  ·have h1:=Txt.slice_le ("abcdefghijklmnopqrstuvwxyz" : Str) (some st) none
   have h2:=Txt.slice_le ("abcdefghijklmnopqrstuvwxyz" : Str) none (some st)
   have h3 : (("abcdefghijklmnopqrstuvwxyz" : Str)).length = 26:=by decide +kernel
   exact line (by omega)
  generalize ht : Txt.slice ("abcdefghijklmnopqrstuvwxyz" : Str) (some st) none ++ Txt.slice ("abcdefghijklmnopqrstuvwxyz" : Str) none (some st) = turned
  rw [az_tx,tx_slice_from st0 (by show st <= 26;omega),tx_slice_to st0 (by show st <= 26;omega),tx_append] at ht
  subst ht
  have nodup:=az_turned st.toNat (by omega)
  have inaz : ∀ c ∈ azl.drop st.toNat ++ azl.take st.toNat,97 <= c/\c <= 122:=fun c hc=>by
   rcases List.mem_append.mp hc with h | h
   ·exact az_in c (List.mem_of_mem_drop h)
   ·exact az_in c (List.mem_of_mem_take h)
  have hlen : (azl.drop st.toNat ++ azl.take st.toNat).length = 26:=by
   rw [List.length_append,List.length_drop,List.length_take,show azl.length = 26 by decide]
   omega
  have hA : ∀ x ∈ l.take k.toNat,97 <= x/\x <= 109:=fun x hx=>hc x (List.mem_of_mem_take hx)
  have hB : ∀ x ∈ l.drop (k + 1).toNat,97 <= x/\x <= 109:=fun x hx=>hc x (List.mem_of_mem_drop hx)
  have hAB : (l.take k.toNat).length + (l.drop (k + 1).toNat).length <= 6:=by
   rw [List.length_take,List.length_drop]
   omega
  generalize l.take k.toNat = A' at hA hAB ⊢
  generalize l.drop (k + 1).toNat = B' at hB hAB ⊢
  generalize azl.drop st.toNat ++ azl.take st.toNat = S at nodup inaz hlen ⊢
  refine ⟨_,rfl,_,rfl,lcomp_by0 yields_str (fun i xs H7=>H7 = H6/\xs = (namesOf A' B' (S.take i)).map V.str) ⟨rfl,rfl⟩ (fun _ _ _ _=>trivial) ?_ ?_⟩
  ·rintro i y xs H7 hy hi ⟨rfl,rfl⟩
   have hi2:=hi
   rw [sgV_tx] at hy
   rw [sgV_tx,List.length_map] at hi
   rw [List.getElem?_map,List.getElem?_eq_getElem hi] at hy
   obtain rfl:=Option.some.inj hy
   have l1 : ∀ c : Nat,(tx [c]).length = 1:=fun c=>tx_len _
   refine ⟨_,rfl,_,rfl,_,_,rfl,rfl,line (by rw [tx_len,l1];omega),_,rfl,_,_,rfl,rfl,line (by rw [Str.length_append,tx_len,l1,tx_len];omega),?_,nx hi2 ⟨rfl,?_⟩⟩
   ·rw [List.length_map]
    unfold namesOf
    rw [List.length_map,List.length_take]
    exact small1000 (by omega)
   ·rw [tx_append,tx_append,List.append_assoc]
    unfold namesOf
    rw [List.take_add_one,List.getElem?_eq_getElem hi,List.map_append,List.map_append]
    rfl
  ·rintro xs H7 ⟨rfl,rfl⟩ b hb
   have e7 : (sgV (tx S)).length = S.length:=by rw [sgV_tx,List.length_map]
   rw [e7,List.take_length]
   have e8 : Ext [] H7 (upd H7 b (.lst ((namesOf A' B' S).map V.str))):=Ext.new hb _
   have s8 : Stp z H7 (upd H7 b (.lst ((namesOf A' B' S).map V.str))):=Stp.of s06.cz e8
   have f8 : IsD z.ex (upd H7 b (.lst ((namesOf A' B' S).map V.str))) (.list ((namesOf A' B' S).map .str)) (.ref b):=⟨b,_,rfl,s06.cz.free hb,upd_same,IsDs.strs _⟩
   have hb8 : (upd H7 b (.lst ((namesOf A' B' S).map V.str))) b = some (.lst ((namesOf A' B' S).map V.str)):=upd_same
   generalize upd H7 b (.lst ((namesOf A' B' S).map V.str)) = H8 at s8 f8 hb8 ⊢
   have hnl : (namesOf A' B' S).length = 26:=by unfold namesOf;rw [List.length_map,hlen]
   have hnn : ∀ x ∈ namesOf A' B' S,x.length <= 8:=fun x hx=>by
    obtain ⟨y,_,rfl⟩:=List.mem_map.mp hx
    rw [tx_len,List.length_append,List.length_cons]
    omega
   have nd : (namesOf A' B' S).Nodup:=names_nodup nodup
   have nms : ∀ x ∈ namesOf A' B' S,nm x = true:=fun x hx=>by
    obtain ⟨y,hy,rfl⟩:=List.mem_map.mp hx
    exact name_ok (by omega) hA hB (inaz y hy)
   generalize namesOf A' B' S = names at hnl hnn nd nms f8 hb8 ⊢
   refine ⟨_,rfl,_,rfl,b,rfl,⟨_,SqL.of hb8⟩,lcomp_by0 (yields_list (ys:=names.map V.str)) (fun i xs H9=>H9 = H8/\xs = ((names.take i).map fun x=>x ++ ("z" : Str)).map V.str) ⟨rfl,rfl⟩ (fun _ _ _ h=>by rw [h.1];exact SqL.of hb8) ?_ ?_⟩
   ·rintro i y xs H9 hy hi ⟨rfl,rfl⟩
    have hi2:=hi
    rw [List.length_map] at hi
    rw [List.getElem?_map,List.getElem?_eq_getElem hi] at hy
    obtain rfl:=Option.some.inj hy
    have hx:=hnn _ (List.getElem_mem hi)
    refine ⟨_,rfl,_,_,rfl,rfl,line (by rw [show (("z" : Str)).length = 1 by decide +kernel];omega),?_,nx hi2 ⟨rfl,?_⟩⟩
    ·rw [List.length_map,List.length_map,List.length_take]
     exact small1000 (by omega)
    ·rw [List.take_add_one,List.getElem?_eq_getElem hi,List.map_append,List.map_append]
     rfl
   ·rintro xs H9 ⟨rfl,rfl⟩ b2 hb2
    rw [List.length_map,List.take_length]
    have s9 : Stp z H9 (upd H9 b2 (.lst ((names.map fun x=>x ++ ("z" : Str)).map V.str))):=Stp.of s8.cz (Ext.new hb2 _)
    have f9 : IsD z.ex (upd H9 b2 (.lst ((names.map fun x=>x ++ ("z" : Str)).map V.str))) (.list ((names.map fun x=>x ++ ("z" : Str)).map .str)) (.ref b2):=⟨b2,_,rfl,s8.cz.free hb2,upd_same,IsDs.strs _⟩
    generalize upd H9 b2 (.lst ((names.map fun x=>x ++ ("z" : Str)).map V.str)) = H10 at s9 f9 ⊢
    refine ⟨z,_,_,f8.stp s9,f9,(by simp [hnl]),s9.cz,fun v H11 s11 f11=>?_⟩
    refine ⟨_,rfl,_,rfl,z,_,f11,s11.cz,fun v2 H12 s12 f12=>?_⟩
    rw [cut_to (by decide),List.take_append_of_le_length (by rw [List.length_map,hnl];decide),<- List.map_take] at f12
    exact q _ v2 H12 (by rw [List.length_take,hnl];rfl) (nd.sublist (List.take_sublist _ _)) (fun x hx=>nms x (List.mem_of_mem_take hx)) ((((s06.trans s8).trans s9).trans s11).trans s12) f12
end
end K02
end

section
set_option Elab.async false
set_option linter.all false
set_option maxRecDepth 100000
set_option maxHeartbeats 1000000
namespace K02
open PySem PySem.Spec L2 PyProof.Rows
def spPlan : Sp:=fun vs H Q _=>∃ z : Zn,vs = [.ref z.p]/\Cz z H/\∀ (d : PyData) (v : V) (H' : Hp),planD d = true->Stp z H H'->IsD z.ex H' d v->Q v H'
theorem shaped_ints (w : List Int) : SeqAt.shaped (.list (w.map .int)) = true:=by
 have h1 : PyData.canLayAll0 (w.map .int) = true:=by
  induction w with
  | nil=>rfl
  | cons x r ih =>
   rw [List.map_cons]
   show (PyData.canLay0 (.int x) && PyData.canLayAll0 (r.map .int)) = true
   rw [ih]
   rfl
 have h2 : PyData.depthAll (w.map .int) = 0:=by
  induction w with
  | nil=>rfl
  | cons x r ih =>
   rw [List.map_cons]
   show max (PyData.depth (.int x)) (PyData.depthAll (r.map .int)) = 0
   rw [ih]
   ·rfl
   ·have h1' : (PyData.canLay0 (.int x) && PyData.canLayAll0 (r.map .int)) = true:=h1
    exact (Bool.and_eq_true_iff.mp h1').2
 show (PyData.canLayAll0 (w.map .int) && decide (PyData.depthAll (w.map .int) + 1 <= 64)) = true
 rw [h1,h2]
 rfl
theorem eqv_nil (w : List Int) : PyData.eqv (.list (w.map .int)) (.list []) = w.isEmpty:=by
 cases w <;> rfl
theorem way_ok {n : Int} : ∀ {w : List Int} {a : Int},w.Pairwise (· < ·)->(∀ x ∈ w,a < x/\x < n)->wayOk n a (w.map .int) = true
 | [],_,_,_=>rfl
 | x :: r,a,hp,hb=>by
  have h1:=hb x List.mem_cons_self
  rw [List.map_cons]
  show ((decide (a < x) && decide (x < n)) && wayOk n x (r.map .int)) = true
  rw [decide_eq_true h1.1,decide_eq_true h1.2,way_ok (w:=r) (a:=x) (List.pairwise_cons.mp hp).2 fun y hy=>⟨(List.pairwise_cons.mp hp).1 y hy,(hb y (List.mem_cons_of_mem _ hy)).2⟩]
  rfl
theorem bounds_ok {bs : List Int} (h : ∀ x ∈ bs,1 <= x/\x <= 99) : (bs.map PyData.int).all boundD = true:=by
 rw [List.all_eq_true]
 intro d hd
 obtain ⟨x,hx,rfl⟩:=List.mem_map.mp hd
 have:=h x hx
 show (decide _ && decide _) = true
 rw [decide_eq_true this.1,decide_eq_true this.2]
 rfl
theorem kind_ok {n : Nat} {x : Str} {w bs : List Int} (hx : nm x = true) (h0 : w ≠ []) (hn : w.length <= n) (hp : w.Pairwise (· < ·)) (hb : ∀ x ∈ w,0 <= x/\x < (n : Int)) (hl : bs.length = w.length) (hbb : ∀ x ∈ bs,1 <= x/\x <= 99) : kindD n (.tuple [.str x,.tuple (w.map .int),.tuple (bs.map .int)]) = true:=by
 have l0 : 1 <= w.length:=by cases w with | nil=>exact absurd rfl h0 | cons _ _=>simp
 show (nm x && ((tupD (.tuple (w.map .int)) 1 n && wayOk n (-1) (w.map .int)) && (tupD (.tuple (bs.map .int)) ((w.map PyData.int).length : Nat) ((w.map PyData.int).length : Nat) && (bs.map PyData.int).all boundD))) = true
 have t1 : tupD (.tuple (w.map .int)) 1 n = true:=by
  show (decide ((1 : Int) <= ((w.map PyData.int).length : Nat)) && decide ((((w.map PyData.int).length : Nat) : Int) <= n)) = true
  rw [List.length_map,decide_eq_true (by omega),decide_eq_true (by omega)]
  rfl
 have t2 : tupD (.tuple (bs.map .int)) ((w.map PyData.int).length : Nat) ((w.map PyData.int).length : Nat) = true:=by
  show (decide ((((w.map PyData.int).length : Nat) : Int) <= ((bs.map PyData.int).length : Nat)) && decide ((((bs.map PyData.int).length : Nat) : Int) <= ((w.map PyData.int).length : Nat))) = true
  rw [List.length_map,List.length_map,hl,decide_eq_true (by omega)]
  rfl
 rw [hx,t1,t2,way_ok hp (fun y hy=>⟨by have:=hb y hy;omega,(hb y hy).2⟩),bounds_ok hbb]
 rfl
theorem plan_ok {ls ks : List PyData} (l1 : 1 <= ls.length) (l6 : ls.length <= 6) (k1 : 1 <= ks.length) (k6 : ks.length <= 6) (hl : ∀ d ∈ ls,laneD d = true) (hk : ∀ d ∈ ks,kindD (ls.length : Nat) d = true) (nl : (ls.map firstD).Nodup) (nk : (ks.map firstD).Nodup) : planD (.tuple [.tuple ls,.tuple ks]) = true:=by
 show ((tupD (.tuple ls) 1 6 && (ls.all laneD && unlikeD ls)) && (tupD (.tuple ks) 1 6 && (ks.all (kindD (ls.length : Nat)) && unlikeD ks))) = true
 have t : ∀ {ds : List PyData},1 <= ds.length->ds.length <= 6->tupD (.tuple ds) 1 6 = true:=fun {ds} h1 h2=>by
  show (decide ((1 : Int) <= (ds.length : Nat)) && decide (((ds.length : Nat) : Int) <= 6)) = true
  rw [decide_eq_true (by omega),decide_eq_true (by omega)]
  rfl
 rw [t l1 l6,t k1 k6,List.all_eq_true.mpr hl,List.all_eq_true.mpr hk,show unlikeD ls = true from decide_eq_true nl,show unlikeD ks = true from decide_eq_true nk]
 rfl
section
variable {P : Program} {w : World} {K : PySem.W.Frag} {mg : Str->Option Value} {base : Heap}
abbrev s__law_plan : Stmt:=top 33
theorem sc__law_plan : FnScope ["_law_held","_law_names","_law_lanes","_law_k","_law_shift","_law_kinds","_law_way","_law_bounds"] ["_law_held"] (defScope s__law_plan):=⟨rfl,rfl,rfl,by decide +kernel,rfl,by decide +kernel,by decide +kernel⟩
theorem ok_lplan {f : Addr} {fd : FuncData} (F : Fun K "_law_plan" "_law_plan" s__law_plan f fd) (T : Txt K mg) (C__law_take : CallOk P w K mg base "_law_take" 1 ["_law_held","_law_many"] spTake) (C__law_words : CallOk P w K mg base "_law_words" 2 ["_law_held","_law_many"] spWords) (C__law_bound : CallOk P w K mg base "_law_bound" 2 ["_law_held"] spBound) : FnOk P w K mg base CX0 3 f fd ["_law_held"] spPlan:=by
 refine F.ok sc__law_plan (fun vs H Q E h=>?_) (fun cdv A outer s H vs Q E hr h=>?_)
 ·obtain ⟨z,rfl,_⟩:=h
  rfl
 obtain ⟨z,rfl,c,q⟩:=h
 have hu:=hr.units
 refine' ⟨_,?hh,?rr⟩
 case hh=>(refine' pss_cons ?hnc ?hoc;(case hnc=>refine' ps_set sc__law_plan.nd (ixAt 1) (Or.inl rfl) ?he;(case he=>refine' pe_cl C__law_words hr ?hc rfl ?hd;(case hc=>refine' pa_c (pv 0) ?hb;(case hb=>refine' pa_c pe_int pa_nil));(case hd=>decide)));(case hoc=>refine' pss_cons ?hlc ?hmc;(case hlc=>refine' ps_set sc__law_plan.nd (ixAt 2) (Or.inl rfl) ?hf;(case hf=>refine' pe_lst pa_nil));(case hmc=>refine' pss_cons ?hjc ?hkc;(case hjc=>refine' ps_for PassesOwn.never rfl ?hw ?hx ?hy;(case hw=>refine' pi_range1 rfl T.b_range ?hl;(case hl=>refine' pa_c ?hk pa_nil;(case hk=>refine' pe_op op_add pe_int ?hj;(case hj=>refine' pe_cl C__law_take hr ?hh rfl ?hi;(case hh=>refine' pa_c (pv 0) ?hg;(case hg=>refine' pa_c pe_int pa_nil));(case hi=>decide)))));(case hx=>refine' pg_name sc__law_plan.nd (ixAt 3) (Or.inl rfl) (Or.inl rfl));(case hy=>refine' pss_one ?hv;(case hv=>refine' ps_expr ?hu;(case hu=>refine' pe_bm PySem.F.plainAttrs_list PySem.F.slot_list_append PySem.F.type_list_append mt_append (pv 2) ?ht;(case ht=>refine' pa_c ?hs pa_nil;(case hs=>refine' pe_tupD ?hr;(case hr=>refine' pa_c ?hp ?hq;(case hp=>refine' pe_ix ix_D (pv 1) (pv 3) (fun _ _=>rfl));(case hq=>refine' pa_c ?ho pa_nil;(case ho=>refine' pe_cl C__law_bound hr ?hm rfl ?hn;(case hm=>refine' pa_c (pv 0) pa_nil);(case hn=>decide))))))))));(case hkc=>refine' pss_cons ?hhc ?hic;(case hhc=>refine' ps_set sc__law_plan.nd (ixAt 4) (Or.inl rfl) ?hC;(case hC=>refine' pe_cl C__law_take hr ?hA rfl ?hB;(case hA=>refine' pa_c (pv 0) ?hz;(case hz=>refine' pa_c pe_int pa_nil));(case hB=>decide)));(case hic=>refine' pss_cons ?hfc ?hgc;(case hfc=>refine' ps_set sc__law_plan.nd (ixAt 5) (Or.inl rfl) ?hD;(case hD=>refine' pe_lst pa_nil));(case hgc=>refine' pss_cons ?hdc ?hec;(case hdc=>refine' ps_for PassesOwn.never rfl ?hSb ?hTb ?hUb;(case hSb=>refine' pi_range1 rfl T.b_range ?hJ;(case hJ=>refine' pa_c ?hI pa_nil;(case hI=>refine' pe_op op_add pe_int ?hH;(case hH=>refine' pe_cl C__law_take hr ?hF rfl ?hG;(case hF=>refine' pa_c (pv 0) ?hE;(case hE=>refine' pa_c pe_int pa_nil));(case hG=>decide)))));(case hTb=>refine' pg_name sc__law_plan.nd (ixAt 3) (Or.inl rfl) (Or.inl rfl));(case hUb=>refine' pss_cons ?hQb ?hRb;(case hQb=>refine' ps_setC sc__law_plan.nd (ixAt 6) (Or.inl rfl) rfl ?hT (compN ["_law_lane","_law_held"] 1 [0]) ?hU ?hV ?hW ?hX ?hY ?hZ ?hab;(case hT=>exact ⟨rfl,by decide +kernel,by decide +kernel,(show ∀ y : Str × NameKind,y ∈ _->y.2 = NameKind.free->(defScope s__law_plan).names.lookup y.1 = some .cell\/(defScope s__law_plan).names.lookup y.1 = some .free from by decide +kernel)⟩);(case hU=>decide +kernel);(case hV=>decide);(case hW=>refine' pi_range1 rfl T.b_range ?hM;(case hM=>refine' pa_c ?hL pa_nil;(case hL=>refine' pe_callB call_len_seq rfl T.b_len PySem.boot_len ?hK;(case hK=>refine' pa_c (pv 2) pa_nil))));(case hX=>intro _ _ _ _;refine' pg_name ?hN (ixAt 0) (Or.inl rfl) (Or.inr rfl);(case hN=>exact (show (["_law_lane","_law_held"] : List Str).Nodup from by decide +kernel)));(case hY=>exact (gown_name (by decide)));(case hZ=>intro _ _ _ _;refine' pts_one ?hS;(case hS=>refine' pt_cmpR op_gt ?hR pe_int (nomark _);(case hR=>refine' pe_cl C__law_take hr ?hP rfl ?hQ;(case hP=>refine' pa_c (pv 1) ?hO;(case hO=>refine' pa_c pe_int pa_nil));(case hQ=>decide))));(case hab=>intro _ _ _ _;exact (pv 0)));(case hRb=>refine' pss_cons ?hOb ?hPb;(case hOb=>refine' ps_if ?hlb ?hmb pss_nil;(case hlb=>refine' pt_cmpR (op_eqD hu) (pv 6) ?hbb (nomark _);(case hbb=>refine' pe_lstD pa_nil));(case hmb=>refine' pss_one ?hkb;(case hkb=>refine' ps_set sc__law_plan.nd (ixAt 6) (Or.inl rfl) ?hjb;(case hjb=>refine' pe_lstD ?hib;(case hib=>refine' pa_c ?hhb pa_nil;(case hhb=>refine' pe_cl C__law_take hr ?hfb rfl ?hgb;(case hfb=>refine' pa_c (pv 0) ?heb;(case heb=>refine' pa_c ?hdb pa_nil;(case hdb=>refine' pe_callB call_len_seq rfl T.b_len PySem.boot_len ?hcb;(case hcb=>refine' pa_c (pv 2) pa_nil))));(case hgb=>decide)))))));(case hPb=>refine' pss_cons ?hMb ?hNb;(case hMb=>refine' ps_set sc__law_plan.nd (ixAt 7) (Or.inl rfl) ?hAb;(case hAb=>refine' pe_callTy call_tupleD rfl T.b_tuple boot_ttuple ?hzb;(case hzb=>refine' pa_c ?hyb pa_nil;(case hyb=>refine' pe_lcomp rfl ?hqb (compN ["_law_lane","_law_held"] 1 [0]) ?hrb ?hsb ?htb ?hub ?hvb ?hwb ?hxb;(case hqb=>exact ⟨rfl,by decide +kernel,by decide +kernel,(show ∀ y : Str × NameKind,y ∈ _->y.2 = NameKind.free->(defScope s__law_plan).names.lookup y.1 = some .cell\/(defScope s__law_plan).names.lookup y.1 = some .free from by decide +kernel)⟩);(case hrb=>decide +kernel);(case hsb=>decide);(case htb=>refine' pi_list (pv 6));(case hub=>intro _ _ _ _;refine' pg_name ?hnb (ixAt 0) (Or.inl rfl) (Or.inr rfl);(case hnb=>exact (show (["_law_lane","_law_held"] : List Str).Nodup from by decide +kernel)));(case hvb=>exact (gown_name (by decide)));(case hwb=>intro _ _ _ _;exact pts_nil);(case hxb=>intro _ _ _ _;refine' pe_cl C__law_bound hr ?hob rfl ?hpb;(case hob=>refine' pa_c (pv 1) pa_nil);(case hpb=>decide))))));(case hNb=>refine' pss_one ?hLb;(case hLb=>refine' ps_expr ?hKb;(case hKb=>refine' pe_bm PySem.F.plainAttrs_list PySem.F.slot_list_append PySem.F.type_list_append mt_append (pv 5) ?hJb;(case hJb=>refine' pa_c ?hIb pa_nil;(case hIb=>refine' pe_tupD ?hHb;(case hHb=>refine' pa_c ?hFb ?hGb;(case hFb=>refine' pe_ix ix_D (pv 1) ?hBb (fun _ _=>rfl);(case hBb=>refine' pe_op op_add (pv 3) (pv 4)));(case hGb=>refine' pa_c ?hDb ?hEb;(case hDb=>refine' pe_callTy call_tupleD rfl T.b_tuple boot_ttuple ?hCb;(case hCb=>refine' pa_c (pv 6) pa_nil));(case hEb=>refine' pa_c (pv 7) pa_nil))))))))))));(case hec=>refine' pss_one ?hcc;(case hcc=>refine' ps_ret ?hbc;(case hbc=>refine' pe_tupD ?hac;(case hac=>refine' pa_c ?hYb ?hZb;(case hYb=>refine' pe_callTy call_tuple_of rfl T.b_tuple boot_ttuple ?hVb;(case hVb=>refine' pa_c (pv 2) pa_nil));(case hZb=>refine' pa_c ?hXb pa_nil;(case hXb=>refine' pe_callTy call_tuple_of rfl T.b_tuple boot_ttuple ?hWb;(case hWb=>refine' pa_c (pv 5) pa_nil)))))))))))))
 refine ⟨_,rfl,z,rfl,c,fun ns v1 H1 hn hnd hm s1 f1=>?_⟩
 refine ⟨(by show 0 <= sizeLine;decide),fun l hl=>?_⟩
 have lp : l ≠ z.p:=fun e=>by
  obtain ⟨n,h⟩:=s1.cz.held
  rw [e,h] at hl
  cases hl
 have nlp : l ∉ [z.p]:=fun h=>lp (List.mem_singleton.mp h)
 have a2 : Stl z l H1 (upd H1 l (.lst [])):=Stl.new s1.cz hl
 have hl2 : (upd H1 l (.lst [])) l = some (.lst []):=upd_same
 have f1' : IsD (z.with l).ex H1 (.list (ns.map .str)) v1:=IsD.more hl f1
 generalize upd H1 l (.lst []) = H2 at a2 hl2 ⊢
 refine ⟨_,rfl,z.with l,6,rfl,a2.cz,by decide,by decide,fun m H3 m0 m1 s3=>?_⟩
 have a3:=a2.stp s3
 have hl3:=s3.ext.lst nlp hl2
 refine ⟨_,_,rfl,rfl,_,rfl,by omega,by omega,for_range (n:=(1 + m).toNat) (fun i σ H4=>∃ (ls : List PyData) (xs : List V) (kk : Option V),σ = [some (V.ref z.p),some v1,some (V.ref l),kk,none,none,none,none]/\Stl z l H1 H4/\H4 l = some (.lst xs)/\IsDs (z.with l).ex H4 ls xs/\ls.length = i/\(∀ d ∈ ls,laneD d = true)/\ls.map firstD = ns.take i)
  ⟨[],[],_,rfl,a3,hl3,rfl,rfl,by simp,rfl⟩ ?_ ?_⟩
 ·rintro i σ H4 hi ⟨ls,xs,kk,rfl,a4,hx,hds,hll,hla,hfi⟩
  have hin : i < ns.length:=by omega
  refine ⟨_,rfl,.inl ⟨rfl,xs,SqL.of hx⟩,?_⟩
  refine ⟨_,rfl,_,rfl,z.with l,_,_,.str ns[i],.inr (f1'.stl a4),rfl,by omega,?_,fun vn fvn=>?_⟩
  ·rw [show ((0 : Int) + (i : Nat)).toNat = i by omega,List.getElem?_map,List.getElem?_eq_getElem hin]
   rfl
  refine ⟨_,rfl,z.with l,rfl,a4.cz,fun b H5 b1 b2 s5=>?_⟩
  refine ⟨z.with l,[.str ns[i],.int b],⟨_,_,rfl,fvn.stp s5,_,_,rfl,rfl,rfl⟩,(by show 2 <= 1000;decide),s5.cz,fun v6 H6 s6 f6=>?_⟩
  have s56:=s5.trans s6
  refine ⟨l,xs,v6,rfl,rfl,s56.ext.lst nlp hx,?_,?_⟩
  ·rw [hds.length,hll]
   exact small1000 (by omega)
  refine ⟨ls ++ [.tuple [.str ns[i],.int b]],xs ++ [v6],_,rfl,(a4.stp s56).put lp,upd_same,?_,by rw [List.length_append,hll];rfl,?_,?_⟩
  ·exact put_ext List.mem_cons_self (IsDs.append (hds.stp s56) ⟨v6,_,rfl,f6,rfl⟩)
  ·intro d hd
   rcases List.mem_append.mp hd with h | h
   ·exact hla d h
   ·rw [List.mem_singleton.mp h]
    show (nm ns[i] && (decide (1 <= b) && decide (b <= 99))) = true
    rw [hm _ (List.getElem_mem hin),decide_eq_true b1,decide_eq_true b2]
    rfl
  ·rw [List.map_append,hfi,List.take_add_one,List.getElem?_eq_getElem hin]
   rfl
 rintro σ H4 ⟨ls,xs,kk,rfl,a4,hx,hds,hll,hla,hfi⟩
 have hl1 : 1 <= ls.length:=by omega
 have hl6 : ls.length <= 6:=by omega
 refine ⟨_,rfl,z.with l,7,rfl,a4.cz,by decide,by decide,fun sh H5 sh0 sh1 s5=>?_⟩
 have a5:=a4.stp s5
 have hx5:=s5.ext.lst nlp hx
 have hds5:=hds.stp s5
 refine ⟨(by show 0 <= sizeLine;decide),fun l2 hl2=>?_⟩
 have l2p : l2 ≠ (z.with l).p:=fun e=>by
  obtain ⟨n,h⟩:=s5.cz.held
  rw [e,h] at hl2
  cases hl2
 have nl2p : l2 ∉ [((z.with l).with l2).p]:=fun h=>l2p (List.mem_singleton.mp h)
 have ll2 : l ≠ l2:=fun e=>by
  rw [<- e,hx5] at hl2
  cases hl2
 have nll : l ∉ [l2,(z.with l).p]:=fun h=>by
  rcases List.mem_cons.mp h with h | h
  ·exact ll2 h
  ·exact lp (List.mem_singleton.mp h)
 have a6 : Stl (z.with l) l2 H5 (upd H5 l2 (.lst [])):=Stl.new s5.cz hl2
 have hl6' : (upd H5 l2 (.lst [])) l2 = some (.lst []):=upd_same
 have fn : IsD ((z.with l).with l2).ex H5 (.list (ns.map .str)) v1:=IsD.more hl2 (f1'.stl a5)
 have hdsb : IsDs ((z.with l).with l2).ex H5 ls xs:=IsDs.more hl2 hds5
 generalize upd H5 l2 (.lst []) = H6 at a6 hl6' ⊢
 refine ⟨_,rfl,(z.with l).with l2,6,rfl,a6.cz,by decide,by decide,fun m2 H7 m20 m21 s7=>?_⟩
 have a7':=a6.stp s7
 have hl7:=s7.ext.lst nl2p hl6'
 refine ⟨_,_,rfl,rfl,_,rfl,by omega,by omega,for_range (n:=(1 + m2).toNat) (fun i σ H8=>∃ (ks : List PyData) (ys : List V) (kk wy bd : Option V),σ = [some (V.ref z.p),some v1,some (V.ref l),kk,some (V.int sh),some (V.ref l2),wy,bd]/\Stl (z.with l) l2 H5 H8/\H8 l2 = some (.lst ys)/\IsDs ((z.with l).with l2).ex H8 ks ys/\ks.length = i/\(∀ d ∈ ks,kindD (ls.length : Nat) d = true)/\ks.map firstD = (ns.drop sh.toNat).take i)
  ⟨[],[],_,_,_,rfl,a7',hl7,rfl,rfl,by simp,rfl⟩ ?_ ?_⟩
 ·rintro i σ H8 hi ⟨ks,ys,kk,wy,bd,rfl,a7,hy,hky,hkl,hkk,hkf⟩
  have hi6 : i < 6:=by omega
  have hx8 : H8 l = some (.lst xs):=a7.ext.lst nll hx5
  have exs:=hds.length
  refine ⟨_,rfl,l,xs,rfl,.inl (SqL.of hx8),_,rfl,by omega,by omega,?_⟩
  refine lcomp_by yields_range (fun j us H9=>Stp ((z.with l).with l2) H8 H9/\∃ w : List Int,us = w.map V.int/\w.length <= j/\w.Pairwise (· < ·)/\∀ x ∈ w,0 <= x/\x < (j : Nat)) ⟨Stp.refl a7.cz,[],rfl,by simp,List.Pairwise.nil,by simp⟩ (fun _ _ _ _=>trivial) ?_ ?_
  ·rintro j x us H9 hx9 hj ⟨s9,w,rfl,hwl,hwp,hwb⟩
   have hj2:=hj
   rw [List.length_map,List.length_range] at hj
   rw [List.getElem?_map,List.getElem?_range hj] at hx9
   obtain rfl:=Option.some.inj hx9
   refine ⟨_,rfl,(z.with l).with l2,3,rfl,s9.cz,by decide,by decide,fun t H10 t0 t1 s10=>?_⟩
   refine ⟨_,_,rfl,rfl,_,rfl,?_⟩
   refine ite2 (fun c1=>?_) (fun c1=>?_)
   ·refine ⟨_,rfl,?_,nx hj2 ⟨s9.trans s10,w ++ [(0 : Int) + (j : Nat)],by rw [List.map_append];rfl,by simp;omega,?_,?_⟩⟩
    ·rw [List.length_map]
     exact small1000 (by omega)
    ·rw [List.pairwise_append]
     refine ⟨hwp,by simp,fun a ha b hb=>?_⟩
     rw [List.mem_singleton.mp hb]
     have:=hwb a ha
     omega
    ·intro x hx
     rcases List.mem_append.mp hx with h | h
     ·have:=hwb x h
      omega
     ·rw [List.mem_singleton.mp h]
      omega
   ·exact nx hj2 ⟨s9.trans s10,w,rfl,by omega,hwp,fun x hx=>by have:=hwb x hx;omega⟩
  rintro us H9 ⟨s9,w,rfl,hwl,hwp,hwb⟩ a ha
  rw [List.length_map,List.length_range] at hwl hwb
  have hwn : w.length <= ls.length:=by omega
  replace hwb : ∀ x ∈ w,0 <= x/\x < (ls.length : Nat):=fun x hx=>by have:=hwb x hx;omega
  have s10 : Stp ((z.with l).with l2) H9 (upd H9 a (.lst (w.map V.int))):=Stp.of s9.cz (Ext.new ha _)
  have f10 : IsD ((z.with l).with l2).ex (upd H9 a (.lst (w.map V.int))) (.list (w.map .int)) (.ref a):=⟨a,_,rfl,s9.cz.free ha,upd_same,IsDs.ints _⟩
  generalize upd H9 a (.lst (w.map V.int)) = H10 at s10 f10 ⊢
  refine ⟨_,rfl,(z.with l).with l2,[],rfl,(by show 0 <= 1000;decide),s10.cz,fun v11 H11 s11 f11=>?_⟩
  refine ⟨.list (w.map .int),.list [],IsD.less (by simp) (f10.stp s11),IsD.less (by simp) f11,shaped_ints w,rfl,_,rfl,?_⟩
  rw [eqv_nil]
  have sw0:=(s9.trans s10).trans s11
  have fw0:=f10.stp s11
  refine ite2 (fun c1=>?_) (fun c1=>?_)
  ·have hx11 : H11 l = some (.lst xs):=sw0.ext.lst nlp hx8
   refine ⟨_,rfl,_,rfl,l,xs,rfl,.inl (SqL.of hx11),(z.with l).with l2,_,rfl,s11.cz,by omega,by omega,fun t H12 t0 t1 s12=>?_⟩
   refine ⟨(z.with l).with l2,[.int t],⟨_,_,rfl,rfl,rfl⟩,(by show 1 <= 1000;decide),s12.cz,fun vw Hw s13 fw=>?_⟩
   have sw:=(sw0.trans s12).trans s13
   replace fw : IsD ((z.with l).with l2).ex Hw (.list (([t] : List Int).map .int)) vw:=fw
   have hw0 : ([t] : List Int) ≠ []:=by simp
   replace hwn : ([t] : List Int).length <= ls.length:=hl1
   replace hwp : ([t] : List Int).Pairwise (· < ·):=by simp
   replace hwb : ∀ x ∈ ([t] : List Int),0 <= x/\x < (ls.length : Nat):=fun x hx=>by rw [List.mem_singleton.mp hx];omega
   clear fw0 f10 f11
   generalize ([t] : List Int) = w at fw hw0 hwn hwp hwb
   obtain ⟨b,xw,rfl,nb,hb,hxw⟩:=fw
   obtain rfl:=IsDs.ints_of hxw
   have nbp : b ∉ [z.p]:=fun h=>nb (by rw [List.mem_singleton.mp h];exact sw.cz.mem)
   refine ⟨_,rfl,b,rfl,⟨_,SqL.of hb⟩,lcomp_by0 (yields_list (ys:=w.map V.int)) (fun j xs H9=>Stp ((z.with l).with l2) Hw H9/\∃ bs : List Int,xs = bs.map V.int/\bs.length = j/\∀ x ∈ bs,1 <= x/\x <= 99) ⟨Stp.refl sw.cz,[],rfl,rfl,by simp⟩ (fun _ _ _ h=>SqL.of (h.1.ext.lst nbp hb)) ?_ ?_⟩
   ·rintro j x xs H9 hx hj ⟨s9,bs,rfl,hbl,hbb⟩
    refine ⟨_,rfl,(z.with l).with l2,rfl,s9.cz,fun t H10 t1 t2 s10=>?_⟩
    rw [List.length_map] at hj
    refine ⟨?_,nx (by rw [List.length_map];exact hj) ⟨s9.trans s10,bs ++ [t],by rw [List.map_append];rfl,by simp [hbl],fun x hx=>?_⟩⟩
    ·rw [List.length_map,hbl]
     exact small1000 (by omega)
    ·rcases List.mem_append.mp hx with h | h
     ·exact hbb x h
     ·rw [List.mem_singleton.mp h]
      exact ⟨t1,t2⟩
   rintro xs H9 ⟨s9,bs,rfl,hbl,hbb⟩ a3 ha3
   rw [List.length_map] at hbl
   have s10 : Stp ((z.with l).with l2) H9 (upd H9 a3 (.lst (bs.map V.int))):=Stp.of s9.cz (Ext.new ha3 _)
   have f10 : IsD ((z.with l).with l2).ex (upd H9 a3 (.lst (bs.map V.int))) (.list (bs.map .int)) (.ref a3):=⟨a3,_,rfl,s9.cz.free ha3,upd_same,IsDs.ints _⟩
   generalize upd H9 a3 (.lst (bs.map V.int)) = H10 at s10 f10 ⊢
   refine ⟨(z.with l).with l2,_,_,rfl,f10,s10.cz,fun vb H11 s11 fb=>?_⟩
   have fw2 : IsD ((z.with l).with l2).ex Hw (.list (w.map .int)) (.ref b):=⟨b,_,rfl,nb,hb,IsDs.ints _⟩
   have sA:=(s9.trans s10).trans s11
   have hx11 : H11 l2 = some (.lst ys):=(sw.trans sA).ext.lst nl2p hy
   refine ⟨_,rfl,.inl ⟨rfl,ys,SqL.of hx11⟩,?_⟩
   have hsh : i + sh.toNat < ns.length:=by omega
   refine ⟨_,rfl,_,rfl,_,rfl,_,_,rfl,rfl,(z.with l).with l2,_,_,.str ns[i + sh.toNat],.inr (fn.stl (a7.stp (sw.trans sA))),rfl,by omega,?_,fun vn fvn=>?_⟩
   ·rw [show ((0 : Int) + (i : Nat) + sh).toNat = i + sh.toNat by omega,List.getElem?_map,List.getElem?_eq_getElem hsh]
    rfl
   refine ⟨_,rfl,(z.with l).with l2,_,_,rfl,fw2.stp sA,sA.cz,fun vt H12 s12 ft=>?_⟩
   refine ⟨_,rfl,(z.with l).with l2,[.str ns[i + sh.toNat],.tuple (w.map .int),.tuple (bs.map .int)],⟨_,_,rfl,fvn.stp s12,_,_,rfl,ft,_,_,rfl,fb.stp s12,rfl⟩,(by show 3 <= 1000;decide),s12.cz,fun vk H13 s13 fk=>?_⟩
   have sB:=(sw.trans sA).trans (s12.trans s13)
   have hx13 : H13 l2 = some (.lst ys):=sB.ext.lst nl2p hy
   refine ⟨l2,ys,vk,rfl,rfl,hx13,?_,?_⟩
   ·rw [hky.length,hkl]
    exact small1000 (by omega)
   refine ⟨ks ++ [.tuple [.str ns[i + sh.toNat],.tuple (w.map .int),.tuple (bs.map .int)]],ys ++ [vk],_,_,_,rfl,(a7.stp sB).put l2p,upd_same,?_,by rw [List.length_append,hkl];rfl,?_,?_⟩
   ·exact put_ext List.mem_cons_self (IsDs.append (hky.stp sB) ⟨vk,_,rfl,fk,rfl⟩)
   ·intro d hd
    rcases List.mem_append.mp hd with h | h
    ·exact hkk d h
    ·rw [List.mem_singleton.mp h]
     exact kind_ok (hm _ (List.getElem_mem hsh)) hw0 (by omega) hwp hwb hbl hbb
   ·rw [List.map_append,hkf,List.take_add_one,List.getElem?_drop,Nat.add_comm sh.toNat i,List.getElem?_eq_getElem hsh]
    rfl
  ·have hw0 : w ≠ []:=fun e=>c1 (by rw [e];rfl)
   have sw:=sw0
   obtain ⟨Hw,eHw⟩ : ∃ Hw,Hw = H11:=⟨_,rfl⟩
   subst eHw
   have fw:=fw0
   clear fw0 f10 f11
   generalize V.ref a = vw at fw ⊢
   obtain ⟨b,xw,rfl,nb,hb,hxw⟩:=fw
   obtain rfl:=IsDs.ints_of hxw
   have nbp : b ∉ [z.p]:=fun h=>nb (by rw [List.mem_singleton.mp h];exact sw.cz.mem)
   refine ⟨_,rfl,b,rfl,⟨_,SqL.of hb⟩,lcomp_by0 (yields_list (ys:=w.map V.int)) (fun j xs H9=>Stp ((z.with l).with l2) Hw H9/\∃ bs : List Int,xs = bs.map V.int/\bs.length = j/\∀ x ∈ bs,1 <= x/\x <= 99) ⟨Stp.refl sw.cz,[],rfl,rfl,by simp⟩ (fun _ _ _ h=>SqL.of (h.1.ext.lst nbp hb)) ?_ ?_⟩
   ·rintro j x xs H9 hx hj ⟨s9,bs,rfl,hbl,hbb⟩
    refine ⟨_,rfl,(z.with l).with l2,rfl,s9.cz,fun t H10 t1 t2 s10=>?_⟩
    rw [List.length_map] at hj
    refine ⟨?_,nx (by rw [List.length_map];exact hj) ⟨s9.trans s10,bs ++ [t],by rw [List.map_append];rfl,by simp [hbl],fun x hx=>?_⟩⟩
    ·rw [List.length_map,hbl]
     exact small1000 (by omega)
    ·rcases List.mem_append.mp hx with h | h
     ·exact hbb x h
     ·rw [List.mem_singleton.mp h]
      exact ⟨t1,t2⟩
   rintro xs H9 ⟨s9,bs,rfl,hbl,hbb⟩ a3 ha3
   rw [List.length_map] at hbl
   have s10 : Stp ((z.with l).with l2) H9 (upd H9 a3 (.lst (bs.map V.int))):=Stp.of s9.cz (Ext.new ha3 _)
   have f10 : IsD ((z.with l).with l2).ex (upd H9 a3 (.lst (bs.map V.int))) (.list (bs.map .int)) (.ref a3):=⟨a3,_,rfl,s9.cz.free ha3,upd_same,IsDs.ints _⟩
   generalize upd H9 a3 (.lst (bs.map V.int)) = H10 at s10 f10 ⊢
   refine ⟨(z.with l).with l2,_,_,rfl,f10,s10.cz,fun vb H11 s11 fb=>?_⟩
   have fw2 : IsD ((z.with l).with l2).ex Hw (.list (w.map .int)) (.ref b):=⟨b,_,rfl,nb,hb,IsDs.ints _⟩
   have sA:=(s9.trans s10).trans s11
   have hx11 : H11 l2 = some (.lst ys):=(sw.trans sA).ext.lst nl2p hy
   refine ⟨_,rfl,.inl ⟨rfl,ys,SqL.of hx11⟩,?_⟩
   have hsh : i + sh.toNat < ns.length:=by omega
   refine ⟨_,rfl,_,rfl,_,rfl,_,_,rfl,rfl,(z.with l).with l2,_,_,.str ns[i + sh.toNat],.inr (fn.stl (a7.stp (sw.trans sA))),rfl,by omega,?_,fun vn fvn=>?_⟩
   ·rw [show ((0 : Int) + (i : Nat) + sh).toNat = i + sh.toNat by omega,List.getElem?_map,List.getElem?_eq_getElem hsh]
    rfl
   refine ⟨_,rfl,(z.with l).with l2,_,_,rfl,fw2.stp sA,sA.cz,fun vt H12 s12 ft=>?_⟩
   refine ⟨_,rfl,(z.with l).with l2,[.str ns[i + sh.toNat],.tuple (w.map .int),.tuple (bs.map .int)],⟨_,_,rfl,fvn.stp s12,_,_,rfl,ft,_,_,rfl,fb.stp s12,rfl⟩,(by show 3 <= 1000;decide),s12.cz,fun vk H13 s13 fk=>?_⟩
   have sB:=(sw.trans sA).trans (s12.trans s13)
   have hx13 : H13 l2 = some (.lst ys):=sB.ext.lst nl2p hy
   refine ⟨l2,ys,vk,rfl,rfl,hx13,?_,?_⟩
   ·rw [hky.length,hkl]
    exact small1000 (by omega)
   refine ⟨ks ++ [.tuple [.str ns[i + sh.toNat],.tuple (w.map .int),.tuple (bs.map .int)]],ys ++ [vk],_,_,_,rfl,(a7.stp sB).put l2p,upd_same,?_,by rw [List.length_append,hkl];rfl,?_,?_⟩
   ·exact put_ext List.mem_cons_self (IsDs.append (hky.stp sB) ⟨vk,_,rfl,fk,rfl⟩)
   ·intro d hd
    rcases List.mem_append.mp hd with h | h
    ·exact hkk d h
    ·rw [List.mem_singleton.mp h]
     exact kind_ok (hm _ (List.getElem_mem hsh)) hw0 (by omega) hwp hwb hbl hbb
   ·rw [List.map_append,hkf,List.take_add_one,List.getElem?_drop,Nat.add_comm sh.toNat i,List.getElem?_eq_getElem hsh]
    rfl
 rintro σ H8 ⟨ks,ys,kk,wy,bd,rfl,a7,hy,hky,hkl,hkk,hkf⟩
 have hx8 : H8 l = some (.lst xs):=a7.ext.lst nll hx5
 have hls8 : IsDs ((z.with l).with l2).ex H8 ls xs:=hdsb.stl a7
 refine ⟨_,rfl,l,xs,rfl,.inl ⟨SqL.of hx8,fun t1 ht1=>?_⟩⟩
 have s9 : Stp ((z.with l).with l2) H8 (upd H8 t1 (.tup xs)):=Stp.of a7.cz (Ext.new ht1 _)
 have f9 : IsD ((z.with l).with l2).ex (upd H8 t1 (.tup xs)) (.tuple ls) (.ref t1):=⟨t1,_,rfl,a7.cz.free ht1,upd_same,hls8.stp s9⟩
 generalize upd H8 t1 (.tup xs) = H9 at s9 f9 ⊢
 have hy9:=s9.ext.lst nl2p hy
 refine ⟨_,rfl,l2,ys,rfl,.inl ⟨SqL.of hy9,fun t2 ht2=>?_⟩⟩
 have s10 : Stp ((z.with l).with l2) H9 (upd H9 t2 (.tup ys)):=Stp.of s9.cz (Ext.new ht2 _)
 have f10 : IsD ((z.with l).with l2).ex (upd H9 t2 (.tup ys)) (.tuple ks) (.ref t2):=⟨t2,_,rfl,s9.cz.free ht2,upd_same,(hky.stp s9).stp s10⟩
 generalize upd H9 t2 (.tup ys) = H10 at s10 f10 ⊢
 refine ⟨(z.with l).with l2,[.tuple ls,.tuple ks],⟨_,_,rfl,f9.stp s10,_,_,rfl,f10,rfl⟩,(by show 2 <= 1000;decide),s10.cz,fun v H11 s11 f11=>?_⟩
 have b1 : Stp (z.with l) H5 H11:=(((a7.stp s9).stp s10).stp s11).back hl2 a5.cz.mem
 have b2 : Stp z H1 H11:=(a5.stp b1).back hl c.mem
 refine q _ v H11 (plan_ok hl1 hl6 (by omega) (by omega) hla hkk ?_ ?_) (s1.trans b2) (IsD.less (fun b hb=>List.mem_cons_of_mem _ (List.mem_cons_of_mem _ hb)) f11)
 ·rw [hfi]
  exact hnd.sublist (List.take_sublist _ _)
 ·rw [hkf]
  exact (hnd.sublist (List.drop_sublist _ _)).sublist (List.take_sublist _ _)
end
end K02
end

section
set_option Elab.async false
set_option linter.all false
set_option maxRecDepth 100000
set_option maxHeartbeats 1000000
namespace K02
open PySem PySem.Spec L2 PyProof.Rows PySem.W
abbrev s_NoLane : Stmt:=inCls (top 5) 0
theorem ok_ini_NoLane {P : Program} {w : World} {K : PySem.W.Frag} {mg : Str->Option Value} {base : Heap} {C f cc cda : Addr} {fd : FuncData} (F : IniIn P K mg "NoLane.__init__" s_NoLane C f cc cda fd) (ha : attrIn K C "lane" = true) : FnOk P w K mg base CX0 2 f fd ["self","lane"] (spIni C "lane"):=by
 obtain ⟨oc,od,kV,doc,pm,an,ct,osl,rfl,lk⟩:=F.fn
 obtain ⟨ccl,cdd,vs,ccs,x,tf,lcode,hvs,hfile⟩:=F.file
 obtain ⟨cl,cld,csl,lc⟩:=F.cell
 refine init_of lk F.code lc ⟨rfl,rfl,rfl,by decide +kernel,by decide +kernel,by decide +kernel,by decide +kernel⟩ (fun vs H Q E ⟨e,v,x,h,_⟩=>by rw [h];rfl) fun A outer s s1 H vs Q E hr h I=>?_
 obtain ⟨e,v,y,rfl,hv,hl,he,q⟩:=h
 refine PySem.ks_wpAt_execs_cons (PySem.ks_wpAt_mono (super_stmt (D:={ nx:=fun σ' H'=>σ' = [some (.ref e),some v]/\H' = H,rt:=fun _ _=>False }) lk rfl rfl lcode hvs hfile lc F.sup F.top rfl rfl rfl F.all (pa_c (pe_join (pj_cons pe_str (pj_cons (pe_fmt (pv 1)) pj_nil))) pa_nil) I rfl he ?q rfl rfl rfl) (fun fl s2 hs=>?_) (fun _ _ (z : False)=>z.elim))
 case q =>
  have hz : ∀ a : Str,a.length <= 1000->(a ++ y).length <= sizeLine:=fun a ha=>by rw [strLen_append,sizeLine_eq];omega
  exact ⟨_,rfl,by decide +kernel,v,rfl,y,hv,_,rfl,hz _ (by decide +kernel),hz _ (by decide +kernel),rfl,he,rfl,rfl⟩
 cases fl with
 | ret u=>obtain ⟨_,_,_,_,_,z⟩:=hs;exact z.elim
 | brk=>obtain ⟨_,_,_,z⟩:=hs;exact z.elim
 | cont=>obtain ⟨_,_,_,z⟩:=hs;exact z.elim
 | next =>
  obtain ⟨σ2,H2,I2,rfl,rfl⟩:=hs
  refine PySem.wpAt_of_wpAny (thn ((pss_one (ps_xfld (pv 0) (pv 1))) [] s2 _ _ _ I2 ?_) fun _ _ z=>z)
  exact ⟨v,rfl,_,rfl,e,C,rfl,ha,.inl ⟨he,fun d hd=>q d hd⟩⟩
abbrev s_NoKind : Stmt:=inCls (top 4) 0
theorem ok_ini_NoKind {P : Program} {w : World} {K : PySem.W.Frag} {mg : Str->Option Value} {base : Heap} {C f cc cda : Addr} {fd : FuncData} (F : IniIn P K mg "NoKind.__init__" s_NoKind C f cc cda fd) (ha : attrIn K C "kind" = true) : FnOk P w K mg base CX0 2 f fd ["self","kind"] (spIni C "kind"):=by
 obtain ⟨oc,od,kV,doc,pm,an,ct,osl,rfl,lk⟩:=F.fn
 obtain ⟨ccl,cdd,vs,ccs,x,tf,lcode,hvs,hfile⟩:=F.file
 obtain ⟨cl,cld,csl,lc⟩:=F.cell
 refine init_of lk F.code lc ⟨rfl,rfl,rfl,by decide +kernel,by decide +kernel,by decide +kernel,by decide +kernel⟩ (fun vs H Q E ⟨e,v,x,h,_⟩=>by rw [h];rfl) fun A outer s s1 H vs Q E hr h I=>?_
 obtain ⟨e,v,y,rfl,hv,hl,he,q⟩:=h
 refine PySem.ks_wpAt_execs_cons (PySem.ks_wpAt_mono (super_stmt (D:={ nx:=fun σ' H'=>σ' = [some (.ref e),some v]/\H' = H,rt:=fun _ _=>False }) lk rfl rfl lcode hvs hfile lc F.sup F.top rfl rfl rfl F.all (pa_c (pe_join (pj_cons pe_str (pj_cons (pe_fmt (pv 1)) pj_nil))) pa_nil) I rfl he ?q rfl rfl rfl) (fun fl s2 hs=>?_) (fun _ _ (z : False)=>z.elim))
 case q =>
  have hz : ∀ a : Str,a.length <= 1000->(a ++ y).length <= sizeLine:=fun a ha=>by rw [strLen_append,sizeLine_eq];omega
  exact ⟨_,rfl,by decide +kernel,v,rfl,y,hv,_,rfl,hz _ (by decide +kernel),hz _ (by decide +kernel),rfl,he,rfl,rfl⟩
 cases fl with
 | ret u=>obtain ⟨_,_,_,_,_,z⟩:=hs;exact z.elim
 | brk=>obtain ⟨_,_,_,z⟩:=hs;exact z.elim
 | cont=>obtain ⟨_,_,_,z⟩:=hs;exact z.elim
 | next =>
  obtain ⟨σ2,H2,I2,rfl,rfl⟩:=hs
  refine PySem.wpAt_of_wpAny (thn ((pss_one (ps_xfld (pv 0) (pv 1))) [] s2 _ _ _ I2 ?_) fun _ _ z=>z)
  exact ⟨v,rfl,_,rfl,e,C,rfl,ha,.inl ⟨he,fun d hd=>q d hd⟩⟩
end K02
end

section
set_option Elab.async false
set_option linter.all false
set_option maxRecDepth 100000
set_option maxHeartbeats 1000000
namespace K02
open PySem PySem.Spec L2 PyProof.Rows PySem.W
def wyOf : PyData->PyData
 | .tuple (_ :: w :: _)=>w
 | _=>.none
def Named (ls : List PyData) : Prop := ∀ d ∈ ls,∃ y r,d = .tuple (.str y :: r)
def Named3 (ls : List PyData) : Prop := ∀ d ∈ ls,∃ y w b,d = .tuple [.str y,w,b]
def firstIs (ls : List PyData) (x : Str) : Option Nat:=ls.findIdx? fun d=>firstD d == x
def XF (C : Addr) (f : Str) (x : Str) (H : Hp) (E : XK) : Prop := ∀ e d H',Ext [] H H'->H' e = some (excO e C (some d))->H' d = some (.xd [(f,.str x)])->E (.ref e) (some d) H'
def spLane (CL : Addr) : Sp:=fun vs H Q E=>∃ (ls : List PyData) (k : PyData) (v : V) (x : Str),vs = [v,.str x]/\IsD [] H (.tuple [.tuple ls,k]) v/\Named ls/\x.length <= 1000 /\
 (∀ i H',firstIs ls x = some i->Ext [] H H'->Q (.int i) H')/\(firstIs ls x = none->XF CL "lane" x H E)
def spKind (CK : Addr) : Sp:=fun vs H Q E=>∃ (ks : List PyData) (l : PyData) (v : V) (x : Str),vs = [v,.str x]/\IsD [] H (.tuple [l,.tuple ks]) v/\Named3 ks/\x.length <= 1000 /\
 (∀ i d u H',firstIs ks x = some i->ks[i]? = some d->Ext [] H H'->IsD [] H' d u->Q u H')/\(firstIs ks x = none->XF CK "kind" x H E)
def spWay (CK : Addr) : Sp:=fun vs H Q E=>∃ (ks : List PyData) (l : PyData) (v : V) (x : Str),vs = [v,.str x]/\IsD [] H (.tuple [l,.tuple ks]) v/\Named3 ks/\x.length <= 1000 /\
 (∀ i d u H',firstIs ks x = some i->ks[i]? = some d->Ext [] H H'->IsD [] H' (wyOf d) u->Q u H')/\(firstIs ks x = none->XF CK "kind" x H E)
structure TxC (K : PySem.W.Frag) (mg : Str->Option Value) (CE CL CK CC CT : Addr) : Prop where
 b_enumerate : mg "enumerate" = none
 b_isinstance : mg "isinstance" = none
 b_ValueError : mg "ValueError" = none
 c_NoLane : ∃ u,mg "NoLane" = some u/\RelV (.ref CL) u
 c_NoKind : ∃ u,mg "NoKind" = some u/\RelV (.ref CK) u
 c_NoCard : ∃ u,mg "NoCard" = some u/\RelV (.ref CC) u
 c_NoText : ∃ u,mg "NoText" = some u/\RelV (.ref CT) u
 d_LaneError : mg "LaneError" = some (.ref CE)
 x_LaneError : excClsIn K CE = true
section
variable {P : Program} {w : World} {K : PySem.W.Frag} {mg : Str->Option Value} {base : Heap} {CE CL CK CC CT : Addr}
theorem findIdx_none_snoc {p : PyData->Bool} : ∀ (ls : List PyData) (i : Nat),(∀ j d,j < i->ls[j]? = some d->p d = false)->ls.length <= i->ls.findIdx? p = none
 | [],_,_,_=>rfl
 | a :: ls,i,h,hl=>by
  have h0:=h 0 a (by simp at hl;omega) rfl
  rw [List.findIdx?_cons,h0]
  have:=findIdx_none_snoc ls (i - 1) (fun j d hj hd=>h (j + 1) d (by omega) (by simpa using hd)) (by simp at hl;omega)
  rw [this];rfl
theorem findIdx_some_at {p : PyData->Bool} : ∀ (ls : List PyData) (i : Nat) (d : PyData),(∀ j d,j < i->ls[j]? = some d->p d = false)->ls[i]? = some d->p d = true->ls.findIdx? p = some i
 | [],_,_,_,hd,_=>by simp at hd
 | a :: ls,0,d,_,hd,hp=>by
  have : a = d:=by simpa using hd
  rw [List.findIdx?_cons,this,hp];rfl
 | a :: ls,i + 1,d,h,hd,hp=>by
  rw [List.findIdx?_cons,h 0 a (by omega) rfl]
  have:=findIdx_some_at ls i d (fun j d hj hd=>h (j + 1) d (by omega) (by simpa using hd)) (by simpa using hd) hp
  rw [this];rfl
abbrev s_lane_number : Stmt:=top 15
theorem sc_lane_number : FnScope ["plan","name","number","lane"] ["plan","name"] (defScope s_lane_number):=⟨rfl,rfl,rfl,by decide +kernel,rfl,by decide +kernel,by decide +kernel⟩
theorem ok_lane_number {f : Addr} {fd : FuncData} (F : Fun K "lane_number" "lane_number" s_lane_number f fd) (T : TxC K mg CE CL CK CC CT) (M_NoLane : MakeOk P w K mg base "NoLane" CL 2 ["self","lane"] (spIni CL "lane")) (hrs : raisesIn K CL = true) : FnOk P w K mg base (CXF P w) 4 f fd ["plan","name"] (spLane CL):=by
 refine F.okX sc_lane_number (fun vs H Q E h=>?_) (fun cdv A outer s H vs Q E hr h=>?_)
 ·obtain ⟨ls,k,v,x,rfl,_⟩:=h
  rfl
 obtain ⟨ls,k,v,x,rfl,hd,hN,hx,q1,q2⟩:=h
 refine' ⟨_,?hh,?rr⟩
 case hh=>refine' pss_cons ?hu ?hv;(case hu=>refine' PS.nox ?hp;(case hp=>refine' ps_for PassesOwn.never rfl ?hm ?hn ?ho;(case hm=>refine' pi_enumT rfl T.b_enumerate ?hc;(case hc=>refine' pa_c ?hb pa_nil;(case hb=>refine' pe_ix ix_tup (pv 0) pe_int (fun _ _=>rfl))));(case hn=>refine' pg_tup rfl ?hg;(case hg=>refine' pgs_cons ?he ?hf;(case he=>refine' pg_name sc_lane_number.nd (ixAt 2) (Or.inl rfl) (Or.inl rfl));(case hf=>refine' pgs_cons ?hd pgs_nil;(case hd=>refine' pg_name sc_lane_number.nd (ixAt 3) (Or.inl rfl) (Or.inl rfl)))));(case ho=>refine' pss_one ?hl;(case hl=>refine' ps_if ?hj ?hk pss_nil;(case hj=>refine' pt_cmpR op_eq ?hh (pv 1) (nomark _);(case hh=>refine' pe_ix ix_tup (pv 3) pe_int (fun _ _=>rfl)));(case hk=>refine' pss_one ?hi;(case hi=>refine' ps_ret (pv 2)))))));(case hv=>refine' pss_one ?ht;(case ht=>refine' ps_raise xe_cx ?hs;(case hs=>refine' pe_makeX M_NoLane hr ?hq rfl ?hr;(case hq=>refine' pa_c (pv 1) pa_nil);(case hr=>decide))))
 obtain ⟨a,us,rfl,_,ha,v1,r1,rfl,hda,v2,r2,rfl,hdb,rfl⟩:=hd
 obtain ⟨b,ws,rfl,_,hb,hws⟩:=hda
 have el:=hws.length
 refine ⟨_,rfl,a,_,_,_,rfl,rfl,SqT.of ha,rfl,b,rfl,⟨ws,SqT.of hb⟩,for_enumT (xs:=ws) (fun i σ H2=>∃ (nn ll : Option V),σ = [some (V.ref a),some (V.str x),nn,ll]/\Ext [] H H2/\∀ j d,j < i->ls[j]? = some d->(firstD d == x) = false) ⟨none,none,rfl,Ext.refl,fun j d hj=>absurd hj (Nat.not_lt_zero j)⟩ (fun i σ H2 _ ⟨_,_,_,e,_⟩=>SqT.of (e.tup (by simp) hb)) ?_ ?_⟩
 ·rintro i y Ta σ H2 hy ⟨nn,ll,rfl,e,hw⟩ hT
  have hi : i < ws.length:=(List.getElem?_eq_some_iff.mp hy).1
  have hi' : i < ls.length:=by omega
  have hdi:=List.getElem?_eq_getElem hi'
  obtain ⟨y',hy',hdy⟩:=hws.get (i:=i) hdi
  rw [hy] at hy'
  cases hy'
  obtain ⟨z,rr,hzr⟩:=hN _ (List.getElem_mem hi')
  generalize ls[i] = dy at hdy hdi hzr
  subst hzr
  have e2 : Ext [] H2 (upd H2 Ta (.tup [.int i,y])):=Ext.new hT _
  obtain ⟨c,cs,rfl,_,hc,v3,r3,rfl,h3,hr3⟩:=IsD.ext (e.trans e2) hdy
  obtain rfl : v3 = .str z:=h3
  refine ⟨_,_,rfl,SqT.of upd_same,rfl,_,_,rfl,_,_,rfl,rfl,?_⟩
  refine ⟨_,rfl,c,_,_,.str z,rfl,rfl,SqT.of hc,atI_nat (j:=0) rfl,_,rfl,rfl,_,rfl,?_⟩
  refine ite2 (fun cc=>?_) (fun cc=>?_)
  ·refine ⟨_,rfl,q1 i _ (findIdx_some_at ls i _ hw hdi ?_) (e.trans e2)⟩
   show (z == x) = true
   simpa using cc
  ·refine ⟨_,_,rfl,e.trans e2,fun j d hj hd=>?_⟩
   by_cases hji : j = i
   ·subst hji
    rw [hdi] at hd
    cases hd
    show (z == x) = false
    simpa using cc
   ·exact hw j d (by omega) hd
 ·rintro σ H2 ⟨nn,ll,rfl,e,hw⟩
  have hnone:=findIdx_none_snoc ls _ hw (by omega)
  refine ⟨_,rfl,by show 1 <= 1000;decide,fun ex hex=>?_⟩
  refine ⟨ex,.str x,x,rfl,if_pos hx,hx,upd_same,fun d hd=>⟨rfl,ex,CL,some d,rfl,upd_same,hrs,?_⟩⟩
  have hne : d ≠ ex:=fun z=>by rw [z,upd_same] at hd;cases hd
  have hd2 : H2 d = none:=by rw [upd_ne hne] at hd;exact hd
  rw [upd_upd]
  have hu : upd (upd (upd H2 ex (excN ex CL none)) d (.xd [("lane",.str x)])) ex (excO ex CL (some d)) = upd (upd H2 d (.xd [("lane",.str x)])) ex (excO ex CL (some d)):=by
   funext c
   by_cases h1 : c = ex
   ·rw [h1,upd_same,upd_same]
   ·rw [upd_ne h1,upd_ne h1]
    by_cases h2 : c = d
    ·rw [h2,upd_same,upd_same]
    ·rw [upd_ne h2,upd_ne h2,upd_ne h1]
  rw [hu]
  refine q2 hnone ex d _ ((e.trans (Ext.new hd2 _)).trans (Ext.new (by rw [upd_ne (Ne.symm hne)];exact hex) _)) upd_same (by rw [upd_ne hne,upd_same])
abbrev s_kind_of : Stmt:=top 17
theorem sc_kind_of : FnScope ["plan","kind","told"] ["plan","kind"] (defScope s_kind_of):=⟨rfl,rfl,rfl,by decide +kernel,rfl,by decide +kernel,by decide +kernel⟩
theorem ok_kind_of {f : Addr} {fd : FuncData} (F : Fun K "kind_of" "kind_of" s_kind_of f fd) (T : TxC K mg CE CL CK CC CT) (M_NoKind : MakeOk P w K mg base "NoKind" CK 2 ["self","kind"] (spIni CK "kind")) (hrs : raisesIn K CK = true) : FnOk P w K mg base (CXF P w) 4 f fd ["plan","kind"] (spKind CK):=by
 refine F.okX sc_kind_of (fun vs H Q E h=>?_) (fun cdv A outer s H vs Q E hr h=>?_)
 ·obtain ⟨ks,k,v,x,rfl,_⟩:=h
  rfl
 obtain ⟨ks,k,v,x,rfl,hd,hN,hx,q1,q2⟩:=h
 refine' ⟨_,?hh,?rr⟩
 case hh=>refine' pss_cons ?hp ?hq;(case hp=>refine' PS.nox ?hk;(case hk=>refine' ps_for PassesOwn.never rfl ?hh ?hi ?hj;(case hh=>refine' pi_tup ?hb;(case hb=>refine' pe_ix ix_tup (pv 0) pe_int (fun _ _=>rfl)));(case hi=>refine' pg_name sc_kind_of.nd (ixAt 2) (Or.inl rfl) (Or.inl rfl));(case hj=>refine' pss_one ?hg;(case hg=>refine' ps_if ?he ?hf pss_nil;(case he=>refine' pt_cmpR op_eq ?hc (pv 1) (nomark _);(case hc=>refine' pe_ix ix_tup (pv 2) pe_int (fun _ _=>rfl)));(case hf=>refine' pss_one ?hd;(case hd=>refine' ps_ret (pv 2)))))));(case hq=>refine' pss_one ?ho;(case ho=>refine' ps_raise xe_cx ?hn;(case hn=>refine' pe_makeX M_NoKind hr ?hl rfl ?hm;(case hl=>refine' pa_c (pv 1) pa_nil);(case hm=>decide))))
 obtain ⟨a,us,rfl,_,ha,v1,r1,rfl,hda,v2,r2,rfl,hdb,rfl⟩:=hd
 obtain ⟨b,ws,rfl,_,hb,hws⟩:=hdb
 have el:=hws.length
 refine ⟨_,rfl,a,_,_,_,rfl,rfl,SqT.of ha,rfl,b,rfl,⟨ws,SqT.of hb⟩,for_tup (xs:=ws) (fun i σ H2=>∃ (nn : Option V),σ = [some (V.ref a),some (V.str x),nn]/\Ext [] H H2/\∀ j d,j < i->ks[j]? = some d->(firstD d == x) = false) ⟨none,rfl,Ext.refl,fun j d hj=>absurd hj (Nat.not_lt_zero j)⟩ (fun i σ H2 _ ⟨_,_,e,_⟩=>SqT.of (e.tup (by simp) hb)) ?_ ?_⟩
 ·rintro i y σ H2 hy ⟨nn,rfl,e,hw⟩
  have hi : i < ws.length:=(List.getElem?_eq_some_iff.mp hy).1
  have hi' : i < ks.length:=by omega
  have hdi:=List.getElem?_eq_getElem hi'
  obtain ⟨y',hy',hdy⟩:=hws.get (i:=i) hdi
  rw [hy] at hy'
  cases hy'
  obtain ⟨z,wd,bd,hzr⟩:=hN _ (List.getElem_mem hi')
  generalize ks[i] = dy at hdy hdi hzr
  subst hzr
  have hdy2:=IsD.ext e hdy
  obtain ⟨c,cs,rfl,hcl,hc,v3,r3,rfl,h3,hr3⟩:=hdy2
  obtain rfl : v3 = .str z:=h3
  refine ⟨_,rfl,c,_,_,.str z,rfl,rfl,SqT.of hc,atI_nat (j:=0) rfl,_,rfl,rfl,_,rfl,?_⟩
  refine ite2 (fun cc=>?_) (fun cc=>?_)
  ·refine ⟨_,rfl,q1 i _ _ _ (findIdx_some_at ks i _ hw hdi ?_) hdi e (IsD.ext e hdy)⟩
   show (z == x) = true
   simpa using cc
  ·refine ⟨_,rfl,e,fun j d hj hd=>?_⟩
   by_cases hji : j = i
   ·subst hji
    rw [hdi] at hd
    cases hd
    show (z == x) = false
    simpa using cc
   ·exact hw j d (by omega) hd
 ·rintro σ H2 ⟨nn,rfl,e,hw⟩
  have hnone:=findIdx_none_snoc ks _ hw (by omega)
  refine ⟨_,rfl,by show 1 <= 1000;decide,fun ex hex=>?_⟩
  refine ⟨ex,.str x,x,rfl,if_pos hx,hx,upd_same,fun d hd=>⟨rfl,ex,CK,some d,rfl,upd_same,hrs,?_⟩⟩
  have hne : d ≠ ex:=fun z=>by rw [z,upd_same] at hd;cases hd
  have hd2 : H2 d = none:=by rw [upd_ne hne] at hd;exact hd
  rw [upd_upd]
  have hu : upd (upd (upd H2 ex (excN ex CK none)) d (.xd [("kind",.str x)])) ex (excO ex CK (some d)) = upd (upd H2 d (.xd [("kind",.str x)])) ex (excO ex CK (some d)):=by
   funext c
   by_cases h1 : c = ex
   ·rw [h1,upd_same,upd_same]
   ·rw [upd_ne h1,upd_ne h1]
    by_cases h2 : c = d
    ·rw [h2,upd_same,upd_same]
    ·rw [upd_ne h2,upd_ne h2,upd_ne h1]
  rw [hu]
  refine q2 hnone ex d _ ((e.trans (Ext.new hd2 _)).trans (Ext.new (by rw [upd_ne (Ne.symm hne)];exact hex) _)) upd_same (by rw [upd_ne hne,upd_same])
abbrev s_way_of : Stmt:=top 16
theorem sc_way_of : FnScope ["plan","kind"] ["plan","kind"] (defScope s_way_of):=⟨rfl,rfl,rfl,by decide +kernel,rfl,by decide +kernel,by decide +kernel⟩
theorem ok_way_of {f : Addr} {fd : FuncData} (F : Fun K "way_of" "way_of" s_way_of f fd) (C_kind_of : CallOkX P w K mg base "kind_of" 4 ["plan","kind"] (spKind CK)) : FnOk P w K mg base (CXF P w) 5 f fd ["plan","kind"] (spWay CK):=by
 refine F.okX sc_way_of (fun vs H Q E h=>?_) (fun cdv A outer s H vs Q E hr h=>?_)
 ·obtain ⟨ks,k,v,x,rfl,_⟩:=h
  rfl
 obtain ⟨ks,k,v,x,rfl,hd,hN,hx,q1,q2⟩:=h
 refine' ⟨_,?hh,?rr⟩
 case hh=>refine' pss_one ?hg;(case hg=>refine' ps_ret ?hf;(case hf=>refine' pe_ix ix_tup ?he pe_int (fun _ _=>rfl);(case he=>refine' pe_clX xe_cx C_kind_of hr ?hc rfl ?hd;(case hc=>refine' pa_c (pv 0) ?hb;(case hb=>refine' pa_c (pv 1) pa_nil));(case hd=>decide))))
 refine ⟨_,rfl,_,rfl,ks,k,v,x,rfl,hd,hN,hx,fun i d u H' hi hg e hu=>?_,fun hn ex d H' e h1 h2 e' C' z h3=>by cases z;exact q2 hn ex d H' e h1 h2⟩
 obtain ⟨y,wd,bd,rfl⟩:=hN d (List.mem_of_getElem? hg)
 obtain ⟨c,cs,rfl,_,hc,v3,r3,rfl,h3,v4,r4,rfl,h4,v5,r5,rfl,h5,rfl⟩:=hu
 exact ⟨c,_,_,_,rfl,rfl,SqT.of hc,rfl,q1 i _ _ _ hi hg e h4⟩
end
end K02
end

section
set_option Elab.async false
set_option linter.all false
set_option maxRecDepth 100000
set_option maxHeartbeats 1000000
namespace K02
open PySem PySem.Spec L2 PyProof.Rows PySem.W
structure XcF (K : PySem.W.Frag) (CE CL CK CC CT : Addr) : Prop where
 mL : mroIn K CL (.ref CE) = some true
 mK : mroIn K CK (.ref CE) = some true
 kL : kindIn K CL = true
 kK : kindIn K CK = true
 aL : attrIn K CL "lane" = true
 aK : attrIn K CK "kind" = true
 iLV : kitOne K (.ref CL) (.type "ValueError") = some true
 iLL : kitOne K (.ref CL) (.ref CL) = some true
 iLK : kitOne K (.ref CL) (.ref CK) = some false
 iLC : kitOne K (.ref CL) (.ref CC) = some false
 iLT : kitOne K (.ref CL) (.ref CT) = some false
 iKV : kitOne K (.ref CK) (.type "ValueError") = some true
 iKL : kitOne K (.ref CK) (.ref CL) = some false
 iKK : kitOne K (.ref CK) (.ref CK) = some true
 iKC : kitOne K (.ref CK) (.ref CC) = some false
 iKT : kitOne K (.ref CK) (.ref CT) = some false
def toldL (x : Str) : PyData:=.tuple [.bool true,.bool true,.bool false,.bool false,.str x]
def toldK (x : Str) : PyData:=.tuple [.bool true,.bool false,.bool true,.bool false,.str x]
def spRef : Sp:=fun vs H Q _=>∃ (ls ks : List PyData) (v : V) (x : Str) (wy : Int),vs = [v,.str x,.int wy]/\IsD [] H (.tuple [.tuple ls,.tuple ks]) v/\Named ls/\Named3 ks/\x.length <= 1000 /\
 ((wy = 0/\firstIs ls x = none/\∀ u H',Ext [] H H'->IsD [] H' (toldL x) u->Q u H')\/(wy = 1/\firstIs ks x = none/\∀ u H',Ext [] H H'->IsD [] H' (toldK x) u->Q u H'))
section
variable {P : Program} {w : World} {K : PySem.W.Frag} {mg : Str->Option Value} {base : Heap} {CE CL CK CC CT : Addr}
abbrev s__law_refused : Stmt:=top 34
theorem sc__law_refused : FnScope ["_law_plan_here","_law_name","_law_way","_law_told","e"] ["_law_plan_here","_law_name","_law_way"] (defScope s__law_refused):=⟨rfl,rfl,rfl,by decide +kernel,rfl,by decide +kernel,by decide +kernel⟩
theorem ok_refused {f : Addr} {fd : FuncData} (F : Fun K "_law_refused" "_law_refused" s__law_refused f fd) (T : TxC K mg CE CL CK CC CT) (Xc : XcF K CE CL CK CC CT) (C_lane_number : CallOkX P w K mg base "lane_number" 4 ["plan","name"] (spLane CL)) (C_way_of : CallOkX P w K mg base "way_of" 5 ["plan","kind"] (spWay CK)) : FnOk P w K mg base CX0 6 f fd ["_law_plan_here","_law_name","_law_way"] spRef:=by
 refine F.ok sc__law_refused (fun vs H Q E h=>?_) (fun cdv A outer s H vs Q E hr h=>?_)
 ·obtain ⟨ls,ks,v,x,wy,rfl,_⟩:=h
  rfl
 obtain ⟨ls,ks,v,x,wy,rfl,hd,hN,hN3,hx,q⟩:=h
 refine' ⟨_,?hh,?rr⟩
 case hh=>refine' pss_cons ?hub ?hvb;(case hub=>refine' ps_set sc__law_refused.nd (ixAt 3) (Or.inl rfl) ?hb;(case hb=>refine' pe_tup pa_nil));(case hvb=>refine' pss_cons ?hsb ?htb;(case hsb=>refine' ps_try ?hpb ?hqb sc__law_refused.nd (ixAt 4) T.d_LaneError T.x_LaneError;(case hpb=>intro _ _;refine' pss_one ?hp;(case hp=>refine' ps_if ?hm ?hn ?ho;(case hm=>refine' pt_cmpR op_eq (pv 2) pe_int (nomark _));(case hn=>refine' pss_one ?hg;(case hg=>refine' ps_expr ?hf;(case hf=>refine' pe_clX xe_tr C_lane_number hr ?hd rfl ?he;(case hd=>refine' pa_c (pv 0) ?hc;(case hc=>refine' pa_c (pv 1) pa_nil));(case he=>decide))));(case ho=>refine' pss_one ?hl;(case hl=>refine' ps_expr ?hk;(case hk=>refine' pe_clX xe_tr C_way_of hr ?hi rfl ?hj;(case hi=>refine' pa_c (pv 0) ?hh;(case hh=>refine' pa_c (pv 1) pa_nil));(case hj=>decide))))));(case hqb=>intro _;refine' pss_cons ?hnb ?hob;(case hnb=>refine' ps_set sc__law_refused.nd (ixAt 3) (Or.inl rfl) ?hC;(case hC=>refine' pe_tup ?hB;(case hB=>refine' pa_c ?hz ?hA;(case hz=>refine' pe_callB call_isix rfl T.b_isinstance boot_isi ?hr;(case hr=>refine' pa_c (pv 4) ?hq;(case hq=>refine' pa_c (pe_bltn (v:=.ty "ValueError") rfl T.b_ValueError boot_tVE rfl) pa_nil)));(case hA=>refine' pa_c ?hx ?hy;(case hx=>refine' pe_callB call_isix rfl T.b_isinstance boot_isi ?ht;(case ht=>refine' pa_c (pv 4) ?hs;(case hs=>refine' pa_c (pe_gl T.c_NoLane) pa_nil)));(case hy=>refine' pa_c ?hw pa_nil;(case hw=>refine' pe_callB call_isix rfl T.b_isinstance boot_isi ?hv;(case hv=>refine' pa_c (pv 4) ?hu;(case hu=>refine' pa_c (pe_gl T.c_NoKind) pa_nil))))))));(case hob=>refine' pss_cons ?hlb ?hmb;(case hlb=>refine' ps_set sc__law_refused.nd (ixAt 3) (Or.inl rfl) ?hN;(case hN=>refine' pe_op op_catT (pv 3) ?hM;(case hM=>refine' pe_tup ?hL;(case hL=>refine' pa_c ?hK pa_nil;(case hK=>refine' pe_or ?hI ?hJ;(case hI=>refine' pe_callB call_isix rfl T.b_isinstance boot_isi ?hE;(case hE=>refine' pa_c (pv 4) ?hD;(case hD=>refine' pa_c (pe_gl T.c_NoCard) pa_nil)));(case hJ=>refine' pe_one ?hH;(case hH=>refine' pe_callB call_isix rfl T.b_isinstance boot_isi ?hG;(case hG=>refine' pa_c (pv 4) ?hF;(case hF=>refine' pa_c (pe_gl T.c_NoText) pa_nil)))))))));(case hmb=>refine' pss_one ?hkb;(case hkb=>refine' ps_if ?hhb ?hib ?hjb;(case hhb=>refine' pt_val ?hQ;(case hQ=>refine' pe_callB call_isix rfl T.b_isinstance boot_isi ?hP;(case hP=>refine' pa_c (pv 4) ?hO;(case hO=>refine' pa_c (pe_gl T.c_NoLane) pa_nil))));(case hib=>refine' pss_one ?hV;(case hV=>refine' ps_set sc__law_refused.nd (ixAt 3) (Or.inl rfl) ?hU;(case hU=>refine' pe_op op_catT (pv 3) ?hT;(case hT=>refine' pe_tup ?hS;(case hS=>refine' pa_c ?hR pa_nil;(case hR=>refine' pe_xfld (pv 4)))))));(case hjb=>refine' pss_one ?hgb;(case hgb=>refine' ps_if ?heb ?hfb pss_nil;(case heb=>refine' pt_val ?hY;(case hY=>refine' pe_callB call_isix rfl T.b_isinstance boot_isi ?hX;(case hX=>refine' pa_c (pv 4) ?hW;(case hW=>refine' pa_c (pe_gl T.c_NoKind) pa_nil))));(case hfb=>refine' pss_one ?hdb;(case hdb=>refine' ps_set sc__law_refused.nd (ixAt 3) (Or.inl rfl) ?hcb;(case hcb=>refine' pe_op op_catT (pv 3) ?hbb;(case hbb=>refine' pe_tup ?hab;(case hab=>refine' pa_c ?hZ pa_nil;(case hZ=>refine' pe_xfld (pv 4))))))))))))));(case htb=>refine' pss_one ?hrb;(case hrb=>refine' ps_ret (pv 3))))
 refine ⟨by show 0 <= sizeLine;decide,fun p hp=>?_⟩
 have e1 : Ext [] H (upd H p (.tup [])):=Ext.new hp _
 have hd1:=IsD.ext e1 hd
 refine ⟨_,rfl,rfl,_,rfl,?_⟩
 rcases q with ⟨rfl,hn,q⟩ | ⟨rfl,hn,q⟩
 ·refine iteT ?_
  refine ⟨_,rfl,_,rfl,ls,.tuple ks,v,x,rfl,hd1,hN,hx,fun i H' z=>absurd (hn.symm.trans z) (by simp),fun _ ex dx H2 e2 he2 hdx e' C' h1 h2=>?_⟩
  cases h1
  obtain ⟨rfl,_⟩:=excO_inj (Option.some.inj (he2.symm.trans h2))
  refine ⟨Xc.mL,?_⟩
  refine ⟨_,rfl,ex,CL,dx,_,_,_,_,rfl,he2,hdx,Xc.kL,rfl,Xc.iLV,_,rfl,ex,CL,dx,_,_,_,_,rfl,he2,hdx,Xc.kL,rfl,Xc.iLL,_,rfl,ex,CL,dx,_,_,_,_,rfl,he2,hdx,Xc.kL,rfl,Xc.iLK,by show 3 <= sizeLine;decide,fun p3 hp3=>?_⟩
  generalize hH3 : upd H2 p3 (.tup [.bl true,.bl true,.bl false]) = H3
  have he3 : H3 ex = some (excO ex CL (some dx)):=by rw [<- hH3,upd_ne (ne_of_none he2 hp3)];exact he2
  have hd3 : H3 dx = some (.xd [("lane",.str x)]):=by rw [<- hH3,upd_ne (ne_of_none hdx hp3)];exact hdx
  have ht3 : H3 p3 = some (.tup [.bl true,.bl true,.bl false]):=by rw [<- hH3,upd_same]
  have e3 : Ext [] H2 H3:=hH3 ▸ Ext.new hp3 _
  refine ⟨_,rfl,_,rfl,ex,CL,dx,_,_,_,_,rfl,he3,hd3,Xc.kL,rfl,Xc.iLC,_,rfl,?_⟩
  refine iteF ⟨_,rfl,ex,CL,dx,_,_,_,_,rfl,he3,hd3,Xc.kL,rfl,Xc.iLT,by show 1 <= sizeLine;decide,fun p4 hp4=>?_⟩
  have ht4 : upd H3 p4 (.tup [.bl false]) p3 = some (.tup [.bl true,.bl true,.bl false]):=(upd_ne (ne_of_none ht3 hp4)).trans ht3
  refine ⟨_,_,_,_,rfl,rfl,SqT.of ht4,SqT.of upd_same,by simp,by show 4 <= sizeLine;decide,fun z=>absurd z (by simp),fun _ p5 hp5=>?_⟩
  generalize hH5 : upd (upd H3 p4 (.tup [.bl false])) p5 (.tup ([.bl true,.bl true,.bl false] ++ [.bl false])) = H5
  have e5 : Ext [] H3 H5:=hH5 ▸ (Ext.new hp4 _).trans (Ext.new hp5 _)
  have he5 : H5 ex = some (excO ex CL (some dx)):=e5.old _ _ (by simp) he3 (by intro ps z;cases z)
  have hd5 : H5 dx = some (.xd [("lane",.str x)]):=e5.old _ _ (by simp) hd3 (by intro ps z;cases z)
  have ht5 : H5 p5 = some (.tup [.bl true,.bl true,.bl false,.bl false]):=by rw [<- hH5,upd_same];rfl
  refine ⟨_,rfl,ex,CL,dx,_,_,_,_,rfl,he5,hd5,Xc.kL,rfl,Xc.iLL,_,rfl,iteT ?_⟩
  refine ⟨_,rfl,_,rfl,ex,CL,dx,_,_,rfl,he5,hd5,Xc.aL,rfl,by show 1 <= sizeLine;decide,fun p6 hp6=>?_⟩
  have ht6 : upd H5 p6 (.tup [.str x]) p5 = some (.tup [.bl true,.bl true,.bl false,.bl false]):=(upd_ne (ne_of_none ht5 hp6)).trans ht5
  refine ⟨_,_,_,_,rfl,rfl,SqT.of ht6,SqT.of upd_same,by simp,by show 5 <= sizeLine;decide,fun z=>absurd z (by simp),fun _ p7 hp7=>?_⟩
  refine ⟨_,rfl,q _ _ ((((e1.trans e2).trans e3).trans e5).trans ((Ext.new hp6 _).trans (Ext.new hp7 _))) ?_⟩
  exact ⟨p7,_,rfl,by simp,upd_same,_,_,rfl,rfl,_,_,rfl,rfl,_,_,rfl,rfl,_,_,rfl,rfl,_,_,rfl,rfl,rfl⟩
 ·refine iteF ?_
  refine ⟨_,rfl,_,rfl,ks,.tuple ls,v,x,rfl,hd1,hN3,hx,fun i _ _ H' z=>absurd (hn.symm.trans z) (by simp),fun _ ex dx H2 e2 he2 hdx e' C' h1 h2=>?_⟩
  cases h1
  obtain ⟨rfl,_⟩:=excO_inj (Option.some.inj (he2.symm.trans h2))
  refine ⟨Xc.mK,?_⟩
  refine ⟨_,rfl,ex,CK,dx,_,_,_,_,rfl,he2,hdx,Xc.kK,rfl,Xc.iKV,_,rfl,ex,CK,dx,_,_,_,_,rfl,he2,hdx,Xc.kK,rfl,Xc.iKL,_,rfl,ex,CK,dx,_,_,_,_,rfl,he2,hdx,Xc.kK,rfl,Xc.iKK,by show 3 <= sizeLine;decide,fun p3 hp3=>?_⟩
  generalize hH3 : upd H2 p3 (.tup [.bl true,.bl false,.bl true]) = H3
  have he3 : H3 ex = some (excO ex CK (some dx)):=by rw [<- hH3,upd_ne (ne_of_none he2 hp3)];exact he2
  have hd3 : H3 dx = some (.xd [("kind",.str x)]):=by rw [<- hH3,upd_ne (ne_of_none hdx hp3)];exact hdx
  have ht3 : H3 p3 = some (.tup [.bl true,.bl false,.bl true]):=by rw [<- hH3,upd_same]
  have e3 : Ext [] H2 H3:=hH3 ▸ Ext.new hp3 _
  refine ⟨_,rfl,_,rfl,ex,CK,dx,_,_,_,_,rfl,he3,hd3,Xc.kK,rfl,Xc.iKC,_,rfl,?_⟩
  refine iteF ⟨_,rfl,ex,CK,dx,_,_,_,_,rfl,he3,hd3,Xc.kK,rfl,Xc.iKT,by show 1 <= sizeLine;decide,fun p4 hp4=>?_⟩
  have ht4 : upd H3 p4 (.tup [.bl false]) p3 = some (.tup [.bl true,.bl false,.bl true]):=(upd_ne (ne_of_none ht3 hp4)).trans ht3
  refine ⟨_,_,_,_,rfl,rfl,SqT.of ht4,SqT.of upd_same,by simp,by show 4 <= sizeLine;decide,fun z=>absurd z (by simp),fun _ p5 hp5=>?_⟩
  generalize hH5 : upd (upd H3 p4 (.tup [.bl false])) p5 (.tup ([.bl true,.bl false,.bl true] ++ [.bl false])) = H5
  have e5 : Ext [] H3 H5:=hH5 ▸ (Ext.new hp4 _).trans (Ext.new hp5 _)
  have he5 : H5 ex = some (excO ex CK (some dx)):=e5.old _ _ (by simp) he3 (by intro ps z;cases z)
  have hd5 : H5 dx = some (.xd [("kind",.str x)]):=e5.old _ _ (by simp) hd3 (by intro ps z;cases z)
  have ht5 : H5 p5 = some (.tup [.bl true,.bl false,.bl true,.bl false]):=by rw [<- hH5,upd_same];rfl
  refine ⟨_,rfl,ex,CK,dx,_,_,_,_,rfl,he5,hd5,Xc.kK,rfl,Xc.iKL,_,rfl,iteF ?_⟩
  refine ⟨_,rfl,ex,CK,dx,_,_,_,_,rfl,he5,hd5,Xc.kK,rfl,Xc.iKK,_,rfl,iteT ?_⟩
  refine ⟨_,rfl,_,rfl,ex,CK,dx,_,_,rfl,he5,hd5,Xc.aK,rfl,by show 1 <= sizeLine;decide,fun p6 hp6=>?_⟩
  have ht6 : upd H5 p6 (.tup [.str x]) p5 = some (.tup [.bl true,.bl false,.bl true,.bl false]):=(upd_ne (ne_of_none ht5 hp6)).trans ht5
  refine ⟨_,_,_,_,rfl,rfl,SqT.of ht6,SqT.of upd_same,by simp,by show 5 <= sizeLine;decide,fun z=>absurd z (by simp),fun _ p7 hp7=>?_⟩
  refine ⟨_,rfl,q _ _ ((((e1.trans e2).trans e3).trans e5).trans ((Ext.new hp6 _).trans (Ext.new hp7 _))) ?_⟩
  exact ⟨p7,_,rfl,by simp,upd_same,_,_,rfl,rfl,_,_,rfl,rfl,_,_,rfl,rfl,_,_,rfl,rfl,_,_,rfl,rfl,rfl⟩
end
end K02
end

section
set_option Elab.async false
set_option linter.all false
set_option maxRecDepth 100000
set_option maxHeartbeats 1000000
namespace K02
open PySem PySem.Spec L2 PyProof.Rows
theorem small_all : ∀ {ds : List PyData},(∀ d ∈ ds,smallD d = true)->smallDs ds = true
 | [],_=>rfl
 | d :: ds,h=>by
  show (smallD d && smallDs ds) = true
  rw [h d List.mem_cons_self,small_all fun e he=>h e (List.mem_cons_of_mem _ he)]
  rfl
theorem nm_small {x : Str} (h : nm x = true) : smallD (.str x) = true:=by
 unfold nm at h
 split at h
 ·cases h
 ·rw [Bool.and_eq_true,Bool.and_eq_true,decide_eq_true_eq,decide_eq_true_eq] at h
  show decide (x.length <= 1000) = true
  exact decide_eq_true (by omega)
theorem lane_form {d : PyData} (h : laneD d = true) : ∃ x b,d = .tuple [.str x,.int b]/\nm x = true/\1 <= b/\b <= 99:=by
 match d,h with
 | .tuple [n,b],h =>
  have h' : (nmD n && boundD b) = true:=h
  rw [Bool.and_eq_true] at h'
  match n,b,h' with
  | .str x,.int i,h' =>
   have h2 : (decide (1 <= i) && decide (i <= 99)) = true:=h'.2
   rw [Bool.and_eq_true,decide_eq_true_eq,decide_eq_true_eq] at h2
   exact ⟨x,i,rfl,h'.1,h2.1,h2.2⟩
theorem lane_small {d : PyData} (h : laneD d = true) : smallD d = true:=by
 obtain ⟨x,b,rfl,hx,_⟩:=lane_form h
 show (smallD (.str x) && (smallD (.int b) && true)) = true
 rw [nm_small hx]
 rfl
structure GoodL (ls : List PyData) : Prop where
 one : 1 <= ls.length
 six : ls.length <= 6
 all : ∀ d ∈ ls,laneD d = true
 nd : (ls.map firstD).Nodup
theorem goodL {ls : List PyData} (h : lanesD (.tuple ls) = true) : GoodL ls:=by
 have h' : (tupD (.tuple ls) 1 6 && (ls.all laneD && unlikeD ls)) = true:=h
 rw [Bool.and_eq_true,Bool.and_eq_true] at h'
 have t:=tup_len h'.1
 exact ⟨by omega,by omega,List.all_eq_true.mp h'.2.1,of_decide_eq_true h'.2.2⟩
theorem way_mem {cnt : Int} : ∀ {ws : List PyData} {a : Int},wayOk cnt a ws = true->∀ d ∈ ws,∃ i,d = .int i/\a < i/\i < cnt
 | [],_,_=>by simp
 | .int j :: r,a,h=>by
  have h' : ((decide (a < j) && decide (j < cnt)) && wayOk cnt j r) = true:=h
  rw [Bool.and_eq_true,Bool.and_eq_true,decide_eq_true_eq,decide_eq_true_eq] at h'
  intro d hd
  rcases List.mem_cons.mp hd with rfl | hd
  ·exact ⟨j,rfl,h'.1.1,h'.1.2⟩
  ·obtain ⟨i,rfl,h1,h2⟩:=way_mem h'.2 d hd
   exact ⟨i,rfl,by omega,h2⟩
structure GoodK (n : Int) (x : Str) (ws bs : List PyData) : Prop where
 nmx : nm x = true
 one : 1 <= ws.length
 most : (ws.length : Int) <= n
 way : wayOk n (-1) ws = true
 len : bs.length = ws.length
 bds : ∀ d ∈ bs,boundD d = true
theorem kind_form {n : Int} {d : PyData} (h : kindD n d = true) : ∃ x ws bs,d = .tuple [.str x,.tuple ws,.tuple bs]/\GoodK n x ws bs:=by
 match d,h with
 | .tuple [nm1,w,b],h =>
  have h' : (nmD nm1 && (wayD w n && boundsD b (lenD w))) = true:=h
  rw [Bool.and_eq_true,Bool.and_eq_true] at h'
  match nm1,w,b,h' with
  | .str x,.tuple ws,.tuple bs,h' =>
   have h1 : (tupD (.tuple ws) 1 n && wayOk n (-1) ws) = true:=h'.2.1
   have h2 : (tupD (.tuple bs) (ws.length : Nat) (ws.length : Nat) && bs.all boundD) = true:=h'.2.2
   rw [Bool.and_eq_true] at h1 h2
   have t1:=tup_len h1.1
   have t2:=tup_len h2.1
   exact ⟨x,ws,bs,rfl,⟨h'.1,by omega,t1.2,h1.2,by omega,List.all_eq_true.mp h2.2⟩⟩
theorem ints_small {n a : Int} {ws : List PyData} (h : wayOk n a ws = true) : ∀ d ∈ ws,smallD d = true:=fun d hd=>by
 obtain ⟨i,rfl,_⟩:=way_mem h d hd
 rfl
theorem bound_small {d : PyData} (h : boundD d = true) : smallD d = true:=by
 cases d with
 | int i=>rfl
 | _=>cases h
structure GoodP (ls ks : List PyData) : Prop where
 lanes : lanesD (.tuple ls) = true
 one : 1 <= ks.length
 six : ks.length <= 6
 all : ∀ d ∈ ks,kindD (ls.length : Nat) d = true
theorem plan_form {d : PyData} (h : planD d = true) : ∃ ls ks,d = .tuple [.tuple ls,.tuple ks]/\GoodP ls ks:=by
 match d,h with
 | .tuple [l,k],h =>
  have h' : (lanesD l && kindsD k (lenD l)) = true:=h
  rw [Bool.and_eq_true] at h'
  match l,k,h' with
  | .tuple ls,.tuple ks,h' =>
   have h2 : (tupD (.tuple ks) 1 6 && (ks.all (kindD (ls.length : Nat)) && unlikeD ks)) = true:=h'.2
   rw [Bool.and_eq_true,Bool.and_eq_true] at h2
   have t:=tup_len h2.1
   exact ⟨ls,ks,rfl,h'.1,by omega,by omega,List.all_eq_true.mp h2.2.1⟩
theorem kind_small {n : Int} {d : PyData} (h : kindD n d = true) : smallD d = true:=by
 obtain ⟨x,ws,bs,rfl,g⟩:=kind_form h
 show (smallD (.str x) && (smallDs ws && (smallDs bs && true))) = true
 rw [nm_small g.nmx,small_all (ints_small g.way),small_all fun d hd=>bound_small (g.bds d hd)]
 rfl
theorem plan_small {ls ks : List PyData} (g : GoodP ls ks) : smallD (.tuple [.tuple ls,.tuple ks]) = true:=by
 show (smallDs ls && (smallDs ks && true)) = true
 rw [small_all fun d hd=>lane_small ((goodL g.lanes).all d hd),small_all fun d hd=>kind_small (g.all d hd)]
 rfl
theorem kinds_nd {d : PyData} {ls ks : List PyData} (h : planD (.tuple [.tuple ls,.tuple ks]) = true) : (ks.map firstD).Nodup:=by
 have h' : (lanesD (.tuple ls) && kindsD (.tuple ks) (lenD (.tuple ls))) = true:=h
 rw [Bool.and_eq_true] at h'
 have h2 : (tupD (.tuple ks) 1 6 && (ks.all (kindD (ls.length : Nat)) && unlikeD ks)) = true:=h'.2
 rw [Bool.and_eq_true,Bool.and_eq_true] at h2
 exact of_decide_eq_true h2.2.2
theorem inL_one {c : Nat} (h : inL ⟨#[c]⟩ = true) : c < 1114112:=by
 unfold inL at h
 rw [PySem.StrLaws.found_one] at h
 have h1 : c ∈ az.cps.toList:=of_decide_eq_true h
 have h2 : ∀ x ∈ az.cps.toList,x < 1114112:=by decide +kernel
 exact h2 c h1
theorem nm_ok {x : Str} (h : nm x = true) : PySem.PyData.strOk x = true/\x.length <= 8:=by
 unfold nm at h
 split at h
 ·cases h
 ·rw [Bool.and_eq_true,Bool.and_eq_true,decide_eq_true_eq,decide_eq_true_eq] at h
  refine ⟨?_,by omega⟩
  unfold PySem.PyData.strOk
  rw [Array.all_eq_true']
  intro c hc
  have:=List.all_eq_true.mp h.2.2 ⟨#[c]⟩ (List.mem_map.mpr ⟨c,Array.mem_toList_iff.mpr hc,rfl⟩)
  exact decide_eq_true (inL_one this)
def Sh (n : Nat) (d : PyData) : Prop:=d.canLay0 = true/\d.depth <= n
theorem Sh.more {n m : Nat} {d : PyData} (h : Sh n d) (k : n <= m) : Sh m d:=⟨h.1,Nat.le_trans h.2 k⟩
theorem sh_all {n : Nat} : ∀ {ds : List PyData},(∀ d ∈ ds,Sh n d)->PyData.canLayAll0 ds = true/\PyData.depthAll ds <= n
 | [],_=>⟨rfl,Nat.zero_le _⟩
 | d :: ds,h=>by
  obtain ⟨a,b⟩:=h d List.mem_cons_self
  obtain ⟨c,e⟩:=sh_all fun x hx=>h x (List.mem_cons_of_mem _ hx)
  refine ⟨?_,?_⟩
  ·show (d.canLay0 && PyData.canLayAll0 ds) = true
   rw [a,c]
   rfl
  ·show max d.depth (PyData.depthAll ds) <= n
   omega
theorem Sh.tup {n : Nat} {ds : List PyData} (h : ∀ d ∈ ds,Sh n d) : Sh (n + 1) (.tuple ds):=by
 obtain ⟨a,b⟩:=sh_all h
 exact ⟨a,by show PyData.depthAll ds + 1 <= n + 1;omega⟩
theorem Sh.shaped {n : Nat} {d : PyData} (h : Sh n d) (k : n <= 64:=by decide) : SeqAt.shaped d = true:=by
 unfold SeqAt.shaped
 rw [h.1,decide_eq_true (Nat.le_trans h.2 k)]
 rfl
theorem Sh.refl {n : Nat} {d : PyData} (h : Sh n d) : PyData.eqv d d = true:=SeqAt.eqv_refl d h.1
theorem sh_int (i : Int) : Sh 0 (.int i):=⟨rfl,Nat.le_refl _⟩
theorem sh_bool (b : Bool) : Sh 0 (.bool b):=⟨rfl,Nat.le_refl _⟩
theorem sh_nm {x : Str} (h : nm x = true) : Sh 0 (.str x):=⟨(nm_ok h).1,Nat.le_refl _⟩
theorem sh_bound {d : PyData} (h : boundD d = true) : Sh 0 d:=by
 cases d with
 | int i=>exact sh_int i
 | _=>cases h
theorem sh_way {n a : Int} {ws : List PyData} (h : wayOk n a ws = true) : Sh 1 (.tuple ws):=Sh.tup fun d hd=>by
 obtain ⟨i,rfl,_⟩:=way_mem h d hd
 exact sh_int i
theorem sh_plan {ls ks : List PyData} (g : GoodP ls ks) : Sh 4 (.tuple [.tuple ls,.tuple ks]):=by
 refine Sh.tup fun d hd=>?_
 rcases List.mem_cons.mp hd with rfl | hd
 ·refine (Sh.tup (n:=1) fun d hd=>?_).more (by decide)
  obtain ⟨x,b,rfl,hx,_⟩:=lane_form ((goodL g.lanes).all d hd)
  refine Sh.tup fun e he=>?_
  rcases List.mem_cons.mp he with rfl | he
  ·exact sh_nm hx
  ·rw [show e = .int b by simpa using he];exact sh_int b
 ·rw [show d = .tuple ks by simpa using hd]
  refine Sh.tup fun d hd=>?_
  obtain ⟨x,ws,bs,rfl,k⟩:=kind_form (g.all d hd)
  refine Sh.tup fun e he=>?_
  rcases List.mem_cons.mp he with rfl | he
  ·exact (sh_nm k.nmx).more (by decide)
  ·rcases List.mem_cons.mp he with rfl | he
   ·exact sh_way k.way
   ·rw [show e = .tuple bs by simpa using he];exact Sh.tup fun d hd=>sh_bound (k.bds d hd)
end K02
end

section
set_option Elab.async false
set_option linter.all false
set_option maxRecDepth 100000
set_option maxHeartbeats 1000000
namespace K02
open PySem PySem.Spec L2 PyProof.Rows
theorem xe_never {X : Cx} : XeOk X (fun _ _ _ _ _=>False):=⟨fun _ _ _ _ _ _ _ _ _ h=>h.elim,fun _ _ _ _ _ _ _ _ _ _ h=>h.elim⟩
def spRight (ts : List Addr) : Sp:=fun vs H Q _=>∃ (pd : PyData) (ns : List Str) (v u : V),vs = [v,u]/\planD pd = true/\IsD [] H pd v/\IsD [] H (.list (ns.map .str)) u/\ns.length <= 100/\(∀ x ∈ ns,nm x = true)/\Tb ts H/\∀ H',Ext [] H H'->Q (.bl true) H'
theorem inV_strs (x : Str) (L : List Str) : inV (.str x) (L.map V.str) = decide (x ∈ L):=by
 unfold inV
 rw [List.any_map]
 induction L with
 | nil=>rfl
 | cons y L ih =>
  rw [List.any_cons,ih,Bool.eq_iff_iff]
  simp only [Bool.or_eq_true,decide_eq_true_eq,List.mem_cons]
  have : (((fun z=>eqV z (V.str x)) ∘ V.str) y = true) ↔ x = y:=by
   show (y == x) = true ↔ _
   rw [beq_iff_eq]
   exact eq_comm
  rw [this]
theorem flat_strs (L : List Str) : (L.map V.str).all flatV = true:=by
 rw [List.all_map]
 exact List.all_eq_true.mpr fun _ _=>rfl
theorem first_at {ls : List PyData} (nd : (ls.map firstD).Nodup) {i : Nat} (hi : i < ls.length) : firstIs ls (firstD ls[i]) = some i:=by
 refine findIdx_some_at ls i ls[i] (fun j d hj hd=>?_) (List.getElem?_eq_getElem hi) (by simp)
 have hj' : j < ls.length:=by omega
 rw [List.getElem?_eq_getElem hj'] at hd
 cases hd
 have h1 : (ls.map firstD)[j]'(by simpa using hj') ≠ (ls.map firstD)[i]'(by simpa using hi):=fun z=>by
  have:=(List.getElem_inj nd).mp z
  omega
 rw [List.getElem_map,List.getElem_map] at h1
 simpa using h1
theorem first_none {ls : List PyData} {x : Str} (h : x ∉ ls.map firstD) : firstIs ls x = none:=by
 refine findIdx_none_snoc ls ls.length (fun j d hj hd=>?_) (Nat.le_refl _)
 have hm : d ∈ ls:=List.mem_of_getElem? hd
 have : firstD d ≠ x:=fun z=>h (z ▸ List.mem_map_of_mem hm)
 simpa using this
section
variable {P : Program} {w : World} {K : PySem.W.Frag} {mg : Str->Option Value} {base : Heap} {CE CL CK CC CT : Addr} {ts : List Addr}
structure TxD (K : PySem.W.Frag) (mg : Str->Option Value) : Prop extends Txt K mg where
 b_enumerate : mg "enumerate" = none
abbrev s__law_right : Stmt:=top 35
theorem sc__law_right : FnScope ["_law_plan_here","_law_names","_law_lanes","_law_kinds","_law_name","_law_lane","_law_kind","_law_number","_law_found","_law_way","_law_bounds"] ["_law_plan_here","_law_names"] (defScope s__law_right):=⟨rfl,rfl,rfl,by decide +kernel,rfl,by decide +kernel,by decide +kernel⟩
theorem ok_right {f : Addr} {fd : FuncData} (F : Fun K "_law_right" "_law_right" s__law_right f fd) (T : TxD K mg) (C_lane_number : CallOkX P w K mg base "lane_number" 4 ["plan","name"] (spLane CL)) (C_way_of : CallOkX P w K mg base "way_of" 5 ["plan","kind"] (spWay CK)) (C__law_refused : CallOk P w K mg base "_law_refused" 6 ["_law_plan_here","_law_name","_law_way"] spRef) (C_is_plan : CallOk P w K mg base "is_plan" 8 ["thing"] (sp1 ts planD)) : FnOk P w K mg base CX0 9 f fd ["_law_plan_here","_law_names"] (spRight ts):=by
 refine F.ok sc__law_right (fun vs H Q E h=>?_) (fun cdv A outer s H vs Q E hr h=>?_)
 ·obtain ⟨pd,ns,v,u,rfl,_⟩:=h
  rfl
 obtain ⟨pd,ns,v,u,rfl,hp,hd,hn,hl,hnm,tb,q⟩:=h
 have hu:=hr.units
 refine' ⟨_,?hh,?rr⟩
 case hh=>refine' pss_cons ?hPc ?hQc;(case hPc=>refine' ps_setC sc__law_right.nd (ixAt 2) (Or.inl rfl) rfl ?he (compN ["_law_lane"] 1 []) ?hf ?hg ?hh ?hi ?hj ?hk ?hl;(case he=>exact ⟨rfl,by decide +kernel,by decide +kernel,(show ∀ y : Str × NameKind,y ∈ _->y.2 = NameKind.free->(defScope s__law_right).names.lookup y.1 = some .cell\/(defScope s__law_right).names.lookup y.1 = some .free from by decide +kernel)⟩);(case hf=>decide +kernel);(case hg=>decide);(case hh=>refine' pi_tup ?hb;(case hb=>refine' pe_ix ix_tup (pv 0) pe_int (fun _ _=>rfl)));(case hi=>intro _ _ _ _;refine' pg_name ?hc (ixAt 0) (Or.inl rfl) (Or.inr rfl);(case hc=>exact (show (["_law_lane"] : List Str).Nodup from by decide +kernel)));(case hj=>exact (gown_name (by decide)));(case hk=>intro _ _ _ _;exact pts_nil);(case hl=>intro _ _ _ _;refine' pe_ix ?hd (pv 0) pe_int (fun _ _=>rfl);(case hd=>exact (show IxR _ (rIxT K) from ix_tup))));(case hQc=>refine' pss_cons ?hNc ?hOc;(case hNc=>refine' ps_setC sc__law_right.nd (ixAt 3) (Or.inl rfl) rfl ?hp (compN ["_law_kind"] 1 []) ?hq ?hr ?hs ?ht ?hu ?hv ?hw;(case hp=>exact ⟨rfl,by decide +kernel,by decide +kernel,(show ∀ y : Str × NameKind,y ∈ _->y.2 = NameKind.free->(defScope s__law_right).names.lookup y.1 = some .cell\/(defScope s__law_right).names.lookup y.1 = some .free from by decide +kernel)⟩);(case hq=>decide +kernel);(case hr=>decide);(case hs=>refine' pi_tup ?hm;(case hm=>refine' pe_ix ix_tup (pv 0) pe_int (fun _ _=>rfl)));(case ht=>intro _ _ _ _;refine' pg_name ?hn (ixAt 0) (Or.inl rfl) (Or.inr rfl);(case hn=>exact (show (["_law_kind"] : List Str).Nodup from by decide +kernel)));(case hu=>exact (gown_name (by decide)));(case hv=>intro _ _ _ _;exact pts_nil);(case hw=>intro _ _ _ _;refine' pe_ix ?ho (pv 0) pe_int (fun _ _=>rfl);(case ho=>exact (show IxR _ (rIxT K) from ix_tup))));(case hOc=>refine' pss_cons ?hLc ?hMc;(case hLc=>refine' ps_for PassesOwn.never rfl ?hwb ?hxb ?hyb;(case hwb=>refine' pi_list ?hC;(case hC=>refine' pe_op op_cat ?hA ?hB;(case hA=>refine' pe_op op_cat ?hx (pv 3);(case hx=>refine' pe_op op_cat (pv 1) (pv 2)));(case hB=>refine' pe_lst ?hz;(case hz=>refine' pa_c pe_str ?hy;(case hy=>refine' pa_c pe_str pa_nil)))));(case hxb=>refine' pg_name sc__law_right.nd (ixAt 4) (Or.inl rfl) (Or.inl rfl));(case hyb=>refine' pss_cons ?hub ?hvb;(case hub=>refine' ps_set sc__law_right.nd (ixAt 5) (Or.inl rfl) ?hI;(case hI=>refine' pe_tup ?hH;(case hH=>refine' pa_c pe_bl ?hG;(case hG=>refine' pa_c pe_bl ?hF;(case hF=>refine' pa_c pe_bl ?hE;(case hE=>refine' pa_c pe_bl ?hD;(case hD=>refine' pa_c (pv 4) pa_nil)))))));(case hvb=>refine' pss_cons ?hsb ?htb;(case hsb=>refine' ps_set sc__law_right.nd (ixAt 6) (Or.inl rfl) ?hO;(case hO=>refine' pe_tup ?hN;(case hN=>refine' pa_c pe_bl ?hM;(case hM=>refine' pa_c pe_bl ?hL;(case hL=>refine' pa_c pe_bl ?hK;(case hK=>refine' pa_c pe_bl ?hJ;(case hJ=>refine' pa_c (pv 4) pa_nil)))))));(case htb=>refine' pss_cons ?hqb ?hrb;(case hqb=>refine' ps_if ?hab ?hbb pss_nil;(case hab=>refine' PW.pt ?hY;(case hY=>refine' pw_and ?hW ?hX;(case hW=>refine' pt_cmpR op_notIn_seq (pv 4) (pv 2) ?hP;(case hP=>with_unfolding_all rfl));(case hX=>refine' pw_and1 ?hV;(case hV=>refine' pt_cmpR (op_neD hu) ?hU (pv 5) (nomark _);(case hU=>refine' pe_cl C__law_refused hr ?hS rfl ?hT;(case hS=>refine' pa_c (pv 0) ?hR;(case hR=>refine' pa_c (pv 4) ?hQ;(case hQ=>refine' pa_c pe_int pa_nil)));(case hT=>decide))))));(case hbb=>refine' pss_one ?hZ;(case hZ=>refine' ps_ret pe_bl)));(case hrb=>refine' pss_one ?hpb;(case hpb=>refine' ps_if ?hnb ?hob pss_nil;(case hnb=>refine' PW.pt ?hlb;(case hlb=>refine' pw_and ?hjb ?hkb;(case hjb=>refine' pt_cmpR op_notIn_seq (pv 4) (pv 3) ?hcb;(case hcb=>with_unfolding_all rfl));(case hkb=>refine' pw_and1 ?hib;(case hib=>refine' pt_cmpR (op_neD hu) ?hhb (pv 6) (nomark _);(case hhb=>refine' pe_cl C__law_refused hr ?hfb rfl ?hgb;(case hfb=>refine' pa_c (pv 0) ?heb;(case heb=>refine' pa_c (pv 4) ?hdb;(case hdb=>refine' pa_c pe_int pa_nil)));(case hgb=>decide))))));(case hob=>refine' pss_one ?hmb;(case hmb=>refine' ps_ret pe_bl))))))));(case hMc=>refine' pss_cons ?hJc ?hKc;(case hJc=>refine' ps_for PassesOwn.never rfl ?hVb ?hWb ?hXb;(case hVb=>refine' pi_enumL rfl T.b_enumerate ?hzb;(case hzb=>refine' pa_c (pv 2) pa_nil));(case hWb=>refine' pg_tup rfl ?hDb;(case hDb=>refine' pgs_cons ?hBb ?hCb;(case hBb=>refine' pg_name sc__law_right.nd (ixAt 7) (Or.inl rfl) (Or.inl rfl));(case hCb=>refine' pgs_cons ?hAb pgs_nil;(case hAb=>refine' pg_name sc__law_right.nd (ixAt 4) (Or.inl rfl) (Or.inl rfl)))));(case hXb=>refine' pss_cons ?hTb ?hUb;(case hTb=>refine' ps_set sc__law_right.nd (ixAt 8) (Or.inl rfl) ?hHb;(case hHb=>refine' pe_clX xe_never C_lane_number hr ?hFb rfl ?hGb;(case hFb=>refine' pa_c (pv 0) ?hEb;(case hEb=>refine' pa_c (pv 4) pa_nil));(case hGb=>decide)));(case hUb=>refine' pss_one ?hSb;(case hSb=>refine' ps_if ?hQb ?hRb pss_nil;(case hQb=>refine' PW.pt ?hOb;(case hOb=>refine' pw_or ?hMb ?hNb;(case hMb=>refine' pt_cmpR op_ne (pv 8) (pv 7) (nomark _));(case hNb=>refine' pw_or1 ?hLb;(case hLb=>refine' pt_val ?hKb;(case hKb=>refine' pe_callB call_isi rfl T.b_isinstance boot_isi ?hJb;(case hJb=>refine' pa_c (pv 8) ?hIb;(case hIb=>refine' pa_c (pe_bltn (v:=.ty "bool") rfl T.b_bool boot_tbool rfl) pa_nil)))))));(case hRb=>refine' pss_one ?hPb;(case hPb=>refine' ps_ret pe_bl))))));(case hKc=>refine' pss_cons ?hHc ?hIc;(case hHc=>refine' ps_for PassesOwn.never rfl ?hzc ?hAc ?hBc;(case hzc=>refine' pi_tup ?hYb;(case hYb=>refine' pe_ix ix_tup (pv 0) pe_int (fun _ _=>rfl)));(case hAc=>refine' pg_tup rfl ?hec;(case hec=>refine' pgs_cons ?hcc ?hdc;(case hcc=>refine' pg_name sc__law_right.nd (ixAt 4) (Or.inl rfl) (Or.inl rfl));(case hdc=>refine' pgs_cons ?hac ?hbc;(case hac=>refine' pg_name sc__law_right.nd (ixAt 9) (Or.inl rfl) (Or.inl rfl));(case hbc=>refine' pgs_cons ?hZb pgs_nil;(case hZb=>refine' pg_name sc__law_right.nd (ixAt 10) (Or.inl rfl) (Or.inl rfl))))));(case hBc=>refine' pss_one ?hyc;(case hyc=>refine' ps_if ?hwc ?hxc pss_nil;(case hwc=>refine' PW.pt ?huc;(case huc=>refine' pw_or ?hsc ?htc;(case hsc=>refine' pt_cmpR (op_neD hu) ?hic (pv 9) (nomark _);(case hic=>refine' pe_clX xe_never C_way_of hr ?hgc rfl ?hhc;(case hgc=>refine' pa_c (pv 0) ?hfc;(case hfc=>refine' pa_c (pv 4) pa_nil));(case hhc=>decide)));(case htc=>refine' pw_or1 ?hrc;(case hrc=>refine' pt_not ?hqc;(case hqc=>refine' pt_val ?hpc;(case hpc=>refine' pe_callB call_isi rfl T.b_isinstance boot_isi ?hoc;(case hoc=>refine' pa_c ?hmc ?hnc;(case hmc=>refine' pe_clX xe_never C_way_of hr ?hkc rfl ?hlc;(case hkc=>refine' pa_c (pv 0) ?hjc;(case hjc=>refine' pa_c (pv 4) pa_nil));(case hlc=>decide));(case hnc=>refine' pa_c (pe_bltn (v:=.ty "tuple") rfl T.b_tuple boot_ttuple rfl) pa_nil))))))));(case hxc=>refine' pss_one ?hvc;(case hvc=>refine' ps_ret pe_bl)))));(case hIc=>refine' pss_one ?hGc;(case hGc=>refine' ps_ret ?hFc;(case hFc=>refine' pe_cmpR op_isB ?hEc pe_bl (nomark _);(case hEc=>refine' pe_cl C_is_plan hr ?hCc rfl ?hDc;(case hCc=>refine' pa_c (pv 0) pa_nil);(case hDc=>decide)))))))))
 obtain ⟨ls,ks,rfl,g⟩:=plan_form hp
 have hN : Named ls:=fun d hd=>by
  obtain ⟨x,b,rfl,_⟩:=lane_form ((goodL g.lanes).all d hd)
  exact ⟨x,_,rfl⟩
 have hN3 : Named3 ks:=fun d hd=>by
  obtain ⟨x,ws,bs,rfl,_⟩:=kind_form (g.all d hd)
  exact ⟨x,_,_,rfl⟩
 have ndL:=(goodL g.lanes).nd
 have ndK:=kinds_nd (d:=.none) hp
 have nmL : ∀ x ∈ ls.map firstD,nm x = true:=fun x hx=>by
  obtain ⟨d,hd,rfl⟩:=List.mem_map.mp hx
  obtain ⟨x,b,rfl,h,_⟩:=lane_form ((goodL g.lanes).all d hd)
  exact h
 have nmK : ∀ x ∈ ks.map firstD,nm x = true:=fun x hx=>by
  obtain ⟨d,hd,rfl⟩:=List.mem_map.mp hx
  obtain ⟨x,ws,bs,rfl,k⟩:=kind_form (g.all d hd)
  exact k.nmx
 have l6:=(goodL g.lanes).six
 have k6:=g.six
 have hd0:=hd
 obtain ⟨a,us,rfl,_,ha,v1,r1,rfl,hda,v2,r2,rfl,hdb,rfl⟩:=hd
 obtain ⟨b,ws,rfl,_,hb,hws⟩:=hda
 obtain ⟨c,cs,rfl,_,hc,hcs⟩:=hdb
 obtain ⟨nl,nvs,rfl,_,hnl,hnvs⟩:=hn
 obtain rfl:=hnvs.strs_of
 have elw:=hws.length
 have elc:=hcs.length
 refine ⟨_,rfl,a,_,_,_,rfl,rfl,SqT.of ha,rfl,b,rfl,⟨ws,SqT.of hb⟩,lcomp_by0 (yields_tup (ys:=ws)) (fun i xs H2=>H2 = H/\xs = ((ls.take i).map firstD).map V.str) ⟨rfl,rfl⟩ (fun _ _ _ h=>by rw [h.1];exact SqT.of hb) ?_ ?_⟩
 ·rintro i y xs H9 hy hi ⟨rfl,rfl⟩
  have hi' : i < ls.length:=by omega
  have hdi:=List.getElem?_eq_getElem hi'
  obtain ⟨y',hy',hdy⟩:=hws.get (i:=i) hdi
  rw [hy] at hy'
  cases hy'
  have hm:=List.getElem_mem hi'
  obtain ⟨z,rr,hzr⟩:=hN _ hm
  rw [hzr] at hdy
  obtain ⟨c',cs',rfl,_,hc',v3,r3,rfl,h3,hr3⟩:=hdy
  obtain rfl : v3 = .str z:=h3
  refine ⟨_,rfl,c',_,_,.str z,rfl,rfl,SqT.of hc',atI_nat (j:=0) rfl,?_,nx hi ⟨rfl,?_⟩⟩
  ·rw [List.length_map,List.length_map,List.length_take]
   exact small1000 (by omega)
  ·rw [List.take_add_one,hdi,List.map_append,List.map_append,hzr]
   rfl
 rintro xs H9 ⟨rfl,rfl⟩ p1 hp1
 rw [elw,List.take_length]
 generalize hLN : ls.map firstD = LN at *
 generalize hH1 : upd H9 p1 (.lst (LN.map V.str)) = H1
 have e1 : Ext [] H9 H1:=hH1 ▸ Ext.new hp1 _
 have t1 : H1 p1 = some (.lst (LN.map V.str)):=by rw [<- hH1,upd_same]
 have ha1:=e1.tup (by simp) ha
 have hc1:=e1.tup (by simp) hc
 refine ⟨_,rfl,a,_,_,_,rfl,rfl,SqT.of ha1,rfl,c,rfl,⟨cs,SqT.of hc1⟩,lcomp_by0 (yields_tup (ys:=cs)) (fun i xs H2=>H2 = H1/\xs = ((ks.take i).map firstD).map V.str) ⟨rfl,rfl⟩ (fun _ _ _ h=>by rw [h.1];exact SqT.of hc1) ?_ ?_⟩
 ·rintro i y xs H8 hy hi ⟨rfl,rfl⟩
  have hi' : i < ks.length:=by omega
  have hdi:=List.getElem?_eq_getElem hi'
  obtain ⟨y',hy',hdy⟩:=hcs.get (i:=i) hdi
  rw [hy] at hy'
  cases hy'
  have hm:=List.getElem_mem hi'
  obtain ⟨z,wr,br,hzr⟩:=hN3 _ hm
  rw [hzr] at hdy
  obtain ⟨c',cs',rfl,_,hc',v3,r3,rfl,h3,hr3⟩:=IsD.ext e1 hdy
  obtain rfl : v3 = .str z:=h3
  refine ⟨_,rfl,c',_,_,.str z,rfl,rfl,SqT.of hc',atI_nat (j:=0) rfl,?_,nx hi ⟨rfl,?_⟩⟩
  ·rw [List.length_map,List.length_map,List.length_take]
   exact small1000 (by omega)
  ·rw [List.take_add_one,hdi,List.map_append,List.map_append,hzr]
   rfl
 rintro xs H8 ⟨rfl,rfl⟩ p2 hp2
 rw [elc,List.take_length]
 generalize hKN : ks.map firstD = KN at *
 generalize hH2 : upd H8 p2 (.lst (KN.map V.str)) = H2
 have e2 : Ext [] H8 H2:=hH2 ▸ Ext.new hp2 _
 have t2 : H2 p2 = some (.lst (KN.map V.str)):=by rw [<- hH2,upd_same]
 have lLN : LN.length <= 6:=by rw [<- hLN,List.length_map];exact l6
 have lKN : KN.length <= 6:=by rw [<- hKN,List.length_map];exact k6
 have sz:=size1000
 have nl2:=(e1.trans e2).lst (by simp) hnl
 have t12:=e2.lst (by simp) t1
 refine ⟨_,rfl,_,rfl,nl,p1,_,_,rfl,rfl,nl2,t12,by rw [List.length_map,List.length_map];omega,fun p3 hp3=>?_⟩
 have t23 : upd H2 p3 (.lst (ns.map V.str ++ LN.map V.str)) p2 = some (.lst (KN.map V.str)):=(upd_ne (ne_of_none t2 hp3)).trans t2
 refine ⟨_,rfl,p3,p2,_,_,rfl,rfl,upd_same,t23,by rw [List.length_append,List.length_map,List.length_map,List.length_map];omega,fun p4 hp4=>?_⟩
 refine ⟨by show 2 <= sizeLine;decide,fun p5 hp5=>?_⟩
 refine ⟨p4,p5,_,_,rfl,rfl,(upd_ne (ne_of_none upd_same hp5)).trans upd_same,upd_same,by rw [List.length_append,List.length_append,List.length_map,List.length_map,List.length_map];show _ + 2 <= _;omega,fun p6 hp6=>?_⟩
 have eAll : ((ns.map V.str ++ LN.map V.str) ++ KN.map V.str) ++ [V.str "a",V.str "zzzzzzzz"] = (ns ++ LN ++ KN ++ (["a","zzzzzzzz"] : List Str)).map V.str:=by
  rw [List.map_append,List.map_append,List.map_append];rfl
 have nmA : ∀ x ∈ ns ++ LN ++ KN ++ (["a","zzzzzzzz"] : List Str),nm x = true:=fun x hx=>by
  rcases List.mem_append.mp hx with hx | hx
  ·rcases List.mem_append.mp hx with hx | hx
   ·rcases List.mem_append.mp hx with hx | hx
    ·exact hnm x hx
    ·exact nmL x hx
   ·exact nmK x hx
  ·have hz : ∀ y ∈ (["a","zzzzzzzz"] : List Str),nm y = true:=by decide +kernel
   exact hz x hx
 generalize (ns ++ LN ++ KN ++ (["a","zzzzzzzz"] : List Str)) = AN at eAll nmA
 generalize hH6 : upd (upd (upd (upd H2 p3 (.lst (ns.map V.str ++ LN.map V.str))) p4 (.lst (ns.map V.str ++ LN.map V.str ++ KN.map V.str))) p5 (.lst [V.str "a",V.str "zzzzzzzz"])) p6 (.lst (ns.map V.str ++ LN.map V.str ++ KN.map V.str ++ [V.str "a",V.str "zzzzzzzz"])) = H6
 have e6 : Ext [] H2 H6:=hH6 ▸ (((Ext.new hp3 _).trans (Ext.new hp4 _)).trans (Ext.new hp5 _)).trans (Ext.new hp6 _)
 have t6 : H6 p6 = some (.lst (AN.map V.str)):=by rw [<- hH6,upd_same,eAll]
 have e06 : Ext [] H9 H6:=(e1.trans e2).trans e6
 have hd6:=IsD.ext e06 hd0
 have t16:=e6.lst (by simp) t12
 have t26:=e6.lst (by simp) t2
 have hc6:=e06.tup (by simp) hc
 clear hH6 hH1 hH2 e6 e2 e1
 refine ⟨p6,rfl,⟨_,SqL.of t6⟩,for_list (xs:=AN.map V.str) (fun i σ H7=>∃ (x4 x5 x6 : Option V),σ = [some (V.ref a),some (V.ref nl),some (V.ref p1),some (V.ref p2),x4,x5,x6,none,none,none,none]/\Ext [] H6 H7) ⟨_,_,_,rfl,Ext.refl⟩ (fun i σ H7 _ ⟨_,_,_,_,e⟩=>SqL.of (e.lst (by simp) t6)) ?_ ?_⟩
 ·rintro i y σ H7 hy ⟨x4,x5,x6,rfl,e7⟩
  obtain ⟨x,hx,rfl⟩ : ∃ x ∈ AN,y = .str x:=by
   rw [List.getElem?_map] at hy
   obtain ⟨x,hx,rfl⟩:=Option.map_eq_some_iff.mp hy
   exact ⟨x,List.mem_of_getElem? hx,rfl⟩
  have hnx:=nmA x hx
  have hl8:=(nm_ok hnx).2
  refine ⟨_,rfl,by show 5 <= sizeLine;decide,fun q1 hq1=>⟨_,rfl,by show 5 <= sizeLine;decide,fun q2 hq2=>?_⟩⟩
  generalize hHa : upd (upd H7 q1 (.tup [.bl true,.bl true,.bl false,.bl false,.str x])) q2 (.tup [.bl true,.bl false,.bl true,.bl false,.str x]) = Ha
  have ea : Ext [] H7 Ha:=hHa ▸ (Ext.new hq1 _).trans (Ext.new hq2 _)
  have ta1 : Ha q1 = some (.tup [.bl true,.bl true,.bl false,.bl false,.str x]):=by rw [<- hHa,upd_ne (ne_of_none upd_same hq2),upd_same]
  have ta2 : Ha q2 = some (.tup [.bl true,.bl false,.bl true,.bl false,.str x]):=by rw [<- hHa,upd_same]
  have e6a:=e7.trans ea
  have shL : Sh 1 (toldL x):=Sh.tup fun d hd=>by
   simp only [List.mem_cons,List.not_mem_nil,or_false] at hd
   rcases hd with rfl | rfl | rfl | rfl | rfl
   ·exact sh_bool _
   ·exact sh_bool _
   ·exact sh_bool _
   ·exact sh_bool _
   ·exact sh_nm hnx
  have shK : Sh 1 (toldK x):=Sh.tup fun d hd=>by
   simp only [List.mem_cons,List.not_mem_nil,or_false] at hd
   rcases hd with rfl | rfl | rfl | rfl | rfl
   ·exact sh_bool _
   ·exact sh_bool _
   ·exact sh_bool _
   ·exact sh_bool _
   ·exact sh_nm hnx
  have second : ∀ Hb,Ext [] Ha Hb->tIfS (tAnd (tTest (tOp (rIn K true) (tVar 4) (tVar 3))) (tTest (tOp rNeD (tCall spRef [] E0 (tCons (tVar 0) (tCons (tVar 4) (tCons (tC (V.int 1)) tNil)))) (tVar 6)))) (tRet (tC (V.bl false))) tNext
    { nx:=fun σ H7=>∃ (x4 x5 x6 : Option V),σ = [some (V.ref a),some (V.ref nl),some (V.ref p1),some (V.ref p2),x4,x5,x6,none,none,none,none]/\Ext [] H6 H7,rt:=Q,bk:=fun _ _=>False,ct:=fun _ _=>False }
    [some (V.ref a),some (V.ref nl),some (V.ref p1),some (V.ref p2),some (V.str x),some (V.ref q1),some (V.ref q2),none,none,none,none] Hb:=by
   intro Hb eb
   refine ⟨_,rfl,_,rfl,p2,_,rfl,.inl (SqL.of ((e6a.trans eb).lst (by simp) t26)),rfl,flat_strs _,_,rfl,?_⟩
   rw [inV_strs]
   by_cases hxK : x ∈ KN
   ·rw [if_pos rfl,decide_eq_true hxK]
    exact iteF (iteF ⟨_,_,_,rfl,e6a.trans eb⟩)
   ·rw [if_pos rfl,decide_eq_false hxK]
    refine iteT ?_
    refine ⟨_,rfl,_,rfl,ls,ks,_,x,1,rfl,IsD.ext (e6a.trans eb) hd6,hN,hN3,by omega,.inr ⟨rfl,first_none (hKN ▸ hxK),fun u Hd ed hud=>?_⟩⟩
    refine ⟨_,rfl,toldK x,toldK x,hud,⟨q2,_,rfl,by simp,(eb.trans ed).tup (by simp) ta2,_,_,rfl,rfl,_,_,rfl,rfl,_,_,rfl,rfl,_,_,rfl,rfl,_,_,rfl,rfl,rfl⟩,shK.shaped,shK.shaped,_,rfl,?_⟩
    rw [shK.refl]
    exact iteF ⟨_,_,_,rfl,(e6a.trans eb).trans ed⟩
  refine ⟨_,rfl,_,rfl,p1,_,rfl,.inl (SqL.of (e6a.lst (by simp) t16)),rfl,flat_strs _,_,rfl,?_⟩
  rw [inV_strs]
  by_cases hxL : x ∈ LN
  ·rw [if_pos rfl,decide_eq_true hxL]
   exact iteF (iteF (second Ha Ext.refl))
  ·rw [if_pos rfl,decide_eq_false hxL]
   refine iteT ?_
   refine ⟨_,rfl,_,rfl,ls,ks,_,x,0,rfl,IsD.ext e6a hd6,hN,hN3,by omega,.inl ⟨rfl,first_none (hLN ▸ hxL),fun u Hd ed hud=>?_⟩⟩
   refine ⟨_,rfl,toldL x,toldL x,hud,⟨q1,_,rfl,by simp,ed.tup (by simp) ta1,_,_,rfl,rfl,_,_,rfl,rfl,_,_,rfl,rfl,_,_,rfl,rfl,_,_,rfl,rfl,rfl⟩,shL.shaped,shL.shaped,_,rfl,?_⟩
   rw [shL.refl]
   exact iteF (second Hd ed)
 rintro σ H7 ⟨x4,x5,x6,rfl,e7⟩
 have t17:=e7.lst (by simp) t16
 refine ⟨_,rfl,p1,rfl,⟨_,SqL.of t17⟩,for_enumL (xs:=LN.map V.str) (fun i σ Hb=>∃ (y4 y5 y6 y7 y8 : Option V),σ = [some (V.ref a),some (V.ref nl),some (V.ref p1),some (V.ref p2),y4,y5,y6,y7,y8,none,none]/\Ext [] H7 Hb) ⟨_,_,_,_,_,rfl,Ext.refl⟩ (fun i σ Hb _ ⟨_,_,_,_,_,_,e⟩=>SqL.of (e.lst (by simp) t17)) ?_ ?_⟩
 ·rintro i y Ta σ Hb hy ⟨y4,y5,y6,y7,y8,rfl,eb⟩ hT
  have hiL : i < ls.length:=by
   have:=(List.getElem?_eq_some_iff.mp hy).1
   rw [List.length_map,<- hLN,List.length_map] at this
   exact this
  have hyx : y = .str (firstD ls[i]):=by
   rw [<- hLN,List.getElem?_map,List.getElem?_map,List.getElem?_eq_getElem hiL] at hy
   exact (Option.some.inj hy).symm
  subst hyx
  have hfi:=first_at (hLN ▸ ndL) hiL
  have hnx : nm (firstD ls[i]) = true:=nmL _ (hLN ▸ List.mem_map_of_mem (List.getElem_mem hiL))
  generalize firstD ls[i] = x at hfi hnx hy ⊢
  have hl8:=(nm_ok hnx).2
  have ec:=eb.trans (Ext.new hT (.tup [.int i,.str x]))
  refine ⟨Ta,_,rfl,SqT.of upd_same,rfl,_,_,rfl,_,_,rfl,rfl,?_⟩
  refine ⟨_,rfl,_,rfl,ls,.tuple ks,_,x,rfl,IsD.ext (e7.trans ec) hd6,hN,by omega,fun j Hd hj ed=>?_,fun hnone=>absurd (hnone.symm.trans hfi) (by simp)⟩
  obtain rfl : j = i:=Option.some.inj (hj.symm.trans hfi)
  refine ⟨_,rfl,_,rfl,rfl,_,rfl,?_⟩
  rw [decide_eq_true rfl]
  refine iteF ?_
  refine ⟨_,rfl,_,"bool",_,_,rfl,.int _,kit_bool (.int j),_,rfl,?_⟩
  exact iteF ⟨_,_,_,_,_,rfl,ec.trans ed⟩
 rintro σ Hb ⟨y4,y5,y6,y7,y8,rfl,eb⟩
 have hab:=((e06.trans e7).trans eb).tup (by simp) ha
 have hcb:=(e7.trans eb).tup (by simp) hc6
 refine ⟨_,rfl,a,_,_,_,rfl,rfl,SqT.of hab,rfl,c,rfl,⟨cs,SqT.of hcb⟩,for_tup (xs:=cs) (fun i σ Hc=>∃ (y4 y5 y6 y7 y8 y9 y10 : Option V),σ = [some (V.ref a),some (V.ref nl),some (V.ref p1),some (V.ref p2),y4,y5,y6,y7,y8,y9,y10]/\Ext [] Hb Hc) ⟨_,_,_,_,_,_,_,rfl,Ext.refl⟩ (fun i σ Hc _ ⟨_,_,_,_,_,_,_,_,e⟩=>SqT.of (e.tup (by simp) hcb)) ?_ ?_⟩
 ·rintro i y σ Hc hy ⟨y4,y5,y6,y7,y8,y9,y10,rfl,ec⟩
  have hi' : i < ks.length:=by have:=(List.getElem?_eq_some_iff.mp hy).1;omega
  have hdi:=List.getElem?_eq_getElem hi'
  obtain ⟨y',hy',hdy⟩:=hcs.get (i:=i) hdi
  rw [hy] at hy'
  cases hy'
  have hfi:=first_at (hKN ▸ ndK) hi'
  have hm:=List.getElem_mem hi'
  obtain ⟨z,wd,bd,hzr,gk⟩:=kind_form (g.all _ hm)
  generalize ks[i] = dy at hdy hdi hfi hzr
  subst hzr
  have hfi : firstIs ks z = some i:=hfi
  have hl8:=(nm_ok gk.nmx).2
  obtain ⟨cc,ccs,rfl,_,hcc,v3,r3,rfl,h3,v4,r4,rfl,h4,v5,r5,rfl,h5,rfl⟩:=IsD.ext (((e06.trans e7).trans eb).trans ec) hdy
  obtain rfl : v3 = .str z:=h3
  have shw:=sh_way gk.way
  refine ⟨_,_,rfl,SqT.of hcc,rfl,_,_,rfl,_,_,rfl,_,_,rfl,rfl,?_⟩
  refine ⟨_,rfl,_,rfl,ks,.tuple ls,_,z,rfl,IsD.ext ((e7.trans eb).trans ec) hd6,hN3,by omega,fun j dj u Hd hj hdj ed hud=>?_,fun hnone=>absurd (hnone.symm.trans hfi) (by simp)⟩
  obtain rfl : j = i:=Option.some.inj (hj.symm.trans hfi)
  rw [hdi] at hdj
  cases hdj
  refine ⟨_,rfl,.tuple wd,.tuple wd,hud,IsD.ext ed h4,shw.shaped,shw.shaped,_,rfl,?_⟩
  rw [shw.refl]
  refine iteF ?_
  refine ⟨_,rfl,_,rfl,ks,.tuple ls,_,z,rfl,IsD.ext (((e7.trans eb).trans ec).trans ed) hd6,hN3,by omega,fun j2 dj u2 He hj2 hdj ee hue=>?_,fun hnone=>absurd (hnone.symm.trans hfi) (by simp)⟩
  obtain rfl : j2 = j:=Option.some.inj (hj2.symm.trans hfi)
  rw [hdi] at hdj
  cases hdj
  refine ⟨_,"tuple",_,_,rfl,IsD.ty (d:=.tuple wd) hue,kit_tuple (.tuple wd),_,rfl,?_⟩
  exact iteF ⟨_,_,_,_,_,_,_,rfl,(ec.trans ed).trans ee⟩
 rintro σ Hc ⟨y4,y5,y6,y7,y8,y9,y10,rfl,ec⟩
 refine ⟨_,rfl,_,_,rfl,IsD.ext ((e7.trans eb).trans ec) hd6,plan_small g,((e06.trans e7).trans (eb.trans ec)).tb tb (by simp),fun He ee=>⟨_,_,rfl,rfl,?_⟩⟩
 rw [hp]
 exact q He (((e06.trans e7).trans (eb.trans ec)).trans ee)
end
end K02
end

section
set_option Elab.async false
set_option linter.all false
set_option maxRecDepth 100000
set_option maxHeartbeats 1000000
namespace K02
open PySem PySem.Spec L2 PyProof.Rows
theorem ext_drop {H H' : Hp} {p : Addr} {o : HO} (h : H p = none) (e : Ext [p] (upd H p o) H') : Ext [] H H':=by
 refine ⟨fun b u _ q n=>?_,fun b ps _ q=>?_⟩
 ·have hb:=ne_of_none q h
  exact e.old b u (by simpa using hb) (by rw [upd_ne hb];exact q) n
 ·have hb:=ne_of_none q h
  exact e.tab b ps (by simpa using hb) (by rw [upd_ne hb];exact q)
def spLaw (ts : List Addr) (K : PySem.W.Frag) : Sp:=fun vs H Q _=>∃ (a : Addr) (ns : List Int),vs = [.ref a]/\SqL K H a (ns.map V.int)/\ns.length <= 63/\Tb ts H/\∀ H',Q (.bl true) H'
section
variable {P : Program} {w : World} {K : PySem.W.Frag} {mg : Str->Option Value} {base : Heap} {ts : List Addr}
abbrev s_law : Stmt:=top 36
theorem sc_law : FnScope ["_law_script","_law_k","_law_plan_here","_law_lanes","_law_kinds","_law_names"] ["_law_script"] (defScope s_law):=⟨rfl,rfl,rfl,by decide +kernel,rfl,by decide +kernel,by decide +kernel⟩
theorem ok_law {f : Addr} {fd : FuncData} (F : Fun K "law" "law" s_law f fd) (T : Txt K mg) (C__law_digits : CallOk P w K mg base "_law_digits" 1 ["_law_script","_law_k"] (spDigits K)) (C__law_plan : CallOk P w K mg base "_law_plan" 3 ["_law_held"] spPlan)
  (C__law_words : CallOk P w K mg base "_law_words" 2 ["_law_held","_law_many"] spWords) (C__law_right : CallOk P w K mg base "_law_right" 9 ["_law_plan_here","_law_names"] (spRight ts)) : FnOk P w K mg base CX0 10 f fd ["_law_script"] (spLaw ts K):=by
 refine F.ok sc_law (fun vs H Q E h=>?_) (fun cdv A outer s H vs Q E hr h=>?_)
 ·obtain ⟨a,ns,rfl,_⟩:=h
  rfl
 obtain ⟨a,ns,rfl,hS,h63,tb,q⟩:=h
 have hu:=hr.units
 refine' ⟨_,?hh,?rr⟩
 case hh=>refine' pss_cons ?hjb ?hkb;(case hjb=>refine' ps_for PassesOwn.never rfl ?hfb ?hgb ?hhb;(case hfb=>refine' pi_range1 rfl T.b_range ?hh;(case hh=>refine' pa_c ?hg pa_nil;(case hg=>refine' pe_op op_add ?hf pe_int;(case hf=>refine' pe_callB (call_min2 rfl) rfl T.b_min boot_bmin ?he;(case he=>refine' pa_c pe_int ?hd;(case hd=>refine' pa_c ?hc pa_nil;(case hc=>refine' pe_callB call_len_seq rfl T.b_len PySem.boot_len ?hb;(case hb=>refine' pa_c (pv 0) pa_nil))))))));(case hgb=>refine' pg_name sc_law.nd (ixAt 1) (Or.inl rfl) (Or.inl rfl));(case hhb=>refine' pss_cons ?hdb ?heb;(case hdb=>refine' ps_set sc_law.nd (ixAt 2) (Or.inl rfl) ?ho;(case ho=>refine' pe_cl C__law_plan hr ?hm rfl ?hn;(case hm=>refine' pa_c ?hl pa_nil;(case hl=>refine' pe_cl C__law_digits hr ?hj rfl ?hk;(case hj=>refine' pa_c (pv 0) ?hi;(case hi=>refine' pa_c (pv 1) pa_nil));(case hk=>decide)));(case hn=>decide)));(case heb=>refine' pss_cons ?hbb ?hcb;(case hbb=>refine' ps_set sc_law.nd (ixAt 3) (Or.inl rfl) ?ht;(case ht=>refine' pe_callTy call_tupleD rfl T.b_tuple boot_ttuple ?hs;(case hs=>refine' pa_c ?hr pa_nil;(case hr=>refine' pe_callTy call_listD rfl T.b_list boot_tlist ?hq;(case hq=>refine' pa_c ?hp pa_nil;(case hp=>refine' pe_ix ix_D (pv 2) pe_int (fun _ _=>rfl)))))));(case hcb=>refine' pss_cons ?hZ ?hab;(case hZ=>refine' ps_set sc_law.nd (ixAt 4) (Or.inl rfl) ?hy;(case hy=>refine' pe_callTy call_tupleD rfl T.b_tuple boot_ttuple ?hx;(case hx=>refine' pa_c ?hw pa_nil;(case hw=>refine' pe_callTy call_listD rfl T.b_list boot_tlist ?hv;(case hv=>refine' pa_c ?hu pa_nil;(case hu=>refine' pe_ix ix_D (pv 2) pe_int (fun _ _=>rfl)))))));(case hab=>refine' pss_cons ?hX ?hY;(case hX=>refine' ps_set sc_law.nd (ixAt 5) (Or.inl rfl) ?hG;(case hG=>refine' pe_cl C__law_words hr ?hE rfl ?hF;(case hE=>refine' pa_c ?hC ?hD;(case hC=>refine' pe_cl C__law_digits hr ?hA rfl ?hB;(case hA=>refine' pa_c (pv 0) ?hz;(case hz=>refine' pa_c (pv 1) pa_nil));(case hB=>decide));(case hD=>refine' pa_c pe_int pa_nil));(case hF=>decide)));(case hY=>refine' pss_one ?hW;(case hW=>refine' ps_if ?hU ?hV pss_nil;(case hU=>refine' PW.pt ?hS;(case hS=>refine' pw_or ?hQ ?hR;(case hQ=>refine' pt_not ?hL;(case hL=>refine' pt_val ?hK;(case hK=>refine' pe_cl C__law_right hr ?hI rfl ?hJ;(case hI=>refine' pa_c (pv 2) ?hH;(case hH=>refine' pa_c (pv 5) pa_nil));(case hJ=>decide))));(case hR=>refine' pw_or1 ?hP;(case hP=>refine' pt_cmpR (op_neD hu) (pv 2) ?hO (nomark _);(case hO=>refine' pe_tupD ?hN;(case hN=>refine' pa_c (pv 3) ?hM;(case hM=>refine' pa_c (pv 4) pa_nil)))))));(case hV=>refine' pss_one ?hT;(case hT=>refine' ps_ret pe_bl)))))))));(case hkb=>refine' pss_one ?hib;(case hib=>refine' ps_ret pe_bl))
 have hl : (ns.map V.int).length = ns.length:=List.length_map _
 refine ⟨_,rfl,a,_,rfl,.inl hS,_,_,rfl,_,_,rfl,rfl,?_⟩
 have j0 : 1 <= (if (((ns.map V.int).length : Nat) : Int) < 20 then (((ns.map V.int).length : Nat) : Int) else 20) + 1:=by
  split <;> omega
 have j1 : (if (((ns.map V.int).length : Nat) : Int) < 20 then (((ns.map V.int).length : Nat) : Int) else 20) + 1 <= 21:=by
  split <;> omega
 refine ⟨_,rfl,Int.le_trans (by decide) j0,Int.lt_of_le_of_lt j1 (by decide),for_range (fun i σ H2=>∃ (x1 x2 x3 x4 x5 : Option V),σ = [some (V.ref a),x1,x2,x3,x4,x5]/\Ext [] H H2) ⟨_,_,_,_,_,rfl,Ext.refl⟩ ?_ ?_⟩
 ·rintro i σ H2 hi ⟨x1,x2,x3,x4,x5,rfl,e⟩
  have hi2 : i < 21:=Nat.lt_of_lt_of_le hi (Int.toNat_le.mpr j1)
  refine ⟨_,rfl,_,rfl,a,ns,_,rfl,e.sql (by simp) hS,h63,by omega,by omega,fun p n hp=>?_⟩
  have tb2:=e.tb tb (by simp)
  have c : Cz ⟨[p],p,ts⟩ (upd H2 p (.lst [.int n])):=⟨by simp,fun b hb=>⟨[.int n],by rw [List.mem_singleton.mp hb];exact upd_same⟩,⟨n,upd_same⟩,(Ext.new (ex:=[]) hp (.lst [.int n])).tb tb2 (by simp)⟩
  have fin : ∀ H9,Stp ⟨[p],p,ts⟩ (upd H2 p (.lst [.int n])) H9->Ext [] H H9:=fun H9 s9=>e.trans (ext_drop hp s9.ext)
  generalize upd H2 p (.lst [.int n]) = H3 at c fin ⊢
  refine ⟨⟨[p],p,ts⟩,rfl,c,fun pd vp H4 hpl s4 fp=>?_⟩
  obtain ⟨ls,ks,epd,gp⟩:=plan_form hpl
  subst epd
  show tSeq _ _ _ [_,_,_,_,_,_] _
  refine ⟨_,rfl,⟨[p],p,ts⟩,_,0,.tuple ls,.inl fp,rfl,by decide,rfl,fun v5 f5=>⟨⟨[p],p,ts⟩,v5,ls,rfl,.inl f5,s4.cz,fun v6 H6 s6 f6=>⟨⟨[p],p,ts⟩,v6,ls,rfl,f6,s6.cz,fun v7 H7 s7 f7=>?_⟩⟩⟩
  replace s4:=(s4.trans s6).trans s7
  replace fp:=(fp.stp s6).stp s7
  show tSeq _ _ _ [_,_,_,_,_,_] _
  refine ⟨_,rfl,⟨[p],p,ts⟩,_,1,.tuple ks,.inl fp,rfl,by decide,rfl,fun v8 f8=>⟨⟨[p],p,ts⟩,v8,ks,rfl,.inl f8,s4.cz,fun v9 H9 s9 f9=>⟨⟨[p],p,ts⟩,v9,ks,rfl,f9,s9.cz,fun v10 H10 s10 f10=>?_⟩⟩⟩
  replace s4:=(s4.trans s9).trans s10
  replace fp:=IsD.less (ex':=[]) (by simp) ((fp.stp s9).stp s10)
  replace f7:=IsD.less (ex':=[]) (by simp) ((f7.stp s9).stp s10)
  replace f10:=IsD.less (ex':=[]) (by simp) f10
  have eA:=fin H10 s4
  have tbA:=s4.cz.tb
  show tSeq _ _ _ [_,_,_,_,_,_] _
  refine ⟨_,rfl,_,rfl,a,ns,_,rfl,eA.sql (by simp) hS,h63,by omega,by omega,fun p2 n2 hp2=>?_⟩
  have eN : Ext [p2] H10 (upd H10 p2 (.lst [.int n2])):=Ext.new hp2 _
  have c2 : Cz ⟨[p2],p2,ts⟩ (upd H10 p2 (.lst [.int n2])):=⟨by simp,fun b hb=>⟨[.int n2],by rw [List.mem_singleton.mp hb];exact upd_same⟩,⟨n2,upd_same⟩,(Ext.new (ex:=[]) hp2 (.lst [.int n2])).tb tbA (by simp)⟩
  replace fp:=IsD.ext eN (IsD.more hp2 fp)
  replace f7:=IsD.ext eN (IsD.more hp2 f7)
  replace f10:=IsD.ext eN (IsD.more hp2 f10)
  have fin2 : ∀ H9,Stp ⟨[p2],p2,ts⟩ (upd H10 p2 (.lst [.int n2])) H9->Ext [] H H9:=fun H9 s9=>eA.trans (ext_drop hp2 s9.ext)
  generalize upd H10 p2 (.lst [.int n2]) = H11 at c2 fin2 fp f7 f10 ⊢
  refine ⟨⟨[p2],p2,ts⟩,rfl,c2,fun nms vn H12 ln _ hnm s12 fn=>?_⟩
  replace fp:=IsD.stp (z:=⟨[p2],p2,ts⟩) fp s12
  replace f7:=IsD.stp (z:=⟨[p2],p2,ts⟩) f7 s12
  replace f10:=IsD.stp (z:=⟨[p2],p2,ts⟩) f10 s12
  refine ⟨_,rfl,_,rfl,_,nms,_,_,rfl,hpl,IsD.less (by simp) fp,IsD.less (by simp) fn,by omega,hnm,s12.cz.tb,fun H13 e13=>⟨_,rfl,?_⟩⟩
  refine iteF ?_
  have s13 : Stp ⟨[p2],p2,ts⟩ H12 H13:=Stp.of s12.cz e13
  replace fp:=IsD.stp (z:=⟨[p2],p2,ts⟩) fp s13
  replace f7:=IsD.stp (z:=⟨[p2],p2,ts⟩) f7 s13
  replace f10:=IsD.stp (z:=⟨[p2],p2,ts⟩) f10 s13
  refine ⟨_,rfl,_,rfl,_,rfl,⟨[p2],p2,ts⟩,[.tuple ls,.tuple ks],⟨_,_,rfl,f7,_,_,rfl,f10,rfl⟩,(by show 2 <= 1000;decide),s13.cz,fun v14 H14 s14 f14=>?_⟩
  have sh:=sh_plan gp
  refine ⟨_,_,IsD.less (by simp) (IsD.stp (z:=⟨[p2],p2,ts⟩) fp s14),IsD.less (by simp) f14,sh.shaped,sh.shaped,_,rfl,?_⟩
  rw [sh.refl]
  exact iteF ⟨_,_,_,_,_,rfl,fin2 H14 ((s12.trans s13).trans s14)⟩
 rintro σ H2 ⟨x1,x2,x3,x4,x5,rfl,e⟩
 exact q H2
end
end K02
end

section
set_option Elab.async false
set_option linter.all false
set_option maxRecDepth 100000
set_option maxHeartbeats 4000000
namespace K02
open PySem L2 PyProof.Rows
abbrev gnames : List Str:=["is_name","are_bounds","are_lanes","are_kinds"]
theorem all_mk {l : PySem.W.OpenLaw} {w : World} {K : PySem.W.Frag} {h : Heap} {mg : Str->Option Value} {fa ao : Addr} (X : K.In h) (G : h.Ns mainGlobals mg) (hfa : mg "law" = some (.ref fa))
  {t0 : Tok} {t1 : Tok} {t2 : Tok} {t3 : Tok} {t4 : Tok} {t5 : Tok} {t6 : Tok} {oo : Obj} {no : Nat}
  {f0 : Addr} {od0 an0 : Option Addr} {sl0 : Array (Option Value)} {oc0 kV0 dc0 pm0 ct0 cd0 : Value}
  (a0 : PySem.W.nsIn K mainGlobals "is_whole" = some (some (.ref f0))) (l0 : K.lookup f0 = some ⟨oc0,od0,.func (PySem.W.fnOf "is_whole" "is_whole" (defArgs s_is_whole) (defBody s_is_whole) (defScope s_is_whole) .none kV0 dc0 pm0 an0 cd0 ct0),sl0⟩) (c0 : PySem.W.codeIn K cd0 "is_whole" = true) (k0 : PySem.W.keepIn K (.ref f0) = true)
  {f1 : Addr} {od1 an1 : Option Addr} {sl1 : Array (Option Value)} {oc1 kV1 dc1 pm1 ct1 cd1 : Value}
  (a1 : PySem.W.nsIn K mainGlobals "is_tuple" = some (some (.ref f1))) (l1 : K.lookup f1 = some ⟨oc1,od1,.func (PySem.W.fnOf "is_tuple" "is_tuple" (defArgs s_is_tuple) (defBody s_is_tuple) (defScope s_is_tuple) .none kV1 dc1 pm1 an1 cd1 ct1),sl1⟩) (c1 : PySem.W.codeIn K cd1 "is_tuple" = true) (k1 : PySem.W.keepIn K (.ref f1) = true)
  {f2 : Addr} {od2 an2 : Option Addr} {sl2 : Array (Option Value)} {oc2 kV2 dc2 pm2 ct2 cd2 : Value}
  (a2 : PySem.W.nsIn K mainGlobals "is_bound" = some (some (.ref f2))) (l2 : K.lookup f2 = some ⟨oc2,od2,.func (PySem.W.fnOf "is_bound" "is_bound" (defArgs s_is_bound) (defBody s_is_bound) (defScope s_is_bound) .none kV2 dc2 pm2 an2 cd2 ct2),sl2⟩) (c2 : PySem.W.codeIn K cd2 "is_bound" = true) (k2 : PySem.W.keepIn K (.ref f2) = true)
  {f3 : Addr} {od3 an3 : Option Addr} {sl3 : Array (Option Value)} {oc3 kV3 dc3 pm3 ct3 : Value} {cx3 tp3 : Addr} {cc3 : Value} {cdd3 : Option Addr} {vs3 : Array Value} {csl3 : Array (Option Value)}
  (a3 : PySem.W.nsIn K mainGlobals "is_name" = some (some (.ref f3))) (l3 : K.lookup f3 = some ⟨oc3,od3,.func (PySem.W.fnOf "is_name" "is_name" (defArgs s_is_name) (defBody s_is_name) (defScope s_is_name) .none kV3 dc3 pm3 an3 (.ref cx3) ct3),sl3⟩) (c3 : PySem.W.codeIn K (.ref cx3) "is_name" = true) (k3 : PySem.W.keepIn K (.ref f3) = true)
  (lc3 : K.lookup cx3 = some ⟨cc3,cdd3,.fields vs3,csl3⟩) (h113 : (vs3[11]? : Option Value) = some (.ref tp3)) (tI3 : PySem.W.tabIn K "is_name" = some (cx3,tp3)) (hd3 : PySem.W.codeHdIn K cx3 tp3 = true)
  {f4 : Addr} {od4 an4 : Option Addr} {sl4 : Array (Option Value)} {oc4 kV4 dc4 pm4 ct4 cd4 : Value}
  (a4 : PySem.W.nsIn K mainGlobals "is_lane" = some (some (.ref f4))) (l4 : K.lookup f4 = some ⟨oc4,od4,.func (PySem.W.fnOf "is_lane" "is_lane" (defArgs s_is_lane) (defBody s_is_lane) (defScope s_is_lane) .none kV4 dc4 pm4 an4 cd4 ct4),sl4⟩) (c4 : PySem.W.codeIn K cd4 "is_lane" = true) (k4 : PySem.W.keepIn K (.ref f4) = true)
  {f5 : Addr} {od5 an5 : Option Addr} {sl5 : Array (Option Value)} {oc5 kV5 dc5 pm5 ct5 cd5 : Value}
  (a5 : PySem.W.nsIn K mainGlobals "have_unlike_names" = some (some (.ref f5))) (l5 : K.lookup f5 = some ⟨oc5,od5,.func (PySem.W.fnOf "have_unlike_names" "have_unlike_names" (defArgs s_unlike) (defBody s_unlike) (defScope s_unlike) .none kV5 dc5 pm5 an5 cd5 ct5),sl5⟩) (c5 : PySem.W.codeIn K cd5 "have_unlike_names" = true) (k5 : PySem.W.keepIn K (.ref f5) = true)
  {f6 : Addr} {od6 an6 : Option Addr} {sl6 : Array (Option Value)} {oc6 kV6 dc6 pm6 ct6 : Value} {cx6 tp6 : Addr} {cc6 : Value} {cdd6 : Option Addr} {vs6 : Array Value} {csl6 : Array (Option Value)}
  (a6 : PySem.W.nsIn K mainGlobals "are_bounds" = some (some (.ref f6))) (l6 : K.lookup f6 = some ⟨oc6,od6,.func (PySem.W.fnOf "are_bounds" "are_bounds" (defArgs s_are_bounds) (defBody s_are_bounds) (defScope s_are_bounds) .none kV6 dc6 pm6 an6 (.ref cx6) ct6),sl6⟩) (c6 : PySem.W.codeIn K (.ref cx6) "are_bounds" = true) (k6 : PySem.W.keepIn K (.ref f6) = true)
  (lc6 : K.lookup cx6 = some ⟨cc6,cdd6,.fields vs6,csl6⟩) (h116 : (vs6[11]? : Option Value) = some (.ref tp6)) (tI6 : PySem.W.tabIn K "are_bounds" = some (cx6,tp6)) (hd6 : PySem.W.codeHdIn K cx6 tp6 = true)
  {f7 : Addr} {od7 an7 : Option Addr} {sl7 : Array (Option Value)} {oc7 kV7 dc7 pm7 ct7 cd7 : Value}
  (a7 : PySem.W.nsIn K mainGlobals "is_way" = some (some (.ref f7))) (l7 : K.lookup f7 = some ⟨oc7,od7,.func (PySem.W.fnOf "is_way" "is_way" (defArgs s_is_way) (defBody s_is_way) (defScope s_is_way) .none kV7 dc7 pm7 an7 cd7 ct7),sl7⟩) (c7 : PySem.W.codeIn K cd7 "is_way" = true) (k7 : PySem.W.keepIn K (.ref f7) = true)
  {f8 : Addr} {od8 an8 : Option Addr} {sl8 : Array (Option Value)} {oc8 kV8 dc8 pm8 ct8 cd8 : Value}
  (a8 : PySem.W.nsIn K mainGlobals "is_kind" = some (some (.ref f8))) (l8 : K.lookup f8 = some ⟨oc8,od8,.func (PySem.W.fnOf "is_kind" "is_kind" (defArgs s_is_kind) (defBody s_is_kind) (defScope s_is_kind) .none kV8 dc8 pm8 an8 cd8 ct8),sl8⟩) (c8 : PySem.W.codeIn K cd8 "is_kind" = true) (k8 : PySem.W.keepIn K (.ref f8) = true)
  {f9 : Addr} {od9 an9 : Option Addr} {sl9 : Array (Option Value)} {oc9 kV9 dc9 pm9 ct9 : Value} {cx9 tp9 : Addr} {cc9 : Value} {cdd9 : Option Addr} {vs9 : Array Value} {csl9 : Array (Option Value)}
  (a9 : PySem.W.nsIn K mainGlobals "are_lanes" = some (some (.ref f9))) (l9 : K.lookup f9 = some ⟨oc9,od9,.func (PySem.W.fnOf "are_lanes" "are_lanes" (defArgs s_are_lanes) (defBody s_are_lanes) (defScope s_are_lanes) .none kV9 dc9 pm9 an9 (.ref cx9) ct9),sl9⟩) (c9 : PySem.W.codeIn K (.ref cx9) "are_lanes" = true) (k9 : PySem.W.keepIn K (.ref f9) = true)
  (lc9 : K.lookup cx9 = some ⟨cc9,cdd9,.fields vs9,csl9⟩) (h119 : (vs9[11]? : Option Value) = some (.ref tp9)) (tI9 : PySem.W.tabIn K "are_lanes" = some (cx9,tp9)) (hd9 : PySem.W.codeHdIn K cx9 tp9 = true)
  {f10 : Addr} {od10 an10 : Option Addr} {sl10 : Array (Option Value)} {oc10 kV10 dc10 pm10 ct10 : Value} {cx10 tp10 : Addr} {cc10 : Value} {cdd10 : Option Addr} {vs10 : Array Value} {csl10 : Array (Option Value)}
  (a10 : PySem.W.nsIn K mainGlobals "are_kinds" = some (some (.ref f10))) (l10 : K.lookup f10 = some ⟨oc10,od10,.func (PySem.W.fnOf "are_kinds" "are_kinds" (defArgs s_are_kinds) (defBody s_are_kinds) (defScope s_are_kinds) .none kV10 dc10 pm10 an10 (.ref cx10) ct10),sl10⟩) (c10 : PySem.W.codeIn K (.ref cx10) "are_kinds" = true) (k10 : PySem.W.keepIn K (.ref f10) = true)
  (lc10 : K.lookup cx10 = some ⟨cc10,cdd10,.fields vs10,csl10⟩) (h1110 : (vs10[11]? : Option Value) = some (.ref tp10)) (tI10 : PySem.W.tabIn K "are_kinds" = some (cx10,tp10)) (hd10 : PySem.W.codeHdIn K cx10 tp10 = true)
  {f11 : Addr} {od11 an11 : Option Addr} {sl11 : Array (Option Value)} {oc11 kV11 dc11 pm11 ct11 cd11 : Value}
  (a11 : PySem.W.nsIn K mainGlobals "is_plan" = some (some (.ref f11))) (l11 : K.lookup f11 = some ⟨oc11,od11,.func (PySem.W.fnOf "is_plan" "is_plan" (defArgs s_is_plan) (defBody s_is_plan) (defScope s_is_plan) .none kV11 dc11 pm11 an11 cd11 ct11),sl11⟩) (c11 : PySem.W.codeIn K cd11 "is_plan" = true) (k11 : PySem.W.keepIn K (.ref f11) = true)
  {f12 : Addr} {od12 an12 : Option Addr} {sl12 : Array (Option Value)} {oc12 kV12 dc12 pm12 ct12 cd12 : Value}
  (a12 : PySem.W.nsIn K mainGlobals "lane_number" = some (some (.ref f12))) (l12 : K.lookup f12 = some ⟨oc12,od12,.func (PySem.W.fnOf "lane_number" "lane_number" (defArgs s_lane_number) (defBody s_lane_number) (defScope s_lane_number) .none kV12 dc12 pm12 an12 cd12 ct12),sl12⟩) (c12 : PySem.W.codeIn K cd12 "lane_number" = true) (k12 : PySem.W.keepIn K (.ref f12) = true)
  {f13 : Addr} {od13 an13 : Option Addr} {sl13 : Array (Option Value)} {oc13 kV13 dc13 pm13 ct13 cd13 : Value}
  (a13 : PySem.W.nsIn K mainGlobals "kind_of" = some (some (.ref f13))) (l13 : K.lookup f13 = some ⟨oc13,od13,.func (PySem.W.fnOf "kind_of" "kind_of" (defArgs s_kind_of) (defBody s_kind_of) (defScope s_kind_of) .none kV13 dc13 pm13 an13 cd13 ct13),sl13⟩) (c13 : PySem.W.codeIn K cd13 "kind_of" = true) (k13 : PySem.W.keepIn K (.ref f13) = true)
  {f14 : Addr} {od14 an14 : Option Addr} {sl14 : Array (Option Value)} {oc14 kV14 dc14 pm14 ct14 cd14 : Value}
  (a14 : PySem.W.nsIn K mainGlobals "way_of" = some (some (.ref f14))) (l14 : K.lookup f14 = some ⟨oc14,od14,.func (PySem.W.fnOf "way_of" "way_of" (defArgs s_way_of) (defBody s_way_of) (defScope s_way_of) .none kV14 dc14 pm14 an14 cd14 ct14),sl14⟩) (c14 : PySem.W.codeIn K cd14 "way_of" = true) (k14 : PySem.W.keepIn K (.ref f14) = true)
  {f15 : Addr} {od15 an15 : Option Addr} {sl15 : Array (Option Value)} {oc15 kV15 dc15 pm15 ct15 cd15 : Value}
  (a15 : PySem.W.nsIn K mainGlobals "_law_take" = some (some (.ref f15))) (l15 : K.lookup f15 = some ⟨oc15,od15,.func (PySem.W.fnOf "_law_take" "_law_take" (defArgs s__law_take) (defBody s__law_take) (defScope s__law_take) .none kV15 dc15 pm15 an15 cd15 ct15),sl15⟩) (c15 : PySem.W.codeIn K cd15 "_law_take" = true) (k15 : PySem.W.keepIn K (.ref f15) = true)
  {f16 : Addr} {od16 an16 : Option Addr} {sl16 : Array (Option Value)} {oc16 kV16 dc16 pm16 ct16 cd16 : Value}
  (a16 : PySem.W.nsIn K mainGlobals "_law_digits" = some (some (.ref f16))) (l16 : K.lookup f16 = some ⟨oc16,od16,.func (PySem.W.fnOf "_law_digits" "_law_digits" (defArgs s__law_digits) (defBody s__law_digits) (defScope s__law_digits) .none kV16 dc16 pm16 an16 cd16 ct16),sl16⟩) (c16 : PySem.W.codeIn K cd16 "_law_digits" = true) (k16 : PySem.W.keepIn K (.ref f16) = true)
  {f17 : Addr} {od17 an17 : Option Addr} {sl17 : Array (Option Value)} {oc17 kV17 dc17 pm17 ct17 cd17 : Value}
  (a17 : PySem.W.nsIn K mainGlobals "_law_bound" = some (some (.ref f17))) (l17 : K.lookup f17 = some ⟨oc17,od17,.func (PySem.W.fnOf "_law_bound" "_law_bound" (defArgs s__law_bound) (defBody s__law_bound) (defScope s__law_bound) .none kV17 dc17 pm17 an17 cd17 ct17),sl17⟩) (c17 : PySem.W.codeIn K cd17 "_law_bound" = true) (k17 : PySem.W.keepIn K (.ref f17) = true)
  {f18 : Addr} {od18 an18 : Option Addr} {sl18 : Array (Option Value)} {oc18 kV18 dc18 pm18 ct18 cd18 : Value}
  (a18 : PySem.W.nsIn K mainGlobals "_law_words" = some (some (.ref f18))) (l18 : K.lookup f18 = some ⟨oc18,od18,.func (PySem.W.fnOf "_law_words" "_law_words" (defArgs s__law_words) (defBody s__law_words) (defScope s__law_words) .none kV18 dc18 pm18 an18 cd18 ct18),sl18⟩) (c18 : PySem.W.codeIn K cd18 "_law_words" = true) (k18 : PySem.W.keepIn K (.ref f18) = true)
  {f19 : Addr} {od19 an19 : Option Addr} {sl19 : Array (Option Value)} {oc19 kV19 dc19 pm19 ct19 cd19 : Value}
  (a19 : PySem.W.nsIn K mainGlobals "_law_plan" = some (some (.ref f19))) (l19 : K.lookup f19 = some ⟨oc19,od19,.func (PySem.W.fnOf "_law_plan" "_law_plan" (defArgs s__law_plan) (defBody s__law_plan) (defScope s__law_plan) .none kV19 dc19 pm19 an19 cd19 ct19),sl19⟩) (c19 : PySem.W.codeIn K cd19 "_law_plan" = true) (k19 : PySem.W.keepIn K (.ref f19) = true)
  {f20 : Addr} {od20 an20 : Option Addr} {sl20 : Array (Option Value)} {oc20 kV20 dc20 pm20 ct20 cd20 : Value}
  (a20 : PySem.W.nsIn K mainGlobals "_law_refused" = some (some (.ref f20))) (l20 : K.lookup f20 = some ⟨oc20,od20,.func (PySem.W.fnOf "_law_refused" "_law_refused" (defArgs s__law_refused) (defBody s__law_refused) (defScope s__law_refused) .none kV20 dc20 pm20 an20 cd20 ct20),sl20⟩) (c20 : PySem.W.codeIn K cd20 "_law_refused" = true) (k20 : PySem.W.keepIn K (.ref f20) = true)
  {f21 : Addr} {od21 an21 : Option Addr} {sl21 : Array (Option Value)} {oc21 kV21 dc21 pm21 ct21 cd21 : Value}
  (a21 : PySem.W.nsIn K mainGlobals "_law_right" = some (some (.ref f21))) (l21 : K.lookup f21 = some ⟨oc21,od21,.func (PySem.W.fnOf "_law_right" "_law_right" (defArgs s__law_right) (defBody s__law_right) (defScope s__law_right) .none kV21 dc21 pm21 an21 cd21 ct21),sl21⟩) (c21 : PySem.W.codeIn K cd21 "_law_right" = true) (k21 : PySem.W.keepIn K (.ref f21) = true)
  {f22 : Addr} {od22 an22 : Option Addr} {sl22 : Array (Option Value)} {oc22 kV22 dc22 pm22 ct22 cd22 : Value}
  (a22 : PySem.W.nsIn K mainGlobals "law" = some (some (.ref f22))) (l22 : K.lookup f22 = some ⟨oc22,od22,.func (PySem.W.fnOf "law" "law" (defArgs s_law) (defBody s_law) (defScope s_law) .none kV22 dc22 pm22 an22 cd22 ct22),sl22⟩) (c22 : PySem.W.codeIn K cd22 "law" = true) (k22 : PySem.W.keepIn K (.ref f22) = true)
  {CE CL CK CC CT : Addr}
  (qE : PySem.W.nsIn K mainGlobals "LaneError" = some (some (.ref CE)))
  (qL : PySem.W.nsIn K mainGlobals "NoLane" = some (some (.ref CL)))
  (qK : PySem.W.nsIn K mainGlobals "NoKind" = some (some (.ref CK)))
  (qC : PySem.W.nsIn K mainGlobals "NoCard" = some (some (.ref CC)))
  (qT : PySem.W.nsIn K mainGlobals "NoText" = some (some (.ref CT)))
  {fiL caL ccL : Addr} {oiL kiL diL piL tiL : Value} {odL aiL : Option Addr} {siL : Array (Option Value)} {clL : Value} {cdL : Option Addr} {cvL : Array Value} {csL : Array (Option Value)} {fxL : Str} {txL : Tok} {elL : Value} {edL : Option Addr} {esL : Array (Option Value)}
  (inL : PySem.W.findIn K (.ref CL) "__init__" = some (some (.ref fiL))) (lfL : K.lookup fiL = some ⟨oiL,odL,.func (PySem.W.ksFn "__init__" "NoLane.__init__" (defArgs s_NoLane) (defBody s_NoLane) (defScope s_NoLane) .none kiL diL piL aiL (.ref caL) tiL ccL),siL⟩) (coL : PySem.W.codeIn K (.ref caL) "NoLane.__init__" = true) (lkL : K.lookup caL = some ⟨clL,cdL,.fields cvL,csL⟩) (hvL : (cvL[2]? : Option Value) = some (.str fxL txL)) (hfL : ((l.prog.main.file : Str) == fxL) = true) (leL : K.lookup ccL = some ⟨elL,edL,.cell (some (.ref CL)),esL⟩) (fnL : PySem.W.isFn K (.ref fiL) = true) (kpL : PySem.W.keepIn K (.ref CL) = true) (mkL : excMkIn K CL = true) (alL : excAll K CL = true) (atL : attrIn K CL "lane" = true) (rsL : raisesIn K CL = true)
  {fiK caK ccK : Addr} {oiK kiK diK piK tiK : Value} {odK aiK : Option Addr} {siK : Array (Option Value)} {clK : Value} {cdK : Option Addr} {cvK : Array Value} {csK : Array (Option Value)} {fxK : Str} {txK : Tok} {elK : Value} {edK : Option Addr} {esK : Array (Option Value)}
  (inK : PySem.W.findIn K (.ref CK) "__init__" = some (some (.ref fiK))) (lfK : K.lookup fiK = some ⟨oiK,odK,.func (PySem.W.ksFn "__init__" "NoKind.__init__" (defArgs s_NoKind) (defBody s_NoKind) (defScope s_NoKind) .none kiK diK piK aiK (.ref caK) tiK ccK),siK⟩) (coK : PySem.W.codeIn K (.ref caK) "NoKind.__init__" = true) (lkK : K.lookup caK = some ⟨clK,cdK,.fields cvK,csK⟩) (hvK : (cvK[2]? : Option Value) = some (.str fxK txK)) (hfK : ((l.prog.main.file : Str) == fxK) = true) (leK : K.lookup ccK = some ⟨elK,edK,.cell (some (.ref CK)),esK⟩) (fnK : PySem.W.isFn K (.ref fiK) = true) (kpK : PySem.W.keepIn K (.ref CK) = true) (mkK : excMkIn K CK = true) (alK : excAll K CK = true) (atK : attrIn K CK "kind" = true) (rsK : raisesIn K CK = true)
  (topS : (l.prog.main.scope.names.lookup ("super" : Str)).isSome = false) (xE : excClsIn K CE = true)
  (xmL : PySem.W.mroIn K CL (.ref CE) = some true)
  (xmK : PySem.W.mroIn K CK (.ref CE) = some true)
  (xkL : kindIn K CL = true)
  (xkK : kindIn K CK = true)
  (xiLV : PySem.W.kitOne K (.ref CL) (.type "ValueError") = some true)
  (xiLL : PySem.W.kitOne K (.ref CL) (.ref CL) = some true)
  (xiLK : PySem.W.kitOne K (.ref CL) (.ref CK) = some false)
  (xiLC : PySem.W.kitOne K (.ref CL) (.ref CC) = some false)
  (xiLT : PySem.W.kitOne K (.ref CL) (.ref CT) = some false)
  (xiKV : PySem.W.kitOne K (.ref CK) (.type "ValueError") = some true)
  (xiKL : PySem.W.kitOne K (.ref CK) (.ref CL) = some false)
  (xiKK : PySem.W.kitOne K (.ref CK) (.ref CK) = some true)
  (xiKC : PySem.W.kitOne K (.ref CK) (.ref CC) = some false)
  (xiKT : PySem.W.kitOne K (.ref CK) (.ref CT) = some false)
  (z0 : PySem.W.nsIn K mainGlobals "len" = some none)
  (z1 : PySem.W.nsIn K mainGlobals "all" = some none)
  (z2 : PySem.W.nsIn K mainGlobals "isinstance" = some none)
  (z3 : PySem.W.nsIn K mainGlobals "str" = some none)
  (z4 : PySem.W.nsIn K mainGlobals "bool" = some none)
  (z5 : PySem.W.nsIn K mainGlobals "int" = some none)
  (z6 : PySem.W.nsIn K mainGlobals "tuple" = some none)
  (z7 : PySem.W.nsIn K mainGlobals "list" = some none)
  (z8 : PySem.W.nsIn K mainGlobals "range" = some none)
  (z9 : PySem.W.nsIn K mainGlobals "min" = some none)
  (z10 : PySem.W.nsIn K mainGlobals "enumerate" = some none)
  (z11 : PySem.W.nsIn K mainGlobals "ValueError" = some none)
  (z12 : PySem.W.nsIn K mainGlobals "super" = some none)
  (gl0 : PySem.W.nsIn K mainGlobals "LETTERS" = some (some (.str az t0)))
  (gl1 : PySem.W.nsIn K mainGlobals "LONGEST_NAME" = some (some (.int 8 t1)))
  (gl2 : PySem.W.nsIn K mainGlobals "GREATEST_BOUND" = some (some (.int 99 t2)))
  (gl3 : PySem.W.nsIn K mainGlobals "MOST_LANES" = some (some (.int 6 t3)))
  (gl4 : PySem.W.nsIn K mainGlobals "MOST_KINDS" = some (some (.int 6 t4)))
  (gO : PySem.W.nsIn K mainGlobals "OUTSIDE" = some (some (.ref ao))) (lo : K.lookup ao = some oo) (oc : oo.cls = .type "tuple") (odt : oo.data = .seq #[.str "out" t5,.str "yard" t6] no) :
  ∃ fd : FuncData,(∀ (s : Shared) (v : Value),BindsTo s fd ⟨[v],[]⟩ [("_law_script",v)])/\∀ base : Heap,K.In base->base.Ns mainGlobals mg->BltMod mg base->FnOk l.prog w K mg base CX0 10 fa fd ["_law_script"] (spLaw (tabsOf K gnames) K):=by
 have e:=hfa.symm.trans (PySem.W.mg_of X G a22)
 cases e
 have T : Txt K mg:=⟨PySem.W.mg_none_of X G z0,PySem.W.mg_none_of X G z1,PySem.W.mg_none_of X G z2,PySem.W.mg_none_of X G z3,PySem.W.mg_none_of X G z4,PySem.W.mg_none_of X G z5,PySem.W.mg_none_of X G z6,PySem.W.mg_none_of X G z7,PySem.W.mg_none_of X G z8,PySem.W.mg_none_of X G z9,⟨_,PySem.W.mg_of X G gl0,⟨_,rfl⟩⟩,⟨_,PySem.W.mg_of X G gl1,⟨_,rfl⟩⟩,⟨_,PySem.W.mg_of X G gl2,⟨_,rfl⟩⟩,⟨_,PySem.W.mg_of X G gl3,⟨_,rfl⟩⟩,⟨_,PySem.W.mg_of X G gl4,⟨_,rfl⟩⟩⟩
 have O : Out K mg ao:=⟨⟨_,PySem.W.mg_of X G gO,rfl⟩,fun H=>.inr ⟨oo,_,no,lo,oc,odt,by show 2 <= sizeLine;decide,.cons ⟨_,rfl⟩ (.cons ⟨_,rfl⟩ .nil)⟩⟩
 have TC : TxC K mg CE CL CK CC CT:=⟨PySem.W.mg_none_of X G z10,PySem.W.mg_none_of X G z2,PySem.W.mg_none_of X G z11,⟨_,PySem.W.mg_of X G qL,rfl⟩,⟨_,PySem.W.mg_of X G qK,rfl⟩,⟨_,PySem.W.mg_of X G qC,rfl⟩,⟨_,PySem.W.mg_of X G qT,rfl⟩,PySem.W.mg_of X G qE,xE⟩
 have TD : TxD K mg:=⟨T,PySem.W.mg_none_of X G z10⟩
 have Xc : XcF K CE CL CK CC CT:=⟨xmL,xmK,xkL,xkK,atL,atK,xiLV,xiLL,xiLK,xiLC,xiLT,xiKV,xiKL,xiKK,xiKC,xiKT⟩
 have F0:=fun_mk (st:=s_is_whole) l0 c0 k0
 have b0:=F0.binds (ps:=["thing"]) fun _ _ _ _ _ _ us hl=>match us,hl with | [_],_=>rfl
 have F1:=fun_mk (st:=s_is_tuple) l1 c1 k1
 have b1:=F1.binds (ps:=["thing","least","most"]) fun _ _ _ _ _ _ us hl=>match us,hl with | [_,_,_],_=>rfl
 have F2:=fun_mk (st:=s_is_bound) l2 c2 k2
 have b2:=F2.binds (ps:=["thing"]) fun _ _ _ _ _ _ us hl=>match us,hl with | [_],_=>rfl
 have F3 : FunC K "is_name" "is_name" s_is_name f3 _ cx3:=⟨⟨oc3,od3,kV3,dc3,pm3,an3,ct3,sl3,rfl,l3,c3⟩,k3⟩
 have b3:=F3.fn.binds (ps:=["thing"]) fun _ _ _ _ _ _ us hl=>match us,hl with | [_],_=>rfl
 have F4:=fun_mk (st:=s_is_lane) l4 c4 k4
 have b4:=F4.binds (ps:=["thing"]) fun _ _ _ _ _ _ us hl=>match us,hl with | [_],_=>rfl
 have F5:=fun_mk (st:=s_unlike) l5 c5 k5
 have b5:=F5.binds (ps:=["tuples"]) fun _ _ _ _ _ _ us hl=>match us,hl with | [_],_=>rfl
 have F6 : FunC K "are_bounds" "are_bounds" s_are_bounds f6 _ cx6:=⟨⟨oc6,od6,kV6,dc6,pm6,an6,ct6,sl6,rfl,l6,c6⟩,k6⟩
 have b6:=F6.fn.binds (ps:=["thing","many"]) fun _ _ _ _ _ _ us hl=>match us,hl with | [_,_],_=>rfl
 have F7:=fun_mk (st:=s_is_way) l7 c7 k7
 have b7:=F7.binds (ps:=["thing","lane_count"]) fun _ _ _ _ _ _ us hl=>match us,hl with | [_,_],_=>rfl
 have F8:=fun_mk (st:=s_is_kind) l8 c8 k8
 have b8:=F8.binds (ps:=["thing","lane_count"]) fun _ _ _ _ _ _ us hl=>match us,hl with | [_,_],_=>rfl
 have F9 : FunC K "are_lanes" "are_lanes" s_are_lanes f9 _ cx9:=⟨⟨oc9,od9,kV9,dc9,pm9,an9,ct9,sl9,rfl,l9,c9⟩,k9⟩
 have b9:=F9.fn.binds (ps:=["thing"]) fun _ _ _ _ _ _ us hl=>match us,hl with | [_],_=>rfl
 have F10 : FunC K "are_kinds" "are_kinds" s_are_kinds f10 _ cx10:=⟨⟨oc10,od10,kV10,dc10,pm10,an10,ct10,sl10,rfl,l10,c10⟩,k10⟩
 have b10:=F10.fn.binds (ps:=["thing","lane_count"]) fun _ _ _ _ _ _ us hl=>match us,hl with | [_,_],_=>rfl
 have F11:=fun_mk (st:=s_is_plan) l11 c11 k11
 have b11:=F11.binds (ps:=["thing"]) fun _ _ _ _ _ _ us hl=>match us,hl with | [_],_=>rfl
 have F12:=fun_mk (st:=s_lane_number) l12 c12 k12
 have b12:=F12.binds (ps:=["plan","name"]) fun _ _ _ _ _ _ us hl=>match us,hl with | [_,_],_=>rfl
 have F13:=fun_mk (st:=s_kind_of) l13 c13 k13
 have b13:=F13.binds (ps:=["plan","kind"]) fun _ _ _ _ _ _ us hl=>match us,hl with | [_,_],_=>rfl
 have F14:=fun_mk (st:=s_way_of) l14 c14 k14
 have b14:=F14.binds (ps:=["plan","kind"]) fun _ _ _ _ _ _ us hl=>match us,hl with | [_,_],_=>rfl
 have F15:=fun_mk (st:=s__law_take) l15 c15 k15
 have b15:=F15.binds (ps:=["_law_held","_law_many"]) fun _ _ _ _ _ _ us hl=>match us,hl with | [_,_],_=>rfl
 have F16:=fun_mk (st:=s__law_digits) l16 c16 k16
 have b16:=F16.binds (ps:=["_law_script","_law_k"]) fun _ _ _ _ _ _ us hl=>match us,hl with | [_,_],_=>rfl
 have F17:=fun_mk (st:=s__law_bound) l17 c17 k17
 have b17:=F17.binds (ps:=["_law_held"]) fun _ _ _ _ _ _ us hl=>match us,hl with | [_],_=>rfl
 have F18:=fun_mk (st:=s__law_words) l18 c18 k18
 have b18:=F18.binds (ps:=["_law_held","_law_many"]) fun _ _ _ _ _ _ us hl=>match us,hl with | [_,_],_=>rfl
 have F19:=fun_mk (st:=s__law_plan) l19 c19 k19
 have b19:=F19.binds (ps:=["_law_held"]) fun _ _ _ _ _ _ us hl=>match us,hl with | [_],_=>rfl
 have F20:=fun_mk (st:=s__law_refused) l20 c20 k20
 have b20:=F20.binds (ps:=["_law_plan_here","_law_name","_law_way"]) fun _ _ _ _ _ _ us hl=>match us,hl with | [_,_,_],_=>rfl
 have F21:=fun_mk (st:=s__law_right) l21 c21 k21
 have b21:=F21.binds (ps:=["_law_plan_here","_law_names"]) fun _ _ _ _ _ _ us hl=>match us,hl with | [_,_],_=>rfl
 have F22:=fun_mk (st:=s_law) l22 c22 k22
 have et : tabsOf K gnames = [tp3,tp6,tp9,tp10]:=by
  unfold tabsOf gnames
  simp only [List.filterMap_cons,List.filterMap_nil,tI3,tI6,tI9,tI10,Option.map]
 rw [et]
 refine ⟨PySem.W.fnOf "law" "law" (defArgs s_law) (defBody s_law) (defScope s_law) .none kV22 dc22 pm22 an22 cd22 ct22,fun s v=>.of_eq rfl,fun base kb nb hbm=>?_⟩
 let ts : List Addr:=[tp3,tp6,tp9,tp10]
 have M_NoLane : MakeOk l.prog w K mg base "NoLane" CL 2 ["self","lane"] (spIni CL "lane"):=⟨fiL,_,⟨mkL,inL,fnL,kpL⟩,ok_ini_NoLane ⟨⟨oiL,odL,kiL,diL,piL,aiL,tiL,siL,rfl,lfL⟩,coL,⟨clL,cdL,cvL,csL,fxL,txL,lkL,hvL,hfL⟩,⟨elL,edL,esL,leL⟩,PySem.W.mg_none_of X G z12,topS,alL⟩ atL,PySem.W.mg_of X G qL,.all fun us hl=>match us,hl with | [_,_],_=>rfl⟩
 have M_NoKind : MakeOk l.prog w K mg base "NoKind" CK 2 ["self","kind"] (spIni CK "kind"):=⟨fiK,_,⟨mkK,inK,fnK,kpK⟩,ok_ini_NoKind ⟨⟨oiK,odK,kiK,diK,piK,aiK,tiK,siK,rfl,lfK⟩,coK,⟨clK,cdK,cvK,csK,fxK,txK,lkK,hvK,hfK⟩,⟨elK,edK,esK,leK⟩,PySem.W.mg_none_of X G z12,topS,alK⟩ atK,PySem.W.mg_of X G qK,.all fun us hl=>match us,hl with | [_,_],_=>rfl⟩
 have C_is_whole : CallOk l.prog w K mg base "is_whole" 1 ["thing"] (sp1 ts wholeD):=⟨f0,_,ok_whole F0 T ,PySem.W.mg_of X G a0,k0,b0⟩
 have C_is_tuple : CallOk l.prog w K mg base "is_tuple" 1 ["thing","least","most"] spTup:=⟨f1,_,ok_tuple F1 T ,PySem.W.mg_of X G a1,k1,b1⟩
 have C_is_bound : CallOk l.prog w K mg base "is_bound" 2 ["thing"] (sp1 ts boundD):=⟨f2,_,ok_bound F2 T C_is_whole,PySem.W.mg_of X G a2,k2,b2⟩
 have C_is_name : CallOk l.prog w K mg base "is_name" 2 ["thing"] (sp1 ts nmD):=⟨f3,_,ok_name F3 T O (PySem.W.codeHd_of_K kb hd3) hbm (show tp3 ∈ ts by simp [ts]) ,PySem.W.mg_of X G a3,k3,b3⟩
 have C_is_lane : CallOk l.prog w K mg base "is_lane" 3 ["thing"] (sp1 ts laneD):=⟨f4,_,ok_lane F4  C_is_tuple C_is_name C_is_bound,PySem.W.mg_of X G a4,k4,b4⟩
 have C_have_unlike_names : CallOk l.prog w K mg base "have_unlike_names" 1 ["tuples"] spUn:=⟨f5,_,ok_unlike F5 T ,PySem.W.mg_of X G a5,k5,b5⟩
 have C_are_bounds : CallOk l.prog w K mg base "are_bounds" 4 ["thing","many"] (sp2 ts boundsD):=⟨f6,_,ok_bounds F6 T (PySem.W.codeHd_of_K kb hd6) hbm (show tp6 ∈ ts by simp [ts]) C_is_tuple C_is_bound,PySem.W.mg_of X G a6,k6,b6⟩
 have C_is_way : CallOk l.prog w K mg base "is_way" 2 ["thing","lane_count"] (sp2 ts wayD):=⟨f7,_,ok_way F7 T C_is_tuple C_is_whole,PySem.W.mg_of X G a7,k7,b7⟩
 have C_is_kind : CallOk l.prog w K mg base "is_kind" 5 ["thing","lane_count"] (sp2 ts fun d n=>kindD n d):=⟨f8,_,ok_kind F8 T C_is_tuple C_is_name C_is_way C_are_bounds,PySem.W.mg_of X G a8,k8,b8⟩
 have C_are_lanes : CallOk l.prog w K mg base "are_lanes" 5 ["thing"] (sp1 ts lanesD):=⟨f9,_,ok_lanes F9 T (PySem.W.codeHd_of_K kb hd9) hbm (show tp9 ∈ ts by simp [ts]) C_is_tuple C_is_lane C_have_unlike_names,PySem.W.mg_of X G a9,k9,b9⟩
 have C_are_kinds : CallOk l.prog w K mg base "are_kinds" 7 ["thing","lane_count"] (sp2 ts kindsD):=⟨f10,_,ok_kinds F10 T (PySem.W.codeHd_of_K kb hd10) hbm (show tp10 ∈ ts by simp [ts]) C_is_tuple C_is_kind C_have_unlike_names,PySem.W.mg_of X G a10,k10,b10⟩
 have C_is_plan : CallOk l.prog w K mg base "is_plan" 8 ["thing"] (sp1 ts planD):=⟨f11,_,ok_plan F11 T C_is_tuple C_are_lanes C_are_kinds,PySem.W.mg_of X G a11,k11,b11⟩
 have C_lane_number : CallOkX l.prog w K mg base "lane_number" 4 ["plan","name"] (spLane CL):=⟨f12,_,ok_lane_number F12 TC M_NoLane rsL ,PySem.W.mg_of X G a12,k12,b12⟩
 have C_kind_of : CallOkX l.prog w K mg base "kind_of" 4 ["plan","kind"] (spKind CK):=⟨f13,_,ok_kind_of F13 TC M_NoKind rsK ,PySem.W.mg_of X G a13,k13,b13⟩
 have C_way_of : CallOkX l.prog w K mg base "way_of" 5 ["plan","kind"] (spWay CK):=⟨f14,_,ok_way_of F14  C_kind_of,PySem.W.mg_of X G a14,k14,b14⟩
 have C__law_take : CallOk l.prog w K mg base "_law_take" 1 ["_law_held","_law_many"] spTake:=⟨f15,_,ok_take F15  ,PySem.W.mg_of X G a15,k15,b15⟩
 have C__law_digits : CallOk l.prog w K mg base "_law_digits" 1 ["_law_script","_law_k"] (spDigits K):=⟨f16,_,ok_digits F16 T ,PySem.W.mg_of X G a16,k16,b16⟩
 have C__law_bound : CallOk l.prog w K mg base "_law_bound" 2 ["_law_held"] spBound:=⟨f17,_,ok_lbound F17  C__law_take,PySem.W.mg_of X G a17,k17,b17⟩
 have C__law_words : CallOk l.prog w K mg base "_law_words" 2 ["_law_held","_law_many"] spWords:=⟨f18,_,ok_words F18 T C__law_take,PySem.W.mg_of X G a18,k18,b18⟩
 have C__law_plan : CallOk l.prog w K mg base "_law_plan" 3 ["_law_held"] spPlan:=⟨f19,_,ok_lplan F19 T C__law_take C__law_words C__law_bound,PySem.W.mg_of X G a19,k19,b19⟩
 have C__law_refused : CallOk l.prog w K mg base "_law_refused" 6 ["_law_plan_here","_law_name","_law_way"] spRef:=⟨f20,_,ok_refused F20 TC Xc C_lane_number C_way_of,PySem.W.mg_of X G a20,k20,b20⟩
 have C__law_right : CallOk l.prog w K mg base "_law_right" 9 ["_law_plan_here","_law_names"] (spRight ts):=⟨f21,_,ok_right F21 TD C_lane_number C_way_of C__law_refused C_is_plan,PySem.W.mg_of X G a21,k21,b21⟩
 exact ok_law F22 T C__law_digits C__law_plan C__law_words C__law_right
theorem tab_no {K : PySem.W.Frag}
  {f3 : Addr} {od3 an3 : Option Addr} {sl3 : Array (Option Value)} {oc3 kV3 dc3 pm3 ct3 : Value} {cx3 tp3 : Addr} {cc3 : Value} {cdd3 : Option Addr} {vs3 : Array Value} {csl3 : Array (Option Value)}
  (a3 : PySem.W.nsIn K mainGlobals "is_name" = some (some (.ref f3))) (l3 : K.lookup f3 = some ⟨oc3,od3,.func (PySem.W.fnOf "is_name" "is_name" (defArgs s_is_name) (defBody s_is_name) (defScope s_is_name) .none kV3 dc3 pm3 an3 (.ref cx3) ct3),sl3⟩) (lc3 : K.lookup cx3 = some ⟨cc3,cdd3,.fields vs3,csl3⟩) (h113 : (vs3[11]? : Option Value) = some (.ref tp3)) (tI3 : PySem.W.tabIn K "is_name" = some (cx3,tp3)) (n3 : K.lookup tp3 = none)
  {f6 : Addr} {od6 an6 : Option Addr} {sl6 : Array (Option Value)} {oc6 kV6 dc6 pm6 ct6 : Value} {cx6 tp6 : Addr} {cc6 : Value} {cdd6 : Option Addr} {vs6 : Array Value} {csl6 : Array (Option Value)}
  (a6 : PySem.W.nsIn K mainGlobals "are_bounds" = some (some (.ref f6))) (l6 : K.lookup f6 = some ⟨oc6,od6,.func (PySem.W.fnOf "are_bounds" "are_bounds" (defArgs s_are_bounds) (defBody s_are_bounds) (defScope s_are_bounds) .none kV6 dc6 pm6 an6 (.ref cx6) ct6),sl6⟩) (lc6 : K.lookup cx6 = some ⟨cc6,cdd6,.fields vs6,csl6⟩) (h116 : (vs6[11]? : Option Value) = some (.ref tp6)) (tI6 : PySem.W.tabIn K "are_bounds" = some (cx6,tp6)) (n6 : K.lookup tp6 = none)
  {f9 : Addr} {od9 an9 : Option Addr} {sl9 : Array (Option Value)} {oc9 kV9 dc9 pm9 ct9 : Value} {cx9 tp9 : Addr} {cc9 : Value} {cdd9 : Option Addr} {vs9 : Array Value} {csl9 : Array (Option Value)}
  (a9 : PySem.W.nsIn K mainGlobals "are_lanes" = some (some (.ref f9))) (l9 : K.lookup f9 = some ⟨oc9,od9,.func (PySem.W.fnOf "are_lanes" "are_lanes" (defArgs s_are_lanes) (defBody s_are_lanes) (defScope s_are_lanes) .none kV9 dc9 pm9 an9 (.ref cx9) ct9),sl9⟩) (lc9 : K.lookup cx9 = some ⟨cc9,cdd9,.fields vs9,csl9⟩) (h119 : (vs9[11]? : Option Value) = some (.ref tp9)) (tI9 : PySem.W.tabIn K "are_lanes" = some (cx9,tp9)) (n9 : K.lookup tp9 = none)
  {f10 : Addr} {od10 an10 : Option Addr} {sl10 : Array (Option Value)} {oc10 kV10 dc10 pm10 ct10 : Value} {cx10 tp10 : Addr} {cc10 : Value} {cdd10 : Option Addr} {vs10 : Array Value} {csl10 : Array (Option Value)}
  (a10 : PySem.W.nsIn K mainGlobals "are_kinds" = some (some (.ref f10))) (l10 : K.lookup f10 = some ⟨oc10,od10,.func (PySem.W.fnOf "are_kinds" "are_kinds" (defArgs s_are_kinds) (defBody s_are_kinds) (defScope s_are_kinds) .none kV10 dc10 pm10 an10 (.ref cx10) ct10),sl10⟩) (lc10 : K.lookup cx10 = some ⟨cc10,cdd10,.fields vs10,csl10⟩) (h1110 : (vs10[11]? : Option Value) = some (.ref tp10)) (tI10 : PySem.W.tabIn K "are_kinds" = some (cx10,tp10)) (n10 : K.lookup tp10 = none)
  : ∀ y ∈ gnames,∀ c P,PySem.W.tabIn K y = some (c,P)->K.lookup P = none:=by
 intro y hy c P e
 simp only [gnames,List.mem_cons,List.not_mem_nil,or_false] at hy
 rcases hy with rfl | rfl | rfl | rfl
 ·rw [tI3] at e
  cases e
  exact n3
 ·rw [tI6] at e
  cases e
  exact n6
 ·rw [tI9] at e
  cases e
  exact n9
 ·rw [tI10] at e
  cases e
  exact n10
theorem walk {l : PySem.W.OpenLaw} {q : Program} {loose : List Str} {XP : (Str->Option Value)->Heap->Prop} {YP : World->Heap->Prop} {d : DefRec} {K : Params->PySem.W.Frag} (hn : l.most = some 63) (hdf : d.params.defaults = [])
  (hY : ∀ (w : World) (h : Heap),YP w h->(K w.params).In h)
  (hgn : ∀ y ∈ gnames,((recsOf q).find? (fun e=>e.name == y)).isSome = true)
  (hT : ∀ (w : World) (h : Heap),(K w.params).In h->∀ y ∈ gnames,∀ c P,PySem.W.tabIn (K w.params) y = some (c,P)->(K w.params).lookup P = none)
  (F : ∀ (w : World) (mg : Str->Option Value) (fa : Addr) (h : Heap),(K w.params).In h->h.Ns mainGlobals mg->mg d.name = some (.ref fa) ->
   ∃ fd : FuncData,(∀ (s : Shared) (u : Value),BindsTo s fd ⟨[u],[]⟩ [("_law_script",u)])/\∀ base : Heap,(K w.params).In base->base.Ns mainGlobals mg->BltMod mg base->FnOk l.prog w (K w.params) mg base CX0 10 fa fd ["_law_script"] (spLaw (tabsOf (K w.params) gnames) (K w.params))) :
  PySem.W.WalkO q loose XP YP l.row.toRowW d [] (fun f vs=>PySem.call f vs) :=
 L2.walk_ofT (n:=63) (k:=10) (x := "_law_script") (CX:=fun _=>CX0) (sp:=fun w=>spLaw (tabsOf (K w.params) gnames) (K w.params)) gnames hn (by decide) hdf ⟨rfl,by decide,by decide⟩ hY hgn hT F
  (fun w H a ns hl hO hS=>⟨a,ns,rfl,hS,hl,fun P hP=>⟨#[],hO.2 P hP,by trivial⟩,fun _=>rfl⟩) fun _ _ _ _ _ z=>z
end K02
def PySem.W.Fast.tw97731172413868220 : Unit := ()
def PySem.W.Fast.tw655094639326019244 : Unit := ()
def PySem.W.Fast.tw10915859696269152940 : Unit := ()
def PySem.W.Fast.tw11092168315678920529 : Unit := ()
def PySem.W.Fast.tw2667050433883236397 : Unit := ()
def PySem.W.Fast.tw16291795957012915839 : Unit := ()
def PySem.W.Fast.tw16647162031744288461 : Unit := ()
def PySem.W.Fast.tw9707097002589044658 : Unit := ()
def PySem.W.Fast.tw6518250503134944547 : Unit := ()
def PySem.W.Fast.tw11929472076869879445 : Unit := ()
def PySem.W.Fast.tw1209427421824710298 : Unit := ()
def PySem.W.Fast.tw4738240952219776682 : Unit := ()
def PySem.W.Fast.tw15895725107924037185 : Unit := ()
def PySem.W.Fast.tw16166699120755779327 : Unit := ()
def PySem.W.Fast.tw11978092207557877863 : Unit := ()
def PySem.W.Fast.tw804644551222267843 : Unit := ()
def PySem.W.Fast.tw10665450483497987417 : Unit := ()
def PySem.W.Fast.tw2711853480643700584 : Unit := ()
def PySem.W.Fast.tw8526449037327211208 : Unit := ()
def PySem.W.Fast.tw14390442460968182422 : Unit := ()
def PySem.W.Fast.tw7127644022560169842 : Unit := ()
def PySem.W.Fast.tw14945886262853942445 : Unit := ()
def PySem.W.Fast.tw14322176789787021036 : Unit := ()
def PySem.W.Fast.tw12922826441762021935 : Unit := ()
def PySem.W.Fast.tw16000471349033564149 : Unit := ()
def PySem.W.Fast.tw4573061471842791925 : Unit := ()
def PySem.W.Fast.tw4981598918948792161 : Unit := ()
def PySem.W.Fast.tw10032986580596242838 : Unit := ()
def PySem.W.Fast.tw3877866921373536438 : Unit := ()
def PySem.W.Fast.tw2670748664347887238 : Unit := ()
def PySem.W.Fast.tw17476964008739692463 : Unit := ()
def PySem.W.Fast.tw15245031572458265574 : Unit := ()
def PySem.W.Fast.tw12795093109370277900 : Unit := ()
def PySem.W.Fast.tw14427693201176923784 : Unit := ()
def PySem.W.Fast.tw7587151563729416371 : Unit := ()
open PySem PySem.W PyProof.Rows
set_option maxRecDepth 100000 in
set_option maxHeartbeats 0 in
theorem PySem.Challenge.cw_cardlanes_k02_plans_told_holds : PySem.Challenge.rw_cardlanes_k02_plans_told.Holds := by
 w_on;o_law;k_head;(case hw=>w_witness2)
 k_fill
 refine K02.walk (l:=PySem.Challenge.rw_cardlanes_k02_plans_told) rfl rfl (fun w h Y=>PySem.W.kIn_of Y) ?G ?T ?F
 case F =>
  intro w mg fa h KX G hmg
  refine' K02.all_mk KX G hmg ?a0 ?l0 ?c0 ?k0 ?a1 ?l1 ?c1 ?k1 ?a2 ?l2 ?c2 ?k2 ?a3 ?l3 ?c3 ?k3 ?lc3 ?h113 ?tI3 ?hd3 ?a4 ?l4 ?c4 ?k4 ?a5 ?l5 ?c5 ?k5 ?a6 ?l6 ?c6 ?k6 ?lc6 ?h116 ?tI6 ?hd6 ?a7 ?l7 ?c7 ?k7 ?a8 ?l8 ?c8 ?k8 ?a9 ?l9 ?c9 ?k9 ?lc9 ?h119 ?tI9 ?hd9 ?a10 ?l10 ?c10 ?k10 ?lc10 ?h1110 ?tI10 ?hd10 ?a11 ?l11 ?c11 ?k11 ?a12 ?l12 ?c12 ?k12 ?a13 ?l13 ?c13 ?k13 ?a14 ?l14 ?c14 ?k14 ?a15 ?l15 ?c15 ?k15 ?a16 ?l16 ?c16 ?k16 ?a17 ?l17 ?c17 ?k17 ?a18 ?l18 ?c18 ?k18 ?a19 ?l19 ?c19 ?k19 ?a20 ?l20 ?c20 ?k20 ?a21 ?l21 ?c21 ?k21 ?a22 ?l22 ?c22 ?k22 ?qE ?qL ?qK ?qC ?qT ?inL ?lfL ?coL ?lkL ?hvL ?hfL ?leL ?fnL ?kpL ?mkL ?alL ?atL ?rsL ?inK ?lfK ?coK ?lkK ?hvK ?hfK ?leK ?fnK ?kpK ?mkK ?alK ?atK ?rsK ?topS ?xE ?xmL ?xmK ?xkL ?xkK ?xiLV ?xiLL ?xiLK ?xiLC ?xiLT ?xiKV ?xiKL ?xiKK ?xiKC ?xiKT ?z0 ?z1 ?z2 ?z3 ?z4 ?z5 ?z6 ?z7 ?z8 ?z9 ?z10 ?z11 ?z12 ?gl0 ?gl1 ?gl2 ?gl3 ?gl4 ?gO ?lo ?oc ?odt
  (case a0=>k_is)
  (case l0=>k_is)
  (case c0=>k_is)
  (case k0=>k_is)
  (case a1=>k_is)
  (case l1=>k_is)
  (case c1=>k_is)
  (case k1=>k_is)
  (case a2=>k_is)
  (case l2=>k_is)
  (case c2=>k_is)
  (case k2=>k_is)
  (case a3=>k_is)
  (case l3=>k_is)
  (case c3=>k_is)
  (case k3=>k_is)
  (case lc3=>k_is)
  (case h113=>rfl)
  (case tI3=>kernel_rfl)
  (case hd3=>kernel_rfl)
  (case a4=>k_is)
  (case l4=>k_is)
  (case c4=>k_is)
  (case k4=>k_is)
  (case a5=>k_is)
  (case l5=>k_is)
  (case c5=>k_is)
  (case k5=>k_is)
  (case a6=>k_is)
  (case l6=>k_is)
  (case c6=>k_is)
  (case k6=>k_is)
  (case lc6=>k_is)
  (case h116=>rfl)
  (case tI6=>kernel_rfl)
  (case hd6=>kernel_rfl)
  (case a7=>k_is)
  (case l7=>k_is)
  (case c7=>k_is)
  (case k7=>k_is)
  (case a8=>k_is)
  (case l8=>k_is)
  (case c8=>k_is)
  (case k8=>k_is)
  (case a9=>k_is)
  (case l9=>k_is)
  (case c9=>k_is)
  (case k9=>k_is)
  (case lc9=>k_is)
  (case h119=>rfl)
  (case tI9=>kernel_rfl)
  (case hd9=>kernel_rfl)
  (case a10=>k_is)
  (case l10=>k_is)
  (case c10=>k_is)
  (case k10=>k_is)
  (case lc10=>k_is)
  (case h1110=>rfl)
  (case tI10=>kernel_rfl)
  (case hd10=>kernel_rfl)
  (case a11=>k_is)
  (case l11=>k_is)
  (case c11=>k_is)
  (case k11=>k_is)
  (case a12=>k_is)
  (case l12=>k_is)
  (case c12=>k_is)
  (case k12=>k_is)
  (case a13=>k_is)
  (case l13=>k_is)
  (case c13=>k_is)
  (case k13=>k_is)
  (case a14=>k_is)
  (case l14=>k_is)
  (case c14=>k_is)
  (case k14=>k_is)
  (case a15=>k_is)
  (case l15=>k_is)
  (case c15=>k_is)
  (case k15=>k_is)
  (case a16=>k_is)
  (case l16=>k_is)
  (case c16=>k_is)
  (case k16=>k_is)
  (case a17=>k_is)
  (case l17=>k_is)
  (case c17=>k_is)
  (case k17=>k_is)
  (case a18=>k_is)
  (case l18=>k_is)
  (case c18=>k_is)
  (case k18=>k_is)
  (case a19=>k_is)
  (case l19=>k_is)
  (case c19=>k_is)
  (case k19=>k_is)
  (case a20=>k_is)
  (case l20=>k_is)
  (case c20=>k_is)
  (case k20=>k_is)
  (case a21=>k_is)
  (case l21=>k_is)
  (case c21=>k_is)
  (case k21=>k_is)
  (case a22=>k_is)
  (case l22=>k_is)
  (case c22=>k_is)
  (case k22=>k_is)
  (case qE=>k_is)
  (case qL=>k_is)
  (case qK=>k_is)
  (case qC=>k_is)
  (case qT=>k_is)
  (case inL=>k_is)
  (case lfL=>k_is)
  (case coL=>k_is)
  (case lkL=>k_is)
  (case hvL=>rfl)
  (case hfL=>kernel_rfl)
  (case leL=>k_is)
  (case fnL=>k_is)
  (case kpL=>k_is)
  (case mkL=>kernel_rfl)
  (case alL=>kernel_rfl)
  (case atL=>kernel_rfl)
  (case rsL=>kernel_rfl)
  (case inK=>k_is)
  (case lfK=>k_is)
  (case coK=>k_is)
  (case lkK=>k_is)
  (case hvK=>rfl)
  (case hfK=>kernel_rfl)
  (case leK=>k_is)
  (case fnK=>k_is)
  (case kpK=>k_is)
  (case mkK=>kernel_rfl)
  (case alK=>kernel_rfl)
  (case atK=>kernel_rfl)
  (case rsK=>kernel_rfl)
  (case topS=>kernel_rfl)
  (case xE=>kernel_rfl)
  (case xmL=>kernel_rfl)
  (case xmK=>kernel_rfl)
  (case xkL=>kernel_rfl)
  (case xkK=>kernel_rfl)
  (case xiLV=>kernel_rfl)
  (case xiLL=>kernel_rfl)
  (case xiLK=>kernel_rfl)
  (case xiLC=>kernel_rfl)
  (case xiLT=>kernel_rfl)
  (case xiKV=>kernel_rfl)
  (case xiKL=>kernel_rfl)
  (case xiKK=>kernel_rfl)
  (case xiKC=>kernel_rfl)
  (case xiKT=>kernel_rfl)
  (case z0=>k_is)
  (case z1=>k_is)
  (case z2=>k_is)
  (case z3=>k_is)
  (case z4=>k_is)
  (case z5=>k_is)
  (case z6=>k_is)
  (case z7=>k_is)
  (case z8=>k_is)
  (case z9=>k_is)
  (case z10=>k_is)
  (case z11=>k_is)
  (case z12=>k_is)
  (case gl0=>k_is)
  (case gl1=>k_is)
  (case gl2=>k_is)
  (case gl3=>k_is)
  (case gl4=>k_is)
  (case gO=>k_is)
  (case lo=>k_is)
  (case oc=>rfl)
  (case odt=>rfl)
 case T =>
  intro w h KX
  refine' K02.tab_no ?a3 ?l3 ?lc3 ?h113 ?tI3 ?n3 ?a6 ?l6 ?lc6 ?h116 ?tI6 ?n6 ?a9 ?l9 ?lc9 ?h119 ?tI9 ?n9 ?a10 ?l10 ?lc10 ?h1110 ?tI10 ?n10
  (case a3=>k_is)
  (case l3=>k_is)
  (case lc3=>k_is)
  (case h113=>rfl)
  (case tI3=>kernel_rfl)
  (case n3=>kernel_rfl)
  (case a6=>k_is)
  (case l6=>k_is)
  (case lc6=>k_is)
  (case h116=>rfl)
  (case tI6=>kernel_rfl)
  (case n6=>kernel_rfl)
  (case a9=>k_is)
  (case l9=>k_is)
  (case lc9=>k_is)
  (case h119=>rfl)
  (case tI9=>kernel_rfl)
  (case n9=>kernel_rfl)
  (case a10=>k_is)
  (case l10=>k_is)
  (case lc10=>k_is)
  (case h1110=>rfl)
  (case tI10=>kernel_rfl)
  (case n10=>kernel_rfl)
 case G=>decide +kernel
end
