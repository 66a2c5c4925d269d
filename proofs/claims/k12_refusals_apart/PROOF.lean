import PyProof.Rows.All
import Wide.All
import OpenK.AllK
import Wide.FinOn
import Lean
import PyProof.EqAt
import PyProof.EqKinds
import PyProof.TupleCall
import KE.KNest
import KE.KNestM
import PySem.Challenge.RW_cardlanes_k12_refusals_apart
set_option Elab.async false
set_option linter.all false
set_option maxRecDepth 100000
section
set_option Elab.async false
set_option linter.all false
set_option maxRecDepth 100000
namespace L2
open PySem PySem.Spec PyProof.Rows
abbrev Key:=Sum Int Str
def keyIs : Key->Value->Bool
 | .inl k,v=>Value.isInt k v
 | .inr x,v=>Value.isStrOf x v
def keyH (w : World) : Key->Int
 | .inl k=>hashInt k
 | .inr x=>hashStr w x
theorem keyIs_shape : ∀ {k : Key} {v : Value},keyIs k v = true->(∃ i t,k = Sum.inl i/\v = Value.int i t)\/(∃ x t,k = Sum.inr x/\v = Value.str x t)
 | .inl i,v,h=>by
  obtain ⟨t,e⟩:=Value.isInt_shape (k:=i) (v:=v) h
  exact .inl ⟨i,t,rfl,e⟩
 | .inr x,v,h=>by
  obtain ⟨t,e⟩:=Value.isStrOf_shape (x:=x) (v:=v) h
  exact .inr ⟨x,t,rfl,e⟩
theorem key_ll (a b : Int) : decide ((Sum.inl a : Key) = Sum.inl b) = (a == b):=by
 by_cases e : a = b
 ·subst e;simp
 ·have h : ¬ (Sum.inl a : Key) = Sum.inl b:=fun q=>e (Sum.inl.inj q)
  rw [decide_eq_false h]
  exact (beq_eq_false_iff_ne.mpr e).symm
theorem key_rr (a b : Str) : decide ((Sum.inr a : Key) = Sum.inr b) = decide (a = b):=by
 by_cases e : a = b
 ·subst e;simp
 ·have h : ¬ (Sum.inr a : Key) = Sum.inr b:=fun q=>e (Sum.inr.inj q)
  rw [decide_eq_false h,decide_eq_false e]
theorem key_lr (a : Int) (b : Str) : decide ((Sum.inl a : Key) = Sum.inr b) = false:=decide_eq_false (fun q=>nomatch q)
theorem key_rl (a : Str) (b : Int) : decide ((Sum.inr a : Key) = Sum.inl b) = false:=decide_eq_false (fun q=>nomatch q)
def mixKind (prog : Program) (w : World) : PySem.KeyKind prog w Key where
 is:=keyIs
 hash:=keyH w
 inj:=fun v a b ha hb=>by
  rcases keyIs_shape ha with ⟨i,t,rfl,rfl⟩ | ⟨x,t,rfl,rfl⟩
  ·rcases keyIs_shape hb with ⟨j,u,rfl,e⟩ | ⟨y,u,rfl,e⟩
   ·injection e with e1 _;rw [e1]
   ·exact nomatch e
  ·rcases keyIs_shape hb with ⟨j,u,rfl,e⟩ | ⟨y,u,rfl,e⟩
   ·exact nomatch e
   ·injection e with e1 _;rw [e1]
 byValue:=fun k v h=>by
  rcases keyIs_shape h with ⟨i,t,rfl,rfl⟩ | ⟨x,t,rfl,rfl⟩ <;> rfl
 pyHash:=fun hv h=>by
  rcases keyIs_shape hv with ⟨i,t,rfl,rfl⟩ | ⟨x,t,rfl,rfl⟩
  ·exact wpAny_pyHash_int h
  ·exact wpAny_pyHash_str h
 eqBool:=fun hu hv h=>by
  rcases keyIs_shape hu with ⟨i,t,rfl,rfl⟩ | ⟨x,t,rfl,rfl⟩
  ·rcases keyIs_shape hv with ⟨j,u,rfl,rfl⟩ | ⟨y,u,rfl,rfl⟩
   ·rw [key_ll] at h;exact wpAny_eqBool_int h
   ·rw [key_lr] at h;exact SeqAt.EqAt.int_str i t y u _ _ _ _ h
  ·rcases keyIs_shape hv with ⟨j,u,rfl,rfl⟩ | ⟨y,u,rfl,rfl⟩
   ·rw [key_rl] at h;exact SeqAt.EqAt.str_int x t j u _ _ _ _ h
   ·rw [key_rr] at h;exact wpAny_eqBool_str h
 «strs» := fun k x t v h=>by
  rcases keyIs_shape h with ⟨i,u,rfl,e⟩ | ⟨y,u,rfl,e⟩
  ·exact nomatch e
  ·injection e with e1 _
   subst e1
   cases v <;> rfl
end L2
namespace L2
open PySem PySem.Spec PyProof.Rows
inductive V where
 | non | bl (b : Bool) | int (i : Int) | str (x : Str) | byt (b : Array UInt8) | flt (b : UInt64) | ref (a : Addr) | ty (n : String)
 deriving DecidableEq
def RelV : V->Value->Prop
 | .non,u=>u = Value.none
 | .bl b,u=>u = Value.bool b
 | .int i,u=>∃ t,u = Value.int i t
 | .str x,u=>∃ t,u = Value.str x t
 | .byt b,u=>∃ t,u = Value.bytes b t
 | .flt b,u=>∃ t,u = Value.float b t
 | .ref a,u=>u = Value.ref a
 | .ty n,u=>u = Value.type n
abbrev Vals : List V->List Value->Prop:=Paired RelV
theorem Vals.length {xs : List V} {us : List Value} (r : Vals xs us) : xs.length = us.length:=Paired.length r
theorem Vals.get : ∀ {xs : List V} {us : List Value} {i : Nat} {x : V},Vals xs us->xs[i]? = some x->∃ u,us[i]? = some u/\RelV x u
 | _,_,_,_,.nil,e=>by simp at e
 | _,_,0,_,.cons r _,e=>by simp at e;subst e;exact ⟨_,rfl,r⟩
 | _,_,i + 1,x,.cons _ t,e=>by
  obtain ⟨u,h1,h2⟩:=Vals.get (i:=i) (x:=x) t (by simpa using e)
  exact ⟨u,by simpa using h1,h2⟩
theorem Vals.set {x : V} {u : Value} (r : RelV x u) : ∀ {xs : List V} {us : List Value} (i : Nat),Vals xs us->Vals (xs.set i x) (us.set i u)
 | _,_,_,.nil=>.nil
 | _,_,0,.cons _ t=>.cons r t
 | _,_,i + 1,.cons q t=>.cons q (Vals.set r i t)
theorem Vals.append : ∀ {xs ys : List V} {us ws : List Value},Vals xs us->Vals ys ws->Vals (xs ++ ys) (us ++ ws)
 | _,_,_,_,.nil,s=>s
 | _,_,_,_,.cons r t,s=>.cons r (Vals.append t s)
theorem Vals.take : ∀ {xs : List V} {us : List Value} (n : Nat),Vals xs us->Vals (xs.take n) (us.take n)
 | _,_,0,_=>.nil
 | _,_,_ + 1,.nil=>.nil
 | _,_,n + 1,.cons r t=>.cons r (Vals.take n t)
theorem Vals.drop : ∀ {xs : List V} {us : List Value} (n : Nat),Vals xs us->Vals (xs.drop n) (us.drop n)
 | _,_,0,r=>r
 | _,_,_ + 1,.nil=>.nil
 | _,_,n + 1,.cons _ t=>Vals.drop n t
def RelO : Option V->Option Value->Prop
 | some v,some u=>RelV v u
 | none,none=>True
 | _,_=>False
def KV {κ : Type} : List (κ × V)->List (κ × Value)->Prop:=Paired fun (p : κ × V) (q : κ × Value)=>p.1 = q.1/\RelV p.2 q.2
def kV : Key->V
 | .inl i=>.int i
 | .inr x=>.str x
inductive HO where
 | lst (xs : List V)
 | tup (xs : List V)
 | dK (kvs : List (Key × V)) | dT (kvs : List (List Key × V))
 | set (S : Int->Bool) (n : Nat)
 | ins (C dx : Addr) (fs : List (Str × V))
 | own (x : Addr)
 | xd (fs : List (Str × V))
 | met (f x : Addr)
 | rng (lo hi : Int)
 | frz (o : Obj) (u : HO)
 | tbl (ps : Array Value)
 | ext (φ : Heap->Prop)
abbrev Hp:=Addr->Option HO
def upd (H : Hp) (a : Addr) (o : HO) : Hp:=fun b=>if b = a then some o else H b
theorem upd_same {H : Hp} {a : Addr} {o : HO} : upd H a o a = some o:=by unfold upd;rw [if_pos rfl]
theorem upd_ne {H : Hp} {a b : Addr} {o : HO} (h : b ≠ a) : upd H a o b = H b:=by unfold upd;rw [if_neg h]
theorem upd_upd {H : Hp} {a : Addr} {o u : HO} : upd (upd H a o) a u = upd H a u:=by
 funext b;unfold upd;split <;> rfl
theorem ne_of_none {H : Hp} {a b : Addr} {o : HO} (h : H a = some o) (h' : H b = none) : a ≠ b:=by
 intro e;subst e;rw [h] at h';cases h'
section
variable (P : Program) (w : World)
def ObjOk (H : Hp) (h : Heap) (a : Addr) : HO->Prop
 | .lst xs=>xs.length <= sizeLine/\∃ (its : List Value) (n : Nat),Vals xs its/\h.get? a = some { cls:=.type "list",data:=.seq its.toArray n }
 | .tup xs=>xs.length <= sizeLine/\∃ its : List Value,Vals xs its/\IsTup h a its.toArray/\∃ o,h.get? a = some o/\o.dict = none
 | .dK kvs=>kvs.length <= sizeLine/\(a == sysModules) = false/\∃ vs,KV kvs vs/\h.DictOf (mixKind P w) a vs
 | .dT kvs=>kvs.length <= sizeLine/\(a == sysModules) = false/\∃ xs : List (List Key × Addr × Value),
   Paired (fun (p : List Key × V) (q : List Key × Addr × Value)=>p.1 = q.1/\H q.2.1 = some (.tup (p.1.map kV))/\RelV p.2 q.2.2) kvs xs /\
   ∃ o es ep,h.get? a = some o/\o.ExactDict/\o.data = .dict es ep/\es.toList = xs.map (entryOfKey (tupleKind (mixKind P w)))/\(xs.map (·.1)).Nodup
 | .set S n=>h.SetOf (intKind P w) a S n
 | .ins C dx fs=>H dx = some (.own a)/\fs.length <= 1000/\dx ≠ a/\h.get? a = some (PySem.W.instObj C dx) /\
   ∃ mA,h.Ns1 dx mA/\(∀ f,RelO (fs.lookup f) (mA f))/\PySem.Within mA (fs.map (·.1))
 | .own _=>∃ o,h.get? a = some o
 | .xd fs=>∃ mA,h.Ns1 a mA/\∀ f,RelO (fs.lookup f) (mA f)
 | .rng lo hi=>∃ t u v,h.get? a = some { cls:=.type "range",data:=.fields #[.int lo t,.int hi u,.int 1 v] }
 | .frz o u=>h.get? a = some o/\ObjOk H h a u
 | .tbl ps=>h.get? a = some { cls:=.none,data:=.fields ps }
 | .met f x=>h.get? a = some (PySem.W.methodObj (.ref f) (.ref x))
 | .ext φ=>φ h/\(∃ o,h.get? a = some o)/\∀ h1 h2 : Heap,φ h1->(∀ o,h1.get? a = some o->h2.get? a = some o)->φ h2
def HOk (H : Hp) (h : Heap) : Prop := ∀ a o,H a = some o->ObjOk P w H h a o
end
section
variable {P : Program} {w : World} {H H' : Hp} {h h' : Heap} {a : Addr} {o : HO}
theorem ObjOk.lt (x : ObjOk P w H h a o) : a < h.objs.size:=by
 cases o with
 | lst xs=>obtain ⟨_,_,_,_,e⟩:=x;exact Heap.lt_size e
 | tup xs=>obtain ⟨_,_,_,p,_⟩:=x;exact p.lt
 | dK kvs=>obtain ⟨_,_,_,_,o,_,_,e,_⟩:=x;exact Heap.lt_size e
 | dT kvs=>obtain ⟨_,_,_,_,o,_,_,e,_⟩:=x;exact Heap.lt_size e
 | set S n=>obtain ⟨o,_,_,_,e,_⟩:=x;exact Heap.lt_size e
 | ins C dx fs=>obtain ⟨_,_,_,e,_⟩:=x;exact Heap.lt_size e
 | own y=>obtain ⟨_,e⟩:=x;exact Heap.lt_size e
 | xd fs=>obtain ⟨_,⟨_,_,_,e,_⟩,_⟩:=x;exact Heap.lt_size e
 | rng lo hi=>obtain ⟨_,_,_,e⟩:=x;exact Heap.lt_size e
 | frz ob u=>obtain ⟨e,_⟩:=x;exact Heap.lt_size e
 | tbl ps=>exact Heap.lt_size (show h.get? a = some _ from x)
 | met f y=>exact Heap.lt_size (show h.get? a = some _ from x)
 | ext φ=>obtain ⟨_,⟨_,e⟩,_⟩:=x;exact Heap.lt_size e
theorem Paired.mapP {α β : Type} {F G : α->β->Prop} : ∀ {l₁ : List α} {l₂ : List β},Paired F l₁ l₂->(∀ a b,F a b->G a b)->Paired G l₁ l₂
 | _,_,.nil,_=>.nil
 | _,_,.cons r t,f=>.cons (f _ _ r) (Paired.mapP t f)
theorem ObjOk.stay (x : ObjOk P w H h a o) (k : ∀ b u,(b = a\/H b = some (.own a))->h.get? b = some u->h'.get? b = some u)
  (ho : ∀ b,H b = some (.own a)->H' b = some (.own a)) (ht : ∀ b xs,H b = some (.tup xs)->H' b = some (.tup xs)) : ObjOk P w H' h' a o:=by
 induction o with
 | lst xs=>obtain ⟨z,its,n,r,e⟩:=x;exact ⟨z,its,n,r,k _ _ (.inl rfl) e⟩
 | tup xs=>obtain ⟨z,its,r,⟨ob,e,c⟩,od,e2,hd⟩:=x;exact ⟨z,its,r,⟨ob,k _ _ (.inl rfl) e,c⟩,od,k _ _ (.inl rfl) e2,hd⟩
 | dK kvs=>obtain ⟨z,y,vs,r,ob,es,ep,e,c⟩:=x;exact ⟨z,y,vs,r,ob,es,ep,k _ _ (.inl rfl) e,c⟩
 | dT kvs =>
  obtain ⟨z,y,xs,r,ob,es,ep,e,c⟩:=x
  exact ⟨z,y,xs,Paired.mapP r fun p q z=>⟨z.1,ht _ _ z.2.1,z.2.2⟩,ob,es,ep,k _ _ (.inl rfl) e,c⟩
 | set S n=>obtain ⟨ob,es,ep,t,e,c⟩:=x;exact ⟨ob,es,ep,t,k _ _ (.inl rfl) e,c⟩
 | ins C dx fs =>
  obtain ⟨d,z,ne,e,mA,⟨od,es,ep,e2,c⟩,r⟩:=x
  exact ⟨ho _ d,z,ne,k _ _ (.inl rfl) e,mA,⟨od,es,ep,k _ _ (.inr d) e2,c⟩,r⟩
 | own y=>obtain ⟨ob,e⟩:=x;exact ⟨ob,k _ _ (.inl rfl) e⟩
 | xd fs=>obtain ⟨mA,⟨od,es,ep,e,c⟩,r⟩:=x;exact ⟨mA,⟨od,es,ep,k _ _ (.inl rfl) e,c⟩,r⟩
 | rng lo hi=>obtain ⟨t,u,v,e⟩:=x;exact ⟨t,u,v,k _ _ (.inl rfl) e⟩
 | frz ob u ih=>obtain ⟨e,q⟩:=x;exact ⟨k _ _ (.inl rfl) e,ih q⟩
 | tbl ps =>
  have e : h.get? a = some { cls:=.none,data:=.fields ps }:=x
  show h'.get? a = some { cls:=.none,data:=.fields ps }
  exact k a _ (.inl rfl) e
 | met f y =>
  have e : h.get? a = some (PySem.W.methodObj (.ref f) (.ref y)):=x
  show h'.get? a = some (PySem.W.methodObj (.ref f) (.ref y))
  exact k a _ (.inl rfl) e
 | ext φ=>obtain ⟨p,⟨o,e⟩,st⟩:=x;exact ⟨st _ _ p fun o q=>k _ _ (.inl rfl) q,⟨o,k _ _ (.inl rfl) e⟩,st⟩
theorem HOk.lt (x : HOk P w H h) (e : H a = some o) : a < h.objs.size:=(x a o e).lt
theorem HOk.fresh (x : HOk P w H h) (e : h.objs.size <= a) : H a = none:=by
 cases q : H a with
 | none=>rfl
 | some u=>exact absurd (Nat.lt_of_lt_of_le (x.lt q) e) (Nat.lt_irrefl _)
theorem HOk.kept (x : HOk P w H h) (k : ∀ b u,h.get? b = some u->h'.get? b = some u) : HOk P w H h':=fun a o e =>
 (x a o e).stay (fun b u _ q=>k b u q) (fun _ q=>q) fun _ _ q=>q
theorem HOk.laid (x : HOk P w H h) (k : ∀ b u,h.get? b = some u->h'.get? b = some u) (hp : h.objs.size <= a) (new : ObjOk P w (upd H a o) h' a o) : HOk P w (upd H a o) h':=fun b u e=>by
 have hn:=x.fresh hp
 by_cases hb : b = a
 ·subst hb;rw [upd_same] at e;cases e;exact new
 ·rw [upd_ne hb] at e
  exact (x b u e).stay (fun c v _ q=>k c v q) (fun c q=>by rw [upd_ne (ne_of_none q hn)];exact q) fun c xs q=>by rw [upd_ne (ne_of_none q hn)];exact q
end
def Rd (H : Hp) (a : Addr) (u : HO) : Prop:=H a = some u\/∃ o,H a = some (.frz o u)
theorem Rd.of {H : Hp} {a : Addr} {u : HO} (h : H a = some u) : Rd H a u:=.inl h
theorem Rd.ok {P : Program} {w : World} {H : Hp} {h : Heap} {a : Addr} {u : HO} (r : Rd H a u) (x : HOk P w H h) : ObjOk P w H h a u:=by
 rcases r with r | ⟨o,r⟩
 ·exact x a u r
 ·obtain ⟨_,q⟩:=x a _ r
  exact q
def Mut : Option HO->Prop
 | some (.lst _)=>True
 | some (.dK _)=>True
 | some (.dT _)=>True
 | some (.set _ _)=>True
 | some (.ins _ _ _)=>True
 | some (.ext _)=>True
 | _=>False
section
variable {P : Program} {w : World} {H : Hp} {h h' : Heap} {x e : Addr} {o' : HO}
theorem HOk.write (ok : HOk P w H h) (mu : Mut (H x)) (he : e = x\/H e = some (.own x)) (k : ∀ b u,b ≠ e->h.get? b = some u->h'.get? b = some u) (heo : ∃ u,h'.get? e = some u)
  (new : ObjOk P w (upd H x o') h' x o') : HOk P w (upd H x o') h':=fun b u q=>by
 have nown : ∀ c y,H c = some (.own y)->c ≠ x:=fun c y r z=>by subst z;rw [r] at mu;exact mu
 have ntup : ∀ c xs,H c = some (.tup xs)->c ≠ x:=fun c xs r z=>by subst z;rw [r] at mu;exact mu
 by_cases hb : b = x
 ·subst hb;rw [upd_same] at q;cases q;exact new
 ·rw [upd_ne hb] at q
  by_cases hbe : b = e
  ·have q' : H b = some (.own x):=by
    rcases he with z | z
    ·exact absurd (hbe.trans z) hb
    ·rw [hbe];exact z
   rw [q] at q';cases q'
   obtain ⟨v,hv⟩:=heo
   exact ⟨v,by rw [hbe];exact hv⟩
  ·refine (ok b u q).stay (fun c v hc r=>k c v ?_ r) (fun c r=>by rw [upd_ne (nown c b r)];exact r) fun c xs r=>by rw [upd_ne (ntup c xs r)];exact r
   rcases hc with rfl | hc
   ·exact hbe
   ·rintro rfl
    rcases he with z | z
    ·exact nown c b hc z
    ·rw [hc] at z;cases z;exact hb rfl
end
structure Un (fs ex : List Addr) (H H' : Hp) (h h' : Heap) : Prop where
 keep : ∀ b o,h.get? b = some o->H b = none->b ∉ fs->b ∉ ex->h'.get? b = some o
 slot : ∀ b o,h.get? b = some o->H b = none->b ∈ fs->b ∉ ex->∃ sl,h'.get? b = some { o with slots:=sl }
 free : ∀ b o,h.get? b = some o->H b = none->b ∉ ex->H' b = none
 there : ∀ b o,h.get? b = some o->b ∉ ex->∃ o',h'.get? b = some o'
 tups : ∀ b xs,H b = some (.tup xs)->H' b = some (.tup xs)
 frzs : ∀ b o u,H b = some (.frz o u)->H' b = some (.frz o u)
 tbls : ∀ b ps,H b = some (.tbl ps)->∃ more,H' b = some (.tbl (ps ++ more))
section
variable {fs fs' ex ex' : List Addr} {H H1 H2 : Hp} {h h1 h2 h' : Heap} {a x e : Addr} {o : HO}
theorem Un.any (u : Un fs ex H H1 h h1) {b : Addr} {ob : Obj} (q : h.get? b = some ob) (n : H b = none) (hx : b ∉ ex) : ∃ sl,h1.get? b = some { ob with slots:=sl }:=by
 by_cases hb : b ∈ fs
 ·exact u.slot b ob q n hb hx
 ·exact ⟨ob.slots,u.keep b ob q n hb hx⟩
theorem Un.trans (a : Un fs ex H H1 h h1) (b : Un fs ex H1 H2 h1 h2) : Un fs ex H H2 h h2 where
 keep:=fun c ob q n hc hx=>b.keep c ob (a.keep c ob q n hc hx) (a.free c ob q n hx) hc hx
 slot:=fun c ob q n hc hx=>by
  obtain ⟨sl,e1⟩:=a.slot c ob q n hc hx
  obtain ⟨sl',e2⟩:=b.slot c _ e1 (a.free c ob q n hx) hc hx
  exact ⟨sl',e2⟩
 free:=fun c ob q n hx=>by
  obtain ⟨o',e1⟩:=a.there c ob q hx
  exact b.free c o' e1 (a.free c ob q n hx) hx
 there:=fun c ob q hx=>by
  obtain ⟨o',e1⟩:=a.there c ob q hx
  exact b.there c o' e1 hx
 tups:=fun c xs q=>b.tups c xs (a.tups c xs q)
 frzs:=fun c ob xs q=>b.frzs c ob xs (a.frzs c ob xs q)
 tbls:=fun c ps q=>by
  obtain ⟨m1,e1⟩:=a.tbls c ps q
  obtain ⟨m2,e2⟩:=b.tbls c _ e1
  exact ⟨m1 ++ m2,by rw [e2,Array.append_assoc]⟩
theorem Un.kept (k : ∀ b u,h.get? b = some u->h'.get? b = some u) : Un fs ex H H h h' :=
 ⟨fun b ob q _ _ _=>k b ob q,fun b ob q _ _ _=>⟨ob.slots,k b ob q⟩,fun _ _ _ n _=>n,fun b ob q _=>⟨ob,k b ob q⟩,fun _ _ q=>q,fun _ _ _ q=>q,fun _ ps q=>⟨#[],by rw [q];simp⟩⟩
theorem Un.refl : Un fs ex H H h h:=Un.kept fun _ _ q=>q
theorem Un.laid (k : ∀ b u,h.get? b = some u->h'.get? b = some u) (hp : h.objs.size <= a) (hn : H a = none) : Un fs ex H (upd H a o) h h' where
 keep:=fun b u q _ _ _=>k b u q
 slot:=fun b u q _ _ _=>⟨u.slots,k b u q⟩
 free:=fun b u q n _=>by rw [upd_ne (Nat.ne_of_lt (Nat.lt_of_lt_of_le (Heap.lt_size q) hp))];exact n
 there:=fun b u q _=>⟨u,k b u q⟩
 tups:=fun b xs q=>by rw [upd_ne (ne_of_none q hn)];exact q
 frzs:=fun b u xs q=>by rw [upd_ne (ne_of_none q hn)];exact q
 tbls:=fun b ps q=>⟨#[],by rw [upd_ne (ne_of_none q hn),q];simp⟩
theorem Un.write (mu : Mut (H x)) (he : e = x\/H e = some (.own x)) (k : ∀ b u,b ≠ e->h.get? b = some u->h'.get? b = some u) (heo : ∃ u,h'.get? e = some u) : Un fs ex H (upd H x o) h h':=by
 have hx : ∀ b,H b = none->b ≠ x:=fun b n z=>by subst z;rw [n] at mu;exact mu
 have hb : ∀ b,H b = none->b ≠ e:=fun b n z=>by
  subst z
  rcases he with r | r
  ·exact hx b n r
  ·rw [n] at r;cases r
 have hm : ∀ b u,H b = some u->¬ Mut (some u)->b ≠ x:=fun b u q nm z=>by subst z;rw [q] at mu;exact nm mu
 refine ⟨fun b u q n _ _=>k b u (hb b n) q,fun b u q n _ _=>⟨u.slots,k b u (hb b n) q⟩,fun b u q n _=>by rw [upd_ne (hx b n)];exact n,fun b u q _=>?_,
  fun b xs q=>by rw [upd_ne (hm b _ q fun z=>z)];exact q,fun b u xs q=>by rw [upd_ne (hm b _ q fun z=>z)];exact q,fun b ps q=>⟨#[],by rw [upd_ne (hm b _ q fun z=>z),q];simp⟩⟩
 by_cases hbe : b = e
 ·subst hbe;exact heo
 ·exact ⟨u,k b u hbe q⟩
theorem Un.mono (u : Un fs ex H H1 h h1) (hs : ∀ b ∈ fs,b ∈ fs') (hx : ∀ b ∈ ex,b ∈ ex') : Un fs' ex' H H1 h h1 :=
 ⟨fun b ob q n hb he=>u.keep b ob q n (fun z=>hb (hs b z)) fun z=>he (hx b z),fun _ _ q n _ he=>u.any q n fun z=>he (hx _ z),fun b ob q n he=>u.free b ob q n fun z=>he (hx b z),fun b ob q he=>u.there b ob q fun z=>he (hx b z),u.tups,u.frzs,u.tbls⟩
end
def trk (h : Heap) (H : Hp) : List Addr:=(List.range h.objs.size).filter fun a=>(H a).isSome
def hidT (h : Heap) (H : Hp) : Heap:=PySem.W.hideAll h (trk h H)
theorem hidT_size (h : Heap) (H : Hp) : (hidT h H).objs.size = h.objs.size:=PySem.W.hideAll_size _ _
theorem hidT_get {h : Heap} {H : Hp} {b : Addr} {o : Obj} (e : h.get? b = some o) (n : H b = none) : (hidT h H).get? b = some o :=
 PySem.W.hideAll_get _ e fun hm=>by
  have q : (H b).isSome = true:=(List.mem_filter.mp hm).2
  rw [n] at q;simp at q
theorem of_hidT {h : Heap} {H : Hp} {b : Addr} {o : Obj} (e : (hidT h H).get? b = some o) : h.get? b = some o/\H b = none:=by
 have e' : h.get? b = some o:=PySem.W.of_hideAll (trk h H) e
 refine ⟨e',?_⟩
 cases q : H b with
 | none=>rfl
 | some x =>
  have hm : b ∈ trk h H:=List.mem_filter.mpr ⟨List.mem_range.mpr (Heap.lt_size e'),by simp [q]⟩
  have z : (hidT h H).get? b = none:=PySem.W.hideAll_none (trk h H) hm
  rw [z] at e;cases e
def allNews (g h : Heap) (L : Addr) : List (Addr × Obj):=(List.range h.objs.size).filterMap fun a=>if a = L\/(g.get? a).isSome = true then none else (h.get? a).map fun o=>(a,o)
def rest (g h : Heap) (L d : Addr) : List (Addr × Obj):=(allNews g h L).filter fun p=>decide (p.1 ≠ d)
end L2
namespace L2
open PySem PySem.Spec PyProof.Rows
structure Mod (K : PySem.W.Frag) (mg : Str->Option Value) (base : Heap) : Prop where
 kin : K.In base
 glob : base.Ns mainGlobals mg
 blt : ∃ mb,base.Ns builtinsNs mb/\∀ x : Str,x ≠ "__name__"->mb x = bootBuiltins x
 nolimit : base.NoLimit
structure Cx where
 prog : Program
 w : World
 K : PySem.W.Frag
 mg : Str->Option Value
 base : Heap
 A : Around
 N : List Str
 s₀ : Shared
 H₀ : Hp
 env : Env
 outer : List Env
 stack : List Env
 ex : List Addr
 fn : Str->Bool
 calm : Bool
 pn : List (Addr × Obj)
 xe : Value->Shared->Prop
def frs (l : List Env) : List Addr:=l.filterMap (·.frame)
abbrev Cx.fs (X : Cx) : List Addr:=frs X.outer
def Vis (sc : Scope) (x : Str) : Prop:=sc.names.lookup x = some .local\/sc.names.lookup x = some .cell\/sc.names.lookup x = some .free
def Loc (sc : Scope) (x : Str) : Prop:=sc.names.lookup x = some .local\/sc.names.lookup x = some .cell
def Look (env : Env) (h : Heap) (m : Str->Option Value) (x : Str) (u : Value) : Prop :=
 (env.kindOf x = some .local/\m x = some u)\/((env.kindOf x = some .cell\/env.kindOf x = some .free)/\∃ c,env.cells.lookup x = some c/\h.IsCell c (some u))
structure Cx.Ok (X : Cx) : Prop where
 mod : Mod X.K X.mg X.base
 kind : X.env.scope.kind = .function
 glob : X.env.globals = mainGlobals
 blt : X.env.builtins = builtinsNs
 above : X.s₀.heap.objs.size <= X.env.locals
 inj : ∀ x y c,X.env.cells.lookup x = some c->X.env.cells.lookup y = some c->x = y
 has : ∀ x,(X.env.kindOf x = some .cell\/X.env.kindOf x = some .free)->∃ c,X.env.cells.lookup x = some c
 cab : ∀ x c,X.fn x = true->X.env.cells.lookup x = some c->X.s₀.heap.objs.size <= c
 hd : X.calm = true->X.A.handled = none
 frames : X.A.frames = some X.stack
 stk : X.stack = X.outer\/(X.stack = X.env :: X.outer/\X.env.frame = some X.env.locals)
 exf : ∀ b ∈ X.ex,b ≠ X.env.locals/\∀ x c,X.env.cells.lookup x = some c->c ≠ b
 bs : ∀ b o,X.base.get? b = some o->X.s₀.heap.get? b = some o/\X.H₀ b = none
 bsz : X.base.objs.size <= X.s₀.heap.objs.size
 noex : ∀ b o,X.base.get? b = some o->b ∉ X.ex
 exfs : ∀ b ∈ X.ex,b ∉ X.fs
 funs : X.s₀.heap.FunFrames X.base X.outer
 frf : ∀ b ∈ X.fs,X.H₀ b = none
def GOk (g₀ g : Array GenState) : Prop:=AllBare g/\g₀.size <= g.size
structure Inv (X : Cx) (pins : List (Addr × Obj)) (σ : List (Option V)) (H : Hp) (s : Shared) : Prop where
 ok : X.Ok
 os : s.os = X.s₀.os
 bare : GOk X.s₀.gens s.gens
 base : Un X.fs X.ex X.H₀ H X.s₀.heap s.heap
 loc : ∃ m,s.heap.Ns X.env.locals m/\∀ (i : Nat) (x : Str) (v : V),X.N[i]? = some x->σ[i]? = some (some v)->Vis X.env.scope x->∃ u,RelV v u/\Look X.env s.heap m x u
 cell : ∀ x c,X.env.cells.lookup x = some c->∃ v,s.heap.IsCell c v
 free : H X.env.locals = none
 freeC : ∀ x c,X.env.cells.lookup x = some c->H c = none
 pin : ∀ p ∈ X.pn ++ pins,s.heap.get? p.1 = some p.2/\H p.1 = none/\p.1 ≠ X.env.locals/\p.1 ∉ X.fs/\∀ v,p.2.data ≠ .cell v
 hok : HOk X.prog X.w H s.heap
 len : σ.length = X.N.length
section
variable {X : Cx} {pins : List (Addr × Obj)} {σ : List (Option V)} {H H' : Hp} {s : Shared} {h' : Heap}
theorem Cx.Ok.nofr (ok : X.Ok) {b : Addr} {o : Obj} (e : X.base.get? b = some o) : b ∉ X.fs:=fun hb=>by
 have:=(ok.funs.mem hb).1
 rw [e] at this;cases this
theorem Inv.bs (I : Inv X pins σ H s) : ∀ b o,X.base.get? b = some o->s.heap.get? b = some o/\H b = none:=fun b o e =>
 ⟨I.base.keep b o (I.ok.bs b o e).1 (I.ok.bs b o e).2 (I.ok.nofr e) (I.ok.noex b o e),I.base.free b o (I.ok.bs b o e).1 (I.ok.bs b o e).2 (I.ok.noex b o e)⟩
theorem Inv.bk (I : Inv X pins σ H s) : ∀ b o,X.base.get? b = some o->s.heap.get? b = some o:=fun b o e=>(I.bs b o e).1
theorem Inv.mod (I : Inv X pins σ H s) : Mod X.K X.mg X.base:=I.ok.mod
theorem Inv.kIn (I : Inv X pins σ H s) : X.K.In s.heap:=I.ok.mod.kin.keeps I.bk
theorem Inv.nolimit (I : Inv X pins σ H s) : s.heap.NoLimit:=I.ok.mod.nolimit.keeps I.bk
theorem Inv.fr (I : Inv X pins σ H s) : ∃ m,Fr X.base X.env.locals s.heap m :=
 let ⟨m,hn,_⟩:=I.loc
 ⟨m,hn,I.bk,Nat.le_trans I.ok.bsz I.ok.above⟩
theorem Inv.lt (I : Inv X pins σ H s) : X.env.locals < s.heap.objs.size:=let ⟨_,hn,_⟩:=I.loc;hn.lt
theorem Inv.sz (I : Inv X pins σ H s) : X.s₀.heap.objs.size <= s.heap.objs.size:=Nat.le_trans I.ok.above (Nat.le_of_lt I.lt)
theorem Inv.nofs (I : Inv X pins σ H s) {a : Addr} (h : s.heap.objs.size <= a) : a ∉ X.fs:=fun hb=>by
 obtain ⟨_,o,ho,_⟩:=I.ok.funs.mem hb
 exact absurd (Nat.lt_of_lt_of_le (Heap.lt_size ho) (Nat.le_trans I.sz h)) (Nat.lt_irrefl _)
theorem Inv.cne (I : Inv X pins σ H s) : ∀ x c,X.env.cells.lookup x = some c->c ≠ X.env.locals:=fun x c e z=>by
 obtain ⟨v,o,ho,hd⟩:=I.cell x c e
 obtain ⟨m,⟨o',es,ep,ho',hd',_⟩,_⟩:=I.loc
 rw [z,ho'] at ho;cases ho;rw [hd'] at hd;cases hd
theorem Inv.funs (I : Inv X pins σ H s) : s.heap.FunFrames X.base X.outer:=by
 have all : ∀ (l : List Env),(∀ b ∈ frs l,b ∈ X.fs)->X.s₀.heap.FunFrames X.base l->s.heap.FunFrames X.base l:=by
  intro l
  induction l with
  | nil=>intro _ _;trivial
  | cons env r ih =>
   intro hs hl
   obtain ⟨hk,⟨L,o,hf,hn,ho,hd⟩,hr⟩:=hl
   have hL : L ∈ X.fs:=hs L (by unfold frs;rw [List.filterMap_cons,hf];exact List.mem_cons_self)
   obtain ⟨sl,e⟩:=I.base.slot L o ho (I.ok.frf L hL) hL fun z=>I.ok.exfs L z hL
   exact ⟨hk,⟨L,_,hf,hn,e,hd⟩,ih (fun b hb=>hs b (by unfold frs;rw [List.filterMap_cons,hf];exact List.mem_cons_of_mem _ hb)) hr⟩
 exact all X.outer (fun _ hb=>hb) I.ok.funs
theorem Inv.stack (I : Inv X pins σ H s) : s.heap.FunFrames X.base X.stack:=by
 rcases I.ok.stk with e | ⟨e,hf⟩
 ·rw [e];exact I.funs
 ·rw [e]
  obtain ⟨m,hn,_⟩:=I.loc
  refine .cons (by rw [I.ok.kind];decide) hf hn ?_ I.funs
  exact Heap.get?_none_of_le (Nat.le_trans I.ok.bsz I.ok.above)
theorem Inv.stkSub (I : Inv X pins σ H s) : ∀ b ∈ frs X.stack,b ∈ X.env.locals :: X.fs:=fun b hb=>by
 rcases I.ok.stk with e | ⟨e,hf⟩
 ·rw [e] at hb;exact List.mem_cons_of_mem _ hb
 ·rw [e] at hb
  unfold frs at hb
  rw [List.filterMap_cons,hf] at hb
  exact hb
theorem Inv.stkFree (I : Inv X pins σ H s) : ∀ b ∈ frs X.stack,H b = none:=fun b hb=>by
 rcases List.mem_cons.mp (I.stkSub b hb) with e | hb
 ·rw [e];exact I.free
 ·obtain ⟨_,o,ho,_⟩:=I.ok.funs.mem hb
  exact I.base.free b o ho (I.ok.frf b hb) fun z=>I.ok.exfs b z hb
theorem Inv.step {g' : Array GenState} {t' : Nat} {d' : Drawn} {ch : List Addr} (I : Inv X pins σ H s)
  (hch : ∀ b ∈ ch,(b ∈ X.ex\/X.s₀.heap.objs.size <= b)/\b ≠ X.env.locals/\(∀ x c,X.env.cells.lookup x = some c->c ≠ b)/\∀ p ∈ X.pn ++ pins,p.1 ≠ b)
  (keep : ∀ b o,b ≠ X.env.locals->b ∉ X.fs->b ∉ ch->s.heap.get? b = some o->H b = none->h'.get? b = some o)
  (slot : ∀ b o,b ≠ X.env.locals->b ∈ X.fs->b ∉ ch->s.heap.get? b = some o->H b = none->∃ sl,h'.get? b = some { o with slots:=sl }) (free : ∀ b o,b ∉ ch->s.heap.get? b = some o->H b = none->H' b = none)
  (there : ∀ b o,b ∉ ch->s.heap.get? b = some o->∃ o',h'.get? b = some o')
  (tups : ∀ b xs,H b = some (.tup xs)->H' b = some (.tup xs)) (frzs : ∀ b o u,H b = some (.frz o u)->H' b = some (.frz o u)) (tbls : ∀ b ps,H b = some (.tbl ps)->∃ more,H' b = some (.tbl (ps ++ more)))
  (ns : ∀ m,s.heap.Ns X.env.locals m->h'.Ns X.env.locals m) (hok : HOk X.prog X.w H' h') (hg : GOk s.gens g') :
  Inv X pins σ H' { s with heap:=h',gens:=g',drawn:=d',toks:=t' }:=by
 have neL : ∀ b o,X.s₀.heap.get? b = some o->b ≠ X.env.locals:=fun b o e=>Nat.ne_of_lt (Nat.lt_of_lt_of_le (Heap.lt_size e) I.ok.above)
 have neC : ∀ b o,X.s₀.heap.get? b = some o->b ∉ X.ex->b ∉ ch:=fun b o e hx hb=>by
  rcases (hch b hb).1 with z | z
  ·exact hx z
  ·exact absurd (Nat.lt_of_lt_of_le (Heap.lt_size e) z) (Nat.lt_irrefl _)
 have cellK : ∀ x c,X.env.cells.lookup x = some c->∀ v,s.heap.IsCell c v->h'.IsCell c v:=fun x c e v ⟨o,ho,hd⟩=>by
  have nch : c ∉ ch:=fun z=>(hch c z).2.2.1 x c e rfl
  by_cases hc : c ∈ X.fs
  ·obtain ⟨sl,q⟩:=slot c o (I.cne x c e) hc nch ho (I.freeC x c e)
   exact ⟨_,q,hd⟩
  ·exact ⟨o,keep c o (I.cne x c e) hc nch ho (I.freeC x c e),hd⟩
 refine ⟨I.ok,I.os,⟨hg.1,Nat.le_trans I.bare.2 hg.2⟩,⟨fun b o e n hb hx=>?_,fun b o e n hb hx=>?_,fun b o e n hx=>?_,fun b o e hx=>?_,fun b xs e=>tups b xs (I.base.tups b xs e),fun b o xs e=>frzs b o xs (I.base.frzs b o xs e),fun b ps e=>?_⟩,?_,fun x c e=>?_,?_,fun x c e=>?_,fun p hp=>?_,hok,I.len⟩
 ·exact keep b o (neL b o e) hb (neC b o e hx) (I.base.keep b o e n hb hx) (I.base.free b o e n hx)
 ·obtain ⟨sl,e1⟩:=I.base.slot b o e n hb hx
  obtain ⟨sl',e2⟩:=slot b _ (neL b o e) hb (neC b o e hx) e1 (I.base.free b o e n hx)
  exact ⟨sl',e2⟩
 ·obtain ⟨o',e1⟩:=I.base.there b o e hx
  exact free b o' (neC b o e hx) e1 (I.base.free b o e n hx)
 ·obtain ⟨o',e1⟩:=I.base.there b o e hx
  exact there b o' (neC b o e hx) e1
 ·obtain ⟨m1,e1⟩:=I.base.tbls b ps e
  obtain ⟨m2,e2⟩:=tbls b _ e1
  exact ⟨m1 ++ m2,by rw [e2,Array.append_assoc]⟩
 ·obtain ⟨m,hn,hl⟩:=I.loc
  refine ⟨m,ns m hn,fun i x v e1 e2 e3=>?_⟩
  obtain ⟨u,r,l⟩:=hl i x v e1 e2 e3
  refine ⟨u,r,?_⟩
  rcases l with l | ⟨k,c,e,z⟩
  ·exact .inl l
  ·exact .inr ⟨k,c,e,cellK x c e _ z⟩
 ·obtain ⟨v,z⟩:=I.cell x c e
  exact ⟨v,cellK x c e v z⟩
 ·obtain ⟨m,⟨o,_,_,ho,_⟩,_⟩:=I.loc
  exact free _ o (fun z=>(hch _ z).2.1 rfl) ho I.free
 ·obtain ⟨v,o,ho,hd⟩:=I.cell x c e
  exact free c o (fun z=>(hch c z).2.2.1 x c e rfl) ho (I.freeC x c e)
 ·obtain ⟨e,n,ne,nf,d⟩:=I.pin p hp
  have nch : p.1 ∉ ch:=fun z=>(hch p.1 z).2.2.2 p hp rfl
  exact ⟨keep p.1 p.2 ne nf nch e n,free p.1 p.2 nch e n,ne,nf,d⟩
theorem Inv.un {t' : Nat} (I : Inv X pins σ H s) (u : Un X.fs [] H H' s.heap h') (hok : HOk X.prog X.w H' h') : Inv X pins σ H' { s with heap:=h',toks:=t' }:=by
 obtain ⟨m,⟨o,es,ep,ho,r⟩,_⟩:=id I.loc
 obtain ⟨sl,hL⟩:=u.any ho I.free (by simp)
 exact I.step (g':=s.gens) (d':=s.drawn) (ch:=[]) (fun _ z=>nomatch z) (fun b o _ hb _ e n=>u.keep b o e n hb (by simp)) (fun b o _ hb _ e n=>u.slot b o e n hb (by simp)) (fun b o _ e n=>u.free b o e n (by simp)) (fun b o _ e=>u.there b o e (by simp)) u.tups u.frzs u.tbls (fun m' hm=>by
  obtain ⟨o',es',ep',ho',r'⟩:=hm
  rw [ho] at ho';cases ho'
  exact ⟨_,es',ep',hL,r'⟩) hok ⟨I.bare.1,Nat.le_refl _⟩
theorem Inv.call {g' : Array GenState} {t' : Nat} {d' : Drawn} {ch : List Addr} (I : Inv X pins σ H s) (u : Un (frs X.stack) ch H H' s.heap h') (hok : HOk X.prog X.w H' h') (hg : GOk s.gens g')
  (hch : ∀ b ∈ ch,(b ∈ X.ex\/X.s₀.heap.objs.size <= b)/\b ≠ X.env.locals/\(∀ x c,X.env.cells.lookup x = some c->c ≠ b)/\∀ p ∈ X.pn ++ pins,p.1 ≠ b) :
  Inv X pins σ H' { s with heap:=h',gens:=g',drawn:=d',toks:=t' }:=by
 obtain ⟨m,⟨o,es,ep,ho,r⟩,_⟩:=id I.loc
 obtain ⟨sl,hL⟩:=u.any ho I.free fun z=>(hch _ z).2.1 rfl
 exact I.step (ch:=ch) hch (fun b o hL hb hc e n=>u.keep b o e n (fun z=>(List.mem_cons.mp (I.stkSub b z)).elim hL hb) hc) (fun b o _ _ hc e n=>u.any e n hc) (fun b o hc e n=>u.free b o e n hc) (fun b o hc e=>u.there b o e hc) u.tups u.frzs u.tbls (fun m' hm=>by
  obtain ⟨o',es',ep',ho',r'⟩:=hm
  rw [ho] at ho';cases ho'
  exact ⟨_,es',ep',hL,r'⟩) hok hg
theorem Inv.turned {t' : Nat} {it : Addr} (I : Inv X pins σ H s) (k : ∀ b o,b ≠ it->s.heap.get? b = some o->h'.get? b = some o) (hn : H it = none) (hL : it ≠ X.env.locals)
  (h1 : it ∈ X.ex\/X.s₀.heap.objs.size <= it) (h2 : ∀ x c,X.env.cells.lookup x = some c->c ≠ it) (h3 : ∀ p ∈ X.pn ++ pins,p.1 ≠ it) : Inv X pins σ H { s with heap:=h',toks:=t' }:=by
 have nit : ∀ b u,H b = some u->b ≠ it:=fun b u e z=>by rw [z,hn] at e;cases e
 refine I.step (g':=s.gens) (d':=s.drawn) (ch:=[it]) (fun b hb=>?_) (fun b o _ _ hc e _=>k b o (fun z=>hc (by simp [z])) e) (fun b o _ _ hc e _=>⟨o.slots,k b o (fun z=>hc (by simp [z])) e⟩) (fun _ _ _ _ n=>n)
  (fun b o hc e=>⟨o,k b o (fun z=>hc (by simp [z])) e⟩) (fun _ _ e=>e) (fun _ _ _ e=>e) (fun b ps e=>⟨#[],by rw [e];simp⟩) (fun m hm=>?_) (fun b u e=>?_) ⟨I.bare.1,Nat.le_refl _⟩
 ·have e : b = it:=by simpa using hb
  subst e
  exact ⟨h1,hL,h2,h3⟩
 ·obtain ⟨o,es,ep,ho,r⟩:=hm
  exact ⟨o,es,ep,k _ o (Ne.symm hL) ho,r⟩
 ·refine (I.hok b u e).stay (fun c v hc q=>k c v ?_ q) (fun _ q=>q) fun _ _ q=>q
  rcases hc with z | z
  ·rw [z];exact nit b u e
  ·exact nit c _ z
theorem Inv.tok (I : Inv X pins σ H s) (t : Nat) : Inv X pins σ H { s with toks:=t }:=I.un (h':=s.heap) (t':=t) Un.refl I.hok
theorem Inv.kept {t' : Nat} (I : Inv X pins σ H s) (k : ∀ b u,s.heap.get? b = some u->h'.get? b = some u) : Inv X pins σ H { s with heap:=h',toks:=t' }:=I.un (Un.kept k) (I.hok.kept k)
theorem Inv.laid {a : Addr} {o : HO} {t' : Nat} (I : Inv X pins σ H s) (k : ∀ b u,s.heap.get? b = some u->h'.get? b = some u) (hp : s.heap.objs.size <= a) (new : ObjOk X.prog X.w (upd H a o) h' a o) :
  Inv X pins σ (upd H a o) { s with heap:=h',toks:=t' }:=I.un (Un.laid k hp (I.hok.fresh hp)) (I.hok.laid k hp new)
theorem Inv.write {x e : Addr} {o : HO} {t' : Nat} (I : Inv X pins σ H s) (mu : Mut (H x)) (he : e = x\/H e = some (.own x)) (k : ∀ b u,b ≠ e->s.heap.get? b = some u->h'.get? b = some u) (heo : ∃ u,h'.get? e = some u)
  (new : ObjOk X.prog X.w (upd H x o) h' x o) : Inv X pins σ (upd H x o) { s with heap:=h',toks:=t' }:=I.un (Un.write mu he k heo) (I.hok.write mu he k heo new)
theorem Inv.weak {σ' : List (Option V)} (I : Inv X pins σ H s) (hl : σ'.length = σ.length) (w : ∀ (i : Nat) v,σ'[i]? = some (some v)->σ[i]? = some (some v)) : Inv X pins σ' H s :=
 ⟨I.ok,I.os,I.bare,I.base,let ⟨m,hn,hl'⟩:=I.loc;⟨m,hn,fun i x v e1 e2 e3=>hl' i x v e1 (w i v e2) e3⟩,I.cell,I.free,I.freeC,I.pin,I.hok,hl.trans I.len⟩
theorem Inv.pins_of {pins' : List (Addr × Obj)} (I : Inv X pins σ H s) (h : ∀ p ∈ pins',s.heap.get? p.1 = some p.2/\H p.1 = none/\p.1 ≠ X.env.locals/\p.1 ∉ X.fs/\∀ v,p.2.data ≠ .cell v) : Inv X pins' σ H s :=
 ⟨I.ok,I.os,I.bare,I.base,I.loc,I.cell,I.free,I.freeC,fun p hp=>(List.mem_append.mp hp).elim (fun z=>I.pin p (List.mem_append_left _ z)) (h p),I.hok,I.len⟩
theorem nodup_ix {N : List Str} (hN : N.Nodup) {i j : Nat} {x : Str} (a : N[i]? = some x) (b : N[j]? = some x) : i = j:=by
 obtain ⟨h1,e1⟩:=List.getElem?_eq_some_iff.mp a
 obtain ⟨h2,e2⟩:=List.getElem?_eq_some_iff.mp b
 exact (List.getElem_inj hN).mp (e1.trans e2.symm)
theorem store_ok2 {M : Model} {A : Around} {E : Value->Shared->Prop} {i : Nat} {x : Str} {v : V} {u : Value} {Q : Unit->Shared->Prop} (I : Inv X pins σ H s) (hN : X.N.Nodup) (hi : X.N[i]? = some x) (hx : Loc X.env.scope x) (r : RelV v u)
  (h : ∀ s',Inv X pins (σ.set i (some v)) H s'->(∃ a,Heap.SameBut a s.heap s'.heap/\(a = X.env.locals\/X.env.cells.lookup x = some a))->Q () s') (hf : X.fn x = true\/X.env.scope.names.lookup x = some .local:=by first | exact .inl rfl | exact .inr rfl | assumption) : wpAny M A (storeName X.env x u) Q E s:=by
 obtain ⟨m,hn,hl⟩:=id I.loc
 have hcls : (X.env.scope.kind == .class || (X.env.scope.kind == .module && X.env.locals != X.env.globals)) = false:=by rw [I.ok.kind];rfl
 have hiσ : i < σ.length:=by rw [I.len];exact (List.getElem?_eq_some_iff.mp hi).1
 have cne:=I.cne
 have tracked : ∀ {a : Addr} {h' : Heap},(∃ o,s.heap.get? a = some o/\H a = none)->Heap.SameBut a s.heap h'->HOk X.prog X.w H h':=fun {a h'} ha hs b ob e=>by
  obtain ⟨_,_,hfree⟩:=ha
  refine (I.hok b ob e).stay (fun c w' hc q=>(hs.2 c ?_).trans q) (fun _ q=>q) fun _ _ q=>q
  rintro rfl
  rcases hc with rfl | hc
  ·rw [hfree] at e;cases e
  ·rw [hfree] at hc;cases hc
 rcases hx with hk | hk
 ·refine wpAny_storeName_local hk hn (fun h' hn' hs=>?_) hcls
  obtain ⟨oL,_,_,hoL,_⟩:=id hn
  refine h _ ⟨I.ok,I.os,I.bare,⟨fun b o e n hb hx=>?_,fun b o e n hb hx=>?_,I.base.free,fun b o e hx=>?_,I.base.tups,I.base.frzs,I.base.tbls⟩,⟨_,hn',fun j y v' e1 e2 e3=>?_⟩,fun y c e=>?_,I.free,I.freeC,fun p hp=>?_,tracked ⟨oL,hoL,I.free⟩ hs,by simpa using I.len⟩ ⟨_,hs,.inl rfl⟩
  ·exact (hs.2 b (Nat.ne_of_lt (Nat.lt_of_lt_of_le (Heap.lt_size e) I.ok.above))).trans (I.base.keep b o e n hb hx)
  ·obtain ⟨sl,e1⟩:=I.base.slot b o e n hb hx
   exact ⟨sl,(hs.2 b (Nat.ne_of_lt (Nat.lt_of_lt_of_le (Heap.lt_size e) I.ok.above))).trans e1⟩
  ·obtain ⟨o',e1⟩:=I.base.there b o e hx
   exact ⟨o',(hs.2 b (Nat.ne_of_lt (Nat.lt_of_lt_of_le (Heap.lt_size e) I.ok.above))).trans e1⟩
  ·by_cases hj : j = i
   ·subst hj
    rw [hi] at e1;cases e1
    rw [List.getElem?_set_self hiσ] at e2
    cases e2
    exact ⟨u,r,.inl ⟨hk,by simp⟩⟩
   ·rw [List.getElem?_set_ne (Ne.symm hj)] at e2
    obtain ⟨u',r',q⟩:=hl j y v' e1 e2 e3
    refine ⟨u',r',?_⟩
    rcases q with ⟨k,e⟩ | ⟨k,c,e,z⟩
    ·refine .inl ⟨k,?_⟩
     have : y ≠ x:=fun e=>hj (nodup_ix hN e1 (e ▸ hi))
     simp [this,e]
    ·exact .inr ⟨k,c,e,z.sameBut hs (cne y c e)⟩
  ·obtain ⟨w',z⟩:=I.cell y c e
   exact ⟨w',z.sameBut hs (cne y c e)⟩
  ·obtain ⟨e,n,ne,nf,d⟩:=I.pin p hp
   exact ⟨(hs.2 p.1 ne).trans e,n,ne,nf,d⟩
 ·have hfn : X.fn x = true:=by
   rcases hf with z | z
   ·exact z
   ·rw [z] at hk;cases hk
  obtain ⟨c,hc⟩:=I.ok.has x (.inl hk)
  obtain ⟨w',z⟩:=I.cell x c hc
  refine wpAny_storeName_cell I.ok.kind hk hc z (fun h' hc' hs=>?_)
  obtain ⟨oc,hoc,hocd⟩:=id z
  refine h { s with heap:=h' } ⟨I.ok,I.os,I.bare,⟨fun b o e n hb hx=>?_,fun b o e n hb hx=>?_,I.base.free,fun b o e hx=>?_,I.base.tups,I.base.frzs,I.base.tbls⟩,⟨m,hn.sameBut hs (Ne.symm (cne x c hc)),fun j y v' e1 e2 e3=>?_⟩,fun y c' e=>?_,I.free,I.freeC,fun p hp=>?_,tracked ⟨oc,hoc,I.freeC x c hc⟩ hs,by simpa using I.len⟩ ⟨c,hs,.inr hc⟩
  ·exact (hs.2 b (Nat.ne_of_lt (Nat.lt_of_lt_of_le (Heap.lt_size e) (I.ok.cab x c hfn hc)))).trans (I.base.keep b o e n hb hx)
  ·obtain ⟨sl,e1⟩:=I.base.slot b o e n hb hx
   exact ⟨sl,(hs.2 b (Nat.ne_of_lt (Nat.lt_of_lt_of_le (Heap.lt_size e) (I.ok.cab x c hfn hc)))).trans e1⟩
  ·obtain ⟨o',e1⟩:=I.base.there b o e hx
   exact ⟨o',(hs.2 b (Nat.ne_of_lt (Nat.lt_of_lt_of_le (Heap.lt_size e) (I.ok.cab x c hfn hc)))).trans e1⟩
  ·by_cases hj : j = i
   ·subst hj
    rw [hi] at e1;cases e1
    rw [List.getElem?_set_self hiσ] at e2
    cases e2
    exact ⟨u,r,.inr ⟨.inl hk,c,hc,hc'⟩⟩
   ·rw [List.getElem?_set_ne (Ne.symm hj)] at e2
    obtain ⟨u',r',q⟩:=hl j y v' e1 e2 e3
    refine ⟨u',r',?_⟩
    rcases q with q | ⟨k,c',e,z'⟩
    ·exact .inl q
    ·refine .inr ⟨k,c',e,z'.sameBut hs ?_⟩
     rintro rfl
     exact hj (nodup_ix hN e1 (I.ok.inj _ _ _ e hc ▸ hi))
  ·by_cases hcc : c' = c
   ·subst hcc;exact ⟨_,hc'⟩
   ·obtain ⟨w2,z2⟩:=I.cell y c' e
    exact ⟨w2,z2.sameBut hs hcc⟩
  ·obtain ⟨e,n,ne,nf,d⟩:=I.pin p hp
   refine ⟨(hs.2 p.1 ?_).trans e,n,ne,nf,d⟩
   intro q
   rw [q,hoc] at e
   have q' : oc = p.2:=Option.some.inj e
   exact d w' (by rw [<- q'];exact hocd)
theorem store_ok {M : Model} {A : Around} {E : Value->Shared->Prop} {i : Nat} {x : Str} {v : V} {u : Value} {Q : Unit->Shared->Prop} (I : Inv X pins σ H s) (hN : X.N.Nodup) (hi : X.N[i]? = some x) (hx : Loc X.env.scope x) (r : RelV v u)
  (h : ∀ s',Inv X pins (σ.set i (some v)) H s'->Q () s') (hf : X.fn x = true\/X.env.scope.names.lookup x = some .local:=by first | exact .inl rfl | exact .inr rfl | assumption) : wpAny M A (storeName X.env x u) Q E s :=
 store_ok2 I hN hi hx r (fun s' I' _=>h s' I') hf
theorem Inv.call' {s' : Shared} {ch : List Addr} (I : Inv X pins σ H s) (ho : s'.os = s.os) (u : Un (frs X.stack) ch H H' s.heap s'.heap) (hok : HOk X.prog X.w H' s'.heap) (hg : GOk s.gens s'.gens)
  (hch : ∀ b ∈ ch,(b ∈ X.ex\/X.s₀.heap.objs.size <= b)/\b ≠ X.env.locals/\(∀ x c,X.env.cells.lookup x = some c->c ≠ b)/\∀ p ∈ X.pn ++ pins,p.1 ≠ b) : Inv X pins σ H' s':=by
 obtain ⟨h',g',d',t',o'⟩:=s'
 have e : o' = s.os:=ho
 subst e
 exact I.call (g':=g') (t':=t') (d':=d') u hok hg hch
end
abbrev XK:=Value->Option Addr->Hp->Prop
abbrev St:=List (Option V)
abbrev VK:=V->Hp->Prop
abbrev TE:=St->Hp->VK->Prop
abbrev TT:=St->Hp->(Bool->Hp->Prop)->Prop
abbrev TA:=St->Hp->(List V->Hp->Prop)->Prop
structure Ends where
 nx : St->Hp->Prop
 rt : VK
 bk : St->Hp->Prop:=fun _ _=>False
 ct : St->Hp->Prop:=fun _ _=>False
abbrev TS:=Ends->St->Hp->Prop
def EP (X : Cx) (pins : List (Addr × Obj)) (σ : St) (Q : VK) (u : Value) (s' : Shared) : Prop := ∃ v H',Inv X pins σ H' s'/\RelV v u/\Q v H'
def TP (X : Cx) (pins : List (Addr × Obj)) (σ : St) (Q : Bool->Hp->Prop) (b : Bool) (s' : Shared) : Prop := ∃ H',Inv X pins σ H' s'/\Q b H'
def AP (X : Cx) (pins : List (Addr × Obj)) (σ : St) (Q : List V->Hp->Prop) (us : List Value) (s' : Shared) : Prop := ∃ vs H',Inv X pins σ H' s'/\Vals vs us/\Q vs H'
def SP (X : Cx) (pins : List (Addr × Obj)) (D : Ends) (f : Flow) (s' : Shared) : Prop :=
 match f with
 | .next=>∃ σ' H',Inv X pins σ' H' s'/\D.nx σ' H'
 | .brk=>∃ σ' H',Inv X pins σ' H' s'/\D.bk σ' H'
 | .cont=>∃ σ' H',Inv X pins σ' H' s'/\D.ct σ' H'
 | .ret u=>∃ v σ' H',Inv X pins σ' H' s'/\RelV v u/\D.rt v H'
def PE (X : Cx) (e : Expr) (t : TE) : Prop :=
 ∀ (pins : List (Addr × Obj)) (s : Shared) (σ : St) (H : Hp) (Q : VK),Inv X pins σ H s->t σ H Q->wpAny (model X.prog X.w) X.A (eval e X.env) (EP X pins σ Q) X.xe s
def PT (X : Cx) (e : Expr) (t : TT) : Prop :=
 ∀ (pins : List (Addr × Obj)) (s : Shared) (σ : St) (H : Hp) (Q : Bool->Hp->Prop),Inv X pins σ H s->t σ H Q->wpAny (model X.prog X.w) X.A (isTrue e X.env (eval e X.env)) (TP X pins σ Q) X.xe s
def PW (X : Cx) (e : Expr) (t : TT) : Prop :=
 ∀ (whole : Sem Value) (pins : List (Addr × Obj)) (s : Shared) (σ : St) (H : Hp) (Q : Bool->Hp->Prop),Inv X pins σ H s->t σ H Q->wpAny (model X.prog X.w) X.A (isTrue e X.env whole) (TP X pins σ Q) X.xe s
theorem PW.pt {X : Cx} {e : Expr} {t : TT} (h : PW X e t) : PT X e t:=h _
def PA (X : Cx) (es : List Expr) (t : TA) : Prop :=
 ∀ (pos : Pos) (pins : List (Addr × Obj)) (s : Shared) (σ : St) (H : Hp) (Q : List V->Hp->Prop),Inv X pins σ H s->t σ H Q->wpAny (model X.prog X.w) X.A (spliced (backTo pos (starEach es X.env))) (AP X pins σ Q) X.xe s
def PS (X : Cx) (st : Stmt) (t : TS) : Prop :=
 ∀ (pins : List (Addr × Obj)) (s : Shared) (σ : St) (H : Hp) (D : Ends),Inv X pins σ H s->t D σ H->wpAny (model X.prog X.w) X.A (exec st X.env) (SP X pins D) X.xe s
def PSs (X : Cx) (st : List Stmt) (t : TS) : Prop :=
 ∀ (pins : List (Addr × Obj)) (s : Shared) (σ : St) (H : Hp) (D : Ends),Inv X pins σ H s->t D σ H->wpAny (model X.prog X.w) X.A (execs st X.env) (SP X pins D) X.xe s
theorem thn {α : Type} {t : Sem α} {Q Q' : α->Shared->Prop} {M : Model} {A : Around} {E : Value->Shared->Prop} {s : Shared} (h : wpAny M A t Q E s) (hQ : ∀ a s,Q a s->Q' a s) : wpAny M A t Q' E s:=wpAny_mono h hQ fun _ _ x=>x
end L2
namespace L2
open PySem PySem.Spec PyProof.Rows
section
variable {X : Cx}
def tVar (i : Nat) : TE:=fun σ H Q=>∃ v,σ[i]? = some (some v)/\Q v H
def tC (v : V) : TE:=fun _ H Q=>Q v H
theorem pe_var {i : Nat} {x : Str} {pos : Pos} (hN : X.N[i]? = some x) (hv : Vis X.env.scope x) (hd : (x == ("__debug__" : Str)) = false:=by decide) (hcd : (x == ("__classdict__" : Str)) = false:=by decide) : PE X (.Name x pos) (tVar i):=by
 intro pins s σ H Q I h
 obtain ⟨v,e,h⟩:=h
 obtain ⟨m,hn,hl⟩:=I.loc
 obtain ⟨u,r,l⟩:=hl i x v hN e hv
 have fin : EP X pins σ Q u s:=⟨v,H,I,r,h⟩
 rcases l with ⟨hk,hm⟩ | ⟨hk,c,hc,hcell⟩
 ·exact wpAny_Name (wpAny_loadName_local I.ok.kind hk hn hm fin) hd
 ·rcases hk with hk | hk
  ·exact wpAny_Name (wpAny_loadName_cell I.ok.kind hk hc hcell fin) hd
  ·exact wpAny_Name (wpAny_loadName_free I.ok.kind hk hc hcell fin hcd) hd
theorem pe_int {i j pos} : PE X (.Constant (.int i) j pos) (tC (.int i)):=fun _ _ _ H _ I h=>wpAny_Constant_int ⟨.int i,H,I.tok _,⟨_,rfl⟩,h⟩
theorem pe_bl {b j pos} : PE X (.Constant (.bool b) j pos) (tC (.bl b)):=fun _ _ _ H _ I h=>Constant_bool ⟨.bl b,H,I,rfl,h⟩
theorem pe_non {j pos} : PE X (.Constant .none j pos) (tC .non):=fun _ _ _ H _ I h=>Constant_none ⟨.non,H,I,rfl,h⟩
theorem pe_str {x j pos} : PE X (.Constant (.str x) j pos) (tC (.str x)):=fun _ _ _ H _ I h=>Calls.Constant_str ⟨.str x,H,I.tok _,⟨_,rfl⟩,h⟩
def Gl (X : Cx) (x : Str) : Prop:=X.env.kindOf x = some .globalImplicit
theorem ld_glob {E : Value->Shared->Prop} {pins : List (Addr × Obj)} {s : Shared} {σ : St} {H : Hp} {x : Str} {u : Value} {pos : Pos} {Q : Value->Shared->Prop} (I : Inv X pins σ H s) (hg : Gl X x) (hm : X.mg x = some u) (h : Q u s)
  (hd : (x == ("__debug__" : Str)) = false:=by decide) : wpAny (model X.prog X.w) X.A (eval (.Name x pos) X.env) Q E s :=
 Calls.Name_function_global I.ok.kind hg (Calls.loadGlobal_global (by rw [I.ok.glob];exact I.mod.glob.keeps I.bk) hm h) hd
theorem ld_blt {E : Value->Shared->Prop} {pins : List (Addr × Obj)} {s : Shared} {σ : St} {H : Hp} {x : Str} {u : Value} {pos : Pos} {Q : Value->Shared->Prop} (I : Inv X pins σ H s) (hg : Gl X x) (hm : X.mg x = none) (hv : bootBuiltins x = some u) (h : Q u s)
  (hn : x ≠ "__name__" := by decide) (hd : (x == ("__debug__" : Str)) = false:=by decide) : wpAny (model X.prog X.w) X.A (eval (.Name x pos) X.env) Q E s:=by
 obtain ⟨mb,h1,h2⟩:=I.mod.blt
 exact Calls.Name_function_global I.ok.kind hg (Calls.loadGlobal_builtin (by rw [I.ok.glob];exact I.mod.glob.keeps I.bk) hm (by rw [I.ok.blt];exact h1.keeps I.bk) ((h2 x hn).trans hv) h) hd
theorem pe_glob {x : Str} {v : V} {u : Value} {pos : Pos} (hg : Gl X x) (hm : X.mg x = some u) (r : RelV v u) (hd : (x == ("__debug__" : Str)) = false:=by decide) : PE X (.Name x pos) (tC v) :=
 fun _ _ _ H _ I h=>ld_glob I hg hm ⟨v,H,I,r,h⟩ hd
theorem pe_bltn {x : Str} {v : V} {u : Value} {pos : Pos} (hg : Gl X x) (hm : X.mg x = none) (hv : bootBuiltins x = some u) (r : RelV v u) (hn : x ≠ "__name__" := by decide) (hd : (x == ("__debug__" : Str)) = false:=by decide) : PE X (.Name x pos) (tC v) :=
 fun _ _ _ H _ I h=>ld_blt I hg hm hv ⟨v,H,I,r,h⟩ hn hd
variable {a b : Expr} {ta tb : TE} {pos : Pos}
def tB (t : TE) : TT:=fun σ H Q=>t σ H fun x H1=>∃ c,x = .bl c/\Q c H1
theorem pt_val {e : Expr} {t : TE} (h : PE X e t) (he : ∀ whole, isTrue e X.env whole = (do let v ← whole; standAt e.pos; holding [v] (truthy v)) := by intro _; rfl) : PT X e (tB t) := by
  intro pins s σ H Q I hw
  refine isTrue_plain (thn (h pins s σ H _ I hw) fun v s1 ⟨x, H1, I1, r1, q1⟩ => ?_) (he _)
  obtain ⟨d, rfl, q⟩ := q1
  cases r1
  exact wpAny_truthy_bool ⟨H1, I1, q⟩
variable {tA tB' : TT} {rest : List Expr}
def tAnd (t u : TT) : TT:=fun σ H Q=>t σ H fun c H1=>if c = true then u σ H1 Q else Q false H1
def tOr (t u : TT) : TT:=fun σ H Q=>t σ H fun c H1=>if c = true then Q true H1 else u σ H1 Q
def tNot (t : TT) : TT:=fun σ H Q=>t σ H fun c H1=>Q (!c) H1
theorem pw_and1 (ha : PT X a tA) : PW X (.BoolOp .And [a] pos) tA:=by
 intro wh pins s σ H Q I h
 refine isTrue_and (thn (ha pins s σ H Q I h) fun c s1 e=>?_)
 cases c with
 | true=>exact isTrue_and_nil e
 | false=>exact e
theorem pw_or1 (ha : PT X a tA) : PW X (.BoolOp .Or [a] pos) tA:=by
 intro wh pins s σ H Q I h
 refine isTrue_or (thn (ha pins s σ H Q I h) fun c s1 e=>?_)
 cases c with
 | false=>exact isTrue_or_nil e
 | true=>exact e
theorem pw_and (ha : PT X a tA) (hb : PW X (.BoolOp .And (b :: rest) pos) tB') : PW X (.BoolOp .And (a :: b :: rest) pos) (tAnd tA tB'):=by
 intro wh pins s σ H Q I h
 refine isTrue_and (thn (ha pins s σ H _ I h) fun c s1 ⟨H1,I1,q1⟩=>?_)
 cases c with
 | true=>exact hb wh pins s1 σ H1 Q I1 q1
 | false=>exact ⟨H1,I1,q1⟩
theorem pw_or (ha : PT X a tA) (hb : PW X (.BoolOp .Or (b :: rest) pos) tB') : PW X (.BoolOp .Or (a :: b :: rest) pos) (tOr tA tB'):=by
 intro wh pins s σ H Q I h
 refine isTrue_or (thn (ha pins s σ H _ I h) fun c s1 ⟨H1,I1,q1⟩=>?_)
 cases c with
 | true=>exact ⟨H1,I1,q1⟩
 | false=>exact hb wh pins s1 σ H1 Q I1 q1
theorem pt_not (ha : PT X a tA) : PT X (.UnaryOp .Not a pos) (tNot tA):=by
 intro pins s σ H Q I h
 exact isTrue_not (ha pins s σ H (fun c H1=>Q (!c) H1) I h)
def tOrV (ta tb : TE) : TE:=fun σ H Q=>ta σ H fun x H1=>∃ c,x = .bl c/\if c = true then Q (.bl true) H1 else tb σ H1 Q
theorem pe_one {op} {t : TE} (h : PE X a t) : PE X (.BoolOp op [a] pos) t:=fun pins s σ H Q I hw=>BoolOp_one (h pins s σ H Q I hw)
theorem pe_or (ha : PE X a ta) (hb : PE X (.BoolOp .Or (b :: rest) pos) tb) : PE X (.BoolOp .Or (a :: b :: rest) pos) (tOrV ta tb):=by
 intro pins s σ H Q I h
 refine BoolOp_or (thn (ha pins s σ H _ I h) fun v s1 ⟨x,H1,I1,r1,q1⟩=>?_)
 obtain ⟨c,rfl,q1⟩:=q1
 cases r1
 refine wpAny_truthy_bool ?_
 cases c with
 | false=>exact hb pins s1 σ H1 Q I1 q1
 | true=>exact ⟨.bl true,H1,I1,rfl,q1⟩
def tIf (t : TT) (ta tb : TE) : TE:=fun σ H Q=>t σ H fun c H1=>if c = true then ta σ H1 Q else tb σ H1 Q
theorem pe_ifExp {c : Expr} (hc : PT X c tA) (ha : PE X a ta) (hb : PE X b tb) : PE X (.IfExp c a b pos) (tIf tA ta tb):=by
 intro pins s σ H Q I h
 refine wpAny_IfExp (thn (hc pins s σ H _ I h) fun d s1 ⟨H1,I1,q1⟩=>?_)
 cases d with
 | true=>exact ha pins s1 σ H1 Q I1 q1
 | false=>exact hb pins s1 σ H1 Q I1 q1
end
end L2
namespace L2
open PySem PySem.Spec PyProof.Rows
def SqL (K : PySem.W.Frag) (H : Hp) (a : Addr) (xs : List V) : Prop :=
 Rd H a (.lst xs) \/
  ∃ (o : Obj) (its : Array Value) (n : Nat),K.lookup a = some o/\o.cls = .type "list"/\o.dict = none/\o.data = .seq its n/\its.size <= sizeLine/\Vals xs its.toList
def SqT (K : PySem.W.Frag) (H : Hp) (a : Addr) (xs : List V) : Prop :=
 Rd H a (.tup xs) \/
  ∃ (o : Obj) (its : Array Value) (n : Nat),K.lookup a = some o/\o.cls = .type "tuple"/\o.data = .seq its n/\its.size <= sizeLine/\Vals xs its.toList
def absV : Value->Option V
 | .none=>some .non
 | .bool b=>some (.bl b)
 | .int i _=>some (.int i)
 | .str x _=>some (.str x)
 | .bytes b _=>some (.byt b)
 | .float b _=>some (.flt b)
 | .ref a=>some (.ref a)
 | .type n=>some (.ty n)
 | _=>none
theorem RelV.abs {x : V} {u : Value} (r : RelV x u) : absV u = some x:=by
 cases x with
 | non=>cases r;rfl
 | bl _=>cases r;rfl
 | int _=>obtain ⟨t,rfl⟩:=r;rfl
 | str _=>obtain ⟨t,rfl⟩:=r;rfl
 | byt _=>obtain ⟨t,rfl⟩:=r;rfl
 | flt _=>obtain ⟨t,rfl⟩:=r;rfl
 | ref _=>cases r;rfl
 | ty _=>cases r;rfl
theorem RelV.inj {x y : V} {u : Value} (r : RelV x u) (q : RelV y u) : x = y:=Option.some.inj (r.abs.symm.trans q.abs)
theorem Vals.inj : ∀ {xs ys : List V} {us : List Value},Vals xs us->Vals ys us->xs = ys
 | _,_,_,.nil,.nil=>rfl
 | _,_,_,.cons r t,.cons r' t'=>by rw [r.inj r',Vals.inj t t']
section
variable {X : Cx} {pins : List (Addr × Obj)} {σ : St} {H : Hp} {s : Shared} {a : Addr} {xs ys : List V}
theorem SqL.of {K : PySem.W.Frag} (h : H a = some (.lst xs)) : SqL K H a xs:=.inl (.inl h)
theorem SqT.of {K : PySem.W.Frag} (h : H a = some (.tup xs)) : SqT K H a xs:=.inl (.inl h)
theorem Inv.list (I : Inv X pins σ H s) (h : SqL X.K H a xs) : ∃ its : List Value,Vals xs its/\PlainL s.heap a its.toArray/\xs.length <= sizeLine:=by
 rcases h with h | ⟨o,its,n,hk,hc,hd,hs,hz,r⟩
 ·obtain ⟨z,its,n,r,e⟩:=h.ok I.hok
  exact ⟨its,r,⟨_,n,e,rfl,rfl,rfl⟩,z⟩
 ·refine ⟨its.toList,r,⟨o,n,I.kIn a o hk,hc,hd,by simpa using hs⟩,?_⟩
  have e:=r.length
  simp only [Array.length_toList] at e
  omega
theorem Inv.tuple (I : Inv X pins σ H s) (h : SqT X.K H a xs) : ∃ its : List Value,Vals xs its/\IsTup s.heap a its.toArray/\xs.length <= sizeLine:=by
 rcases h with h | ⟨o,its,n,hk,hc,hs,hz,r⟩
 ·obtain ⟨z,its,r,p,_⟩:=h.ok I.hok
  exact ⟨its,r,p,z⟩
 ·refine ⟨its.toList,r,⟨o,I.kIn a o hk,hc,n,by simpa using hs⟩,?_⟩
  have e:=r.length
  simp only [Array.length_toList] at e
  omega
theorem Inv.list_inj (I : Inv X pins σ H s) (h : SqL X.K H a xs) (h' : SqL X.K H a ys) : xs = ys:=by
 obtain ⟨its,r,⟨o,n,e,_,_,d⟩,_⟩:=I.list h
 obtain ⟨its',r',⟨o',n',e',_,_,d'⟩,_⟩:=I.list h'
 rw [e] at e';cases e'
 rw [d] at d'
 injection d' with d1 _
 have : its = its':=by simpa using congrArg Array.toList d1
 subst this
 exact r.inj r'
theorem Inv.tuple_inj (I : Inv X pins σ H s) (h : SqT X.K H a xs) (h' : SqT X.K H a ys) : xs = ys:=by
 obtain ⟨its,r,⟨o,e,_,n,d⟩,_⟩:=I.tuple h
 obtain ⟨its',r',⟨o',e',_,n',d'⟩,_⟩:=I.tuple h'
 rw [e] at e';cases e'
 rw [d] at d'
 injection d' with d1 _
 have : its = its':=by simpa using congrArg Array.toList d1
 subst this
 exact r.inj r'
end
abbrev Cx.wish (X : Cx) (E : Value->Shared->Prop) : Cx:={ X with xe:=E }
abbrev Cx.nox (X : Cx) : Cx:=X.wish fun _ _=>False
theorem Cx.Ok.wish {X : Cx} (ok : X.Ok) (E : Value->Shared->Prop) : (X.wish E).Ok :=
 ⟨ok.mod,ok.kind,ok.glob,ok.blt,ok.above,ok.inj,ok.has,ok.cab,ok.hd,ok.frames,ok.stk,ok.exf,ok.bs,ok.bsz,ok.noex,ok.exfs,ok.funs,ok.frf⟩
theorem Cx.Ok.unwish {X : Cx} {E : Value->Shared->Prop} (ok : (X.wish E).Ok) : X.Ok :=
 ⟨ok.mod,ok.kind,ok.glob,ok.blt,ok.above,ok.inj,ok.has,ok.cab,ok.hd,ok.frames,ok.stk,ok.exf,ok.bs,ok.bsz,ok.noex,ok.exfs,ok.funs,ok.frf⟩
section
variable {X : Cx} {pins : List (Addr × Obj)} {σ : St} {H : Hp} {s : Shared} {E : Value->Shared->Prop}
theorem Inv.wish (I : Inv X pins σ H s) (E : Value->Shared->Prop) : Inv (X.wish E) pins σ H s:=⟨I.ok.wish E,I.os,I.bare,I.base,I.loc,I.cell,I.free,I.freeC,I.pin,I.hok,I.len⟩
theorem Inv.unwish (I : Inv (X.wish E) pins σ H s) : Inv X pins σ H s:=⟨I.ok.unwish,I.os,I.bare,I.base,I.loc,I.cell,I.free,I.freeC,I.pin,I.hok,I.len⟩
theorem SP.unwish {D : Ends} {f : Flow} {s' : Shared} (h : SP (X.wish E) pins D f s') : SP X pins D f s':=by
 cases f with
 | next=>obtain ⟨σ',H',I,q⟩:=h;exact ⟨σ',H',I.unwish,q⟩
 | brk=>obtain ⟨σ',H',I,q⟩:=h;exact ⟨σ',H',I.unwish,q⟩
 | cont=>obtain ⟨σ',H',I,q⟩:=h;exact ⟨σ',H',I.unwish,q⟩
 | ret u=>obtain ⟨v,σ',H',I,r,q⟩:=h;exact ⟨v,σ',H',I.unwish,r,q⟩
theorem PE.nox {e : Expr} {t : TE} (h : PE X.nox e t) : PE X e t:=fun pins s σ H Q I hw =>
 wpAny_mono (h pins s σ H Q (I.wish _) hw) (fun _ _ ⟨v,H',I',r,q⟩=>⟨v,H',I'.unwish,r,q⟩) fun _ _ z=>False.elim z
theorem PT.nox {e : Expr} {t : TT} (h : PT X.nox e t) : PT X e t:=fun pins s σ H Q I hw =>
 wpAny_mono (h pins s σ H Q (I.wish _) hw) (fun _ _ ⟨H',I',q⟩=>⟨H',I'.unwish,q⟩) fun _ _ z=>False.elim z
theorem PSs.nox {st : List Stmt} {t : TS} (h : PSs X.nox st t) : PSs X st t:=fun pins s σ H D I hw =>
 wpAny_mono (h pins s σ H D (I.wish _) hw) (fun _ _ q=>q.unwish) fun _ _ z=>False.elim z
end
section
variable {X : Cx} {st : Stmt} {rest : List Stmt} {t u : TS} {e : Expr} {te : TE} {pos : Pos}
def tNext : TS:=fun D σ H=>D.nx σ H
def tSeq (t u : TS) : TS:=fun D σ H=>t { D with nx:=u D } σ H
theorem pss_nil : PSs X [] tNext:=fun _ _ σ H _ I h=>wpAny_execs_nil ⟨σ,H,I,h⟩
theorem pss_cons (h1 : PS X st t) (h2 : PSs X rest u) : PSs X (st :: rest) (tSeq t u):=by
 intro pins s σ H D I h
 refine wpAny_execs_cons (thn (h1 pins s σ H { D with nx:=u D } I h) fun f s1 q=>?_)
 cases f with
 | next =>
  obtain ⟨σ',H',I',q⟩:=q
  exact h2 pins s1 σ' H' D I' q
 | ret v=>exact q
 | brk=>exact q
 | cont=>exact q
theorem pss_one (h1 : PS X st t) : PSs X [st] t:=by
 intro pins s σ H D I h
 refine wpAny_execs_cons (thn (h1 pins s σ H D I h) fun f s1 q=>?_)
 cases f with
 | next=>exact wpAny_execs_nil q
 | ret v=>exact q
 | brk=>exact q
 | cont=>exact q
theorem Inv.quiet {pins : List (Addr × Obj)} {σ : St} {H : Hp} {s : Shared} (I : Inv X pins σ H s) : interactive X.env = false:=by simp [interactive,I.ok.kind]
def tDrop (te : TE) : TS:=fun D σ H=>te σ H fun _ H1=>D.nx σ H1
theorem ps_expr (he : PE X e te) (hs : swapsWith e none pos.line X.env = pure false:=by rfl) : PS X (.Expr e pos) (tDrop te):=by
 intro pins s σ H D I h
 exact wpAny_Expr_any (thn (he pins s σ H _ I h) fun v s1 ⟨x,H1,I1,r1,q1⟩=>⟨σ,H1,I1,q1⟩) I.quiet hs
def tRet (te : TE) : TS:=fun D σ H=>te σ H D.rt
theorem ps_ret (he : PE X e te) : PS X (.Return (some e) pos) (tRet te):=by
 intro pins s σ H D I h
 exact wpAny_Return_some (thn (he pins s σ H _ I h) fun v s1 ⟨x,H1,I1,r1,q1⟩=>⟨x,σ,H1,I1,r1,q1⟩)
def tRetN : TS:=fun D _ H=>D.rt .non H
theorem ps_retN : PS X (.Return none pos) tRetN:=fun _ _ σ H _ I h=>wpAny_Return_none ⟨.non,σ,H,I,rfl,h⟩
def tIfS (c : TT) (t u : TS) : TS:=fun D σ H=>c σ H fun b H1=>if b = true then t D σ H1 else u D σ H1
theorem ps_if {c : Expr} {a b : List Stmt} {tc : TT} (hc : PT X c tc) (ha : PSs X a t) (hb : PSs X b u) : PS X (.If c a b pos) (tIfS tc t u):=by
 intro pins s σ H D I h
 refine wpAny_If (thn (hc pins s σ H _ I h) fun d s1 ⟨H1,I1,q1⟩=>?_)
 cases d with
 | true=>exact ha pins s1 σ H1 D I1 q1
 | false=>exact hb pins s1 σ H1 D I1 q1
end
abbrev TG:=V->St->Hp->(St->Hp->Prop)->Prop
abbrev TGs:=List V->St->Hp->(St->Hp->Prop)->Prop
def PG (X : Cx) (target : Expr) (t : TG) : Prop :=
 ∀ (pins : List (Addr × Obj)) (s : Shared) (σ : St) (H : Hp) (v : V) (u : Value) (Q : St->Hp->Prop),Inv X pins σ H s->RelV v u->t v σ H Q ->
  wpAny (model X.prog X.w) X.A (assign target X.env u) (fun _ s'=>∃ σ' H',Inv X pins σ' H' s'/\Q σ' H') X.xe s
def PGs (X : Cx) (ts : List Expr) (t : TGs) : Prop :=
 ∀ (pins : List (Addr × Obj)) (s : Shared) (σ : St) (H : Hp) (vs : List V) (us : List Value) (Q : St->Hp->Prop),Inv X pins σ H s->Vals vs us->t vs σ H Q ->
  wpAny (model X.prog X.w) X.A (assignInOrder ((assignEach ts X.env).map (·.2)) us) (fun _ s'=>∃ σ' H',Inv X pins σ' H' s'/\Q σ' H') X.xe s
abbrev TSet:=V->V->V->Hp->(Hp->Prop)->Prop
def PSet (X : Cx) (t : TSet) : Prop :=
 ∀ (pins : List (Addr × Obj)) (s : Shared) (σ : St) (H : Hp) (o i v : V) (ov iv u : Value) (Q : Hp->Prop),Inv X pins σ H s->RelV o ov->RelV i iv->RelV v u->t o i v H Q ->
  wpAny (model X.prog X.w) X.A (setItem ov iv u) (fun _ s'=>∃ H',Inv X pins σ H' s'/\Q H') X.xe s
section
variable {X : Cx} {pos : Pos}
def gName (i : Nat) : TG:=fun v σ H Q=>Q (σ.set i (some v)) H
theorem pg_name {i : Nat} {x : Str} (hN : X.N.Nodup) (hi : X.N[i]? = some x) (hx : Loc X.env.scope x) (hf : X.fn x = true\/X.env.scope.names.lookup x = some .local:=by first | exact .inl rfl | exact .inr rfl | assumption) : PG X (.Name x pos) (gName i):=by
 intro pins s σ H v u Q I r h
 exact wpAny_assign_Name (store_ok I hN hi hx r (fun s' I'=>⟨_,H,I',h⟩) hf)
def gNil : TGs:=fun vs σ H Q=>vs = []/\Q σ H
def gCons (t : TG) (u : TGs) : TGs:=fun vs σ H Q=>∃ v r,vs = v :: r/\t v σ H fun σ' H'=>u r σ' H' Q
theorem pgs_nil : PGs X [] gNil:=by
 intro pins s σ H vs us Q I r h
 obtain ⟨e,h⟩:=h
 subst e
 cases r
 exact assignInOrder_nil ⟨σ,H,I,h⟩
theorem pgs_cons {e : Expr} {es : List Expr} {t : TG} {u : TGs} (h1 : PG X e t) (h2 : PGs X es u)
  (hs : (assignEach (e :: es) X.env).map (·.2) = assign e X.env :: (assignEach es X.env).map (·.2):=by rfl) : PGs X (e :: es) (gCons t u):=by
 intro pins s σ H vs us Q I r h
 obtain ⟨v,vr,e1,h⟩:=h
 subst e1
 cases r with
 | cons r rr =>
  rw [hs]
  refine assignInOrder_cons (thn (h1 pins s σ H _ _ _ I r h) fun _ s1 ⟨σ1,H1,I1,q1⟩=>?_)
  exact h2 pins s1 σ1 H1 _ _ Q I1 rr q1
def gTup (K : PySem.W.Frag) (n : Nat) (t : TGs) : TG:=fun v σ H Q=>∃ a xs,v = .ref a/\SqT K H a xs/\xs.length = n/\t xs σ H Q
theorem pg_tup {es : List Expr} {k : Nat} {t : TGs} {n : Nat} (hc : X.calm = true) (h : PGs X es t)
  (hn : (assignEach es X.env).length = n:=by rfl) (hst : (assignEach es X.env).findIdx? (·.1) = none:=by rfl) : PG X (.Tuple es k pos) (gTup X.K n t):=by
 intro pins s σ H v u Q I r hw
 obtain ⟨a,xs,e1,hq,hl,hw⟩:=hw
 subst e1
 cases r
 obtain ⟨its,rv,ht,hz⟩:=I.tuple hq
 refine assign_Tuple_tuple (I.ok.hd hc) ht (by simp [hn,<- hl,rv.length]) hst fun h' hx=>?_
 have I1 : Inv X pins σ H { s with heap:=h' }:=I.kept (t':=s.toks) fun b o e=>hx b o (Nat.ne_of_lt (Heap.lt_size e)) e
 exact h pins _ σ H xs _ Q I1 (by simpa using rv) hw
def gSub (to ti : TE) (t : TSet) : TG:=fun v σ H Q=>to σ H fun o H1=>ti σ H1 fun i H2=>t o i v H2 fun H3=>Q σ H3
theorem pg_sub {o i : Expr} {to ti : TE} {t : TSet} (ho : PE X o to) (hi : PE X i ti) (hs : PSet X t)
  (ha : ∀ v,assign (.Subscript o i pos) X.env v = (do
   let ov <- holding [v] (eval o X.env)
   let iv <- holding [v,ov] (eval i X.env)
   standAt pos
   holding [v,ov,iv] (setItem ov iv v)
   release [v,ov,iv] []):=by intro _;rfl) : PG X (.Subscript o i pos) (gSub to ti t):=by
 intro pins s σ H v u Q I r h
 rw [ha]
 refine wpAny_bind (wpAny_holding (thn (ho pins s σ H _ I h) fun ov s1 ⟨x,H1,I1,r1,q1⟩=>?_))
 refine wpAny_bind (wpAny_holding (thn (hi pins s1 σ H1 _ I1 q1) fun iv s2 ⟨y,H2,I2,r2,q2⟩=>?_))
 refine wpAny_bind (wpAny_standAt (wpAny_bind (wpAny_holding (thn (hs pins s2 σ H2 x y v ov iv u _ I2 r1 r2 r q2) fun _ s3 ⟨H3,I3,q3⟩=>?_))))
 exact wpAny_release ⟨σ,H3,I3,q3⟩
def tAsg (te : TE) (g : TG) : TS:=fun D σ H=>te σ H fun x H1=>g x σ H1 D.nx
theorem ps_asg {tg e : Expr} {te : TE} {g : TG} (he : PE X e te) (hg : PG X tg g) (hs : swapsWithSole [tg] e pos.line X.env = pure false:=by rfl) (hw : swappedStores [tg] e X.env = pure none:=by rfl)
  (h1 : (assignEach [tg] X.env).map (·.2) = [assign tg X.env]:=by rfl) : PS X (.Assign [tg] e pos) (tAsg te g):=by
 intro pins s σ H D I h
 refine wpAny_Assign_stores (thn (he pins s σ H _ I h) fun v s1 ⟨x,H1,I1,r1,q1⟩=>?_) hs hw
 rw [h1]
 exact thn (hg pins s1 σ H1 x v _ I1 r1 q1) fun _ s2 q=>q
theorem ps_set {i : Nat} {x : Str} {e : Expr} {te : TE} {pos' : Pos} (hN : X.N.Nodup) (hi : X.N[i]? = some x) (hx : Loc X.env.scope x) (he : PE X e te) (hs : swapsWith e (some (.Name x pos')) pos.line X.env = pure false:=by rfl) (hf : X.fn x = true\/X.env.scope.names.lookup x = some .local:=by first | exact .inl rfl | exact .inr rfl | assumption) :
  PS X (.Assign [.Name x pos'] e pos) (tAsg te (gName i)):=by
 intro pins s σ H D I h
 refine wpAny_Assign_Name (thn (he pins s σ H _ I h) fun v s1 ⟨y,H1,I1,r1,q1⟩=>?_) hs
 exact store_ok I1 hN hi hx r1 (fun s2 I2=>⟨_,H1,I2,q1⟩) hf
end
section
variable {X : Cx} {pos : Pos}
end
structure It where
 go : Nat->Hp->Prop
 yld : Nat->Hp->V->Hp->Prop
 stop : Nat->Hp->Prop
def FpOk (X : Cx) (pins : List (Addr × Obj)) (H : Hp) (b : Addr) : Prop :=
 H b = none/\b ≠ X.env.locals/\b ∉ X.fs/\(b ∈ X.ex\/X.s₀.heap.objs.size <= b)/\(∀ x c,X.env.cells.lookup x = some c->c ≠ b)/\∀ p ∈ X.pn ++ pins,p.1 ≠ b
theorem Inv.fpOk {X : Cx} {pins : List (Addr × Obj)} {σ : St} {H H' : Hp} {s : Shared} {b : Addr} (I : Inv X pins σ H s) (hb : s.heap.objs.size <= b) (hn : H' b = none) : FpOk X pins H' b:=by
 refine ⟨hn,Nat.ne_of_gt (Nat.lt_of_lt_of_le I.lt hb),I.nofs hb,.inr (Nat.le_trans I.sz hb),fun x c e z=>?_,fun p hp z=>?_⟩
 ·obtain ⟨v,q⟩:=I.cell x c e
  exact absurd (Nat.lt_of_lt_of_le q.lt (by rw [z];exact hb)) (Nat.lt_irrefl _)
 ·exact absurd (Nat.lt_of_lt_of_le (Heap.lt_size (I.pin p hp).1) (by rw [z];exact hb)) (Nat.lt_irrefl _)
structure Turn (P : Program) (w : World) (K : PySem.W.Frag) (tg : Expr) (J : It) (fp : List Addr) (it : Addr) (tn : Nat->Heap->Prop) : Prop where
 mem : it ∈ fp
 obj : ∀ i h,tn i h->∀ b ∈ fp,∃ o,h.get? b = some o/\∀ v,o.data ≠ .cell v
 keep : ∀ i h h',tn i h->(∀ b ∈ fp,∀ o,h.get? b = some o->h'.get? b = some o)->tn i h'
 item : ∀ (X : Cx),X.prog = P->X.w = w->X.K = K->X.calm = true->∀ (i : Nat) (pins : List (Addr × Obj)) (s : Shared) (σ : St) (H : Hp) (E : Value->Shared->Prop),Inv X pins σ H s->(∀ b ∈ fp,FpOk X pins H b)->tn i s.heap->J.go i H ->
  wpAny (model P w) X.A (pyNext (.ref it)) (fun r s1=>∃ u,r = some u /\
   wpAny (model P w) X.A (letOwnedTupleGo tg (.ref it) u) (fun _ s2=>∃ x H',Inv X pins σ H' s2/\RelV x u/\J.yld i H x H'/\tn (i + 1) s2.heap/\∀ b ∈ fp,H' b = none) E s1) E s
 done : ∀ (X : Cx),X.prog = P->X.w = w->X.K = K->X.calm = true->∀ (i : Nat) (pins : List (Addr × Obj)) (s : Shared) (σ : St) (H : Hp) (E : Value->Shared->Prop),Inv X pins σ H s->(∀ b ∈ fp,FpOk X pins H b)->tn i s.heap->J.stop i H ->
  wpAny (model P w) X.A (pyNext (.ref it)) (fun r s1=>r = none/\Inv X pins σ H s1) E s
 self : ∀ (A : Around) (i : Nat) (s : Shared) (Q : Value->Shared->Prop) (E : Value->Shared->Prop),tn i s.heap->Q (.ref it) s->wpAny (model P w) A (pyIter (.ref it)) Q E s
abbrev TI:=St->Hp->(It->Hp->Prop)->Prop
def PIE (X : Cx) (pins : List (Addr × Obj)) (σ : St) (tg : Expr) (R : It->Hp->Prop) (itv : Value) (s2 : Shared) : Prop :=
 ∃ (it : Addr) (fp : List Addr) (tn : Nat->Heap->Prop) (J : It) (H' : Hp),itv = .ref it/\Inv X pins σ H' s2/\Turn X.prog X.w X.K tg J fp it tn/\tn 0 s2.heap/\(∀ b ∈ fp,FpOk X pins H' b)/\R J H'
def PI (X : Cx) (tg iter : Expr) (wi : TI) : Prop :=
 ∀ (pins : List (Addr × Obj)) (s : Shared) (σ : St) (H : Hp) (R : It->Hp->Prop),Inv X pins σ H s->wi σ H R ->
  wpAny (model X.prog X.w) X.A (eval iter X.env) (fun v s1=>wpAny (model X.prog X.w) X.A (pyIter v) (PIE X pins σ tg R) X.xe s1) X.xe s
theorem go_of {M : Model} {A : Around} {E : Value → Shared → Prop} {s : Shared} {tg : Expr} {it : Addr} {u : Value} {o : Obj} {n : String} {vs : Array Value} {Q : Unit → Shared → Prop} (ho : s.heap.get? it = some o) (hc : o.cls = .type n) (hd : o.data = .fields vs)
    (hn : ["enumerate", "zip", "dict_itemiterator", "dict_reverseitemiterator", "odict_iterator", "itertools.zip_longest", "itertools.pairwise"].contains n = false) (hQ : Q () s) : wpAny M A (letOwnedTupleGo tg (.ref it) u) Q E s := by
  unfold letOwnedTupleGo
  cases tg <;> first
    | exact wpAny_pure hQ
    | (cases u <;> first
        | exact wpAny_pure hQ
        | (refine wpAny_bind (wpAny_load ho ?_)
           rw [hc, hd]
           show wpAny M A (if (["enumerate", "zip", "dict_itemiterator", "dict_reverseitemiterator", "odict_iterator", "itertools.zip_longest", "itertools.pairwise"].contains n && vs[0]? == some (rawInt _)) = true then _ else _) Q E s
           rw [if_neg (by intro h; rw [hn, Bool.false_and] at h; cases h)]
           exact wpAny_pure hQ))
def Itl (K : PySem.W.Frag) (a : Addr) : It :=
 ⟨fun i H=>∃ xs x,SqL K H a xs/\xs[i]? = some x,fun i H x H'=>H' = H/\∀ xs,SqL K H a xs->xs[i]? = some x,fun i H=>∃ xs,SqL K H a xs/\xs.length <= i⟩
def Itt (K : PySem.W.Frag) (a : Addr) : It :=
 ⟨fun i H=>∃ xs x,SqT K H a xs/\xs[i]? = some x,fun i H x H'=>H' = H/\∀ xs,SqT K H a xs->xs[i]? = some x,fun i H=>∃ xs,SqT K H a xs/\xs.length <= i⟩
def Itr (lo : Int) (n : Nat) : It:=⟨fun i _=>i < n,fun i H x H'=>H' = H/\x = .int (lo + i),fun i _=>n <= i⟩
theorem turn_list {P : Program} {w : World} {K : PySem.W.Frag} {tg : Expr} (a it : Addr) : Turn P w K tg (Itl K a) [it] it (fun i h=>h.IsListIter it a i) where
 mem:=by simp
 obj:=fun i h st b hb=>by
  have e : b = it:=by simpa using hb
  subst e
  obtain ⟨o,e,c,d⟩:=st
  exact ⟨o,e,fun v z=>by rw [d] at z;cases z⟩
 keep:=fun i h h' st k=>st.at fun o e=>k it (by simp) o e
 item:=by
  intro X hP hw hK hc i pins s σ H E I hf st hg
  subst hP hw hK
  obtain ⟨xs,x,hq,hx⟩:=hg
  obtain ⟨its,rv,p,hz⟩:=I.list hq
  obtain ⟨u,hu,ru⟩:=rv.get hx
  obtain ⟨f0,f1,f2,f3,f4,f5⟩:=hf it (by simp)
  refine wpAny_pyNext_list_item st p.isList (x:=u) (by simpa using hu) fun h' st' sb=>?_
  have I1 : Inv X pins σ H { s with heap:=h' }:=I.turned (t':=s.toks) (fun b o hb e=>(sb.2 b hb).trans e) f0 f1 f3 f4 f5
  obtain ⟨o,e,c,d⟩:=id st'
  exact ⟨u,rfl,go_of (s:={ s with heap:=h' }) e c d (by decide) ⟨x,H,I1,ru,⟨rfl,fun ys hy=>by rw [I.list_inj hy hq];exact hx⟩,st',fun b hb=>(hf b hb).1⟩⟩
 done:=by
  intro X hP hw hK hc i pins s σ H E I hf st hg
  subst hP hw hK
  obtain ⟨xs,hq,hx⟩:=hg
  obtain ⟨its,rv,p,hz⟩:=I.list hq
  obtain ⟨f0,f1,f2,f3,f4,f5⟩:=hf it (by simp)
  have hl:=rv.length
  exact wpAny_pyNext_list_end (I.ok.hd hc) st p.isList (by simp;omega) fun h' eb=>⟨rfl,I.turned (t':=s.toks) (fun b o hb e=>eb b o hb e) f0 f1 f3 f4 f5⟩
 self:=fun _ _ _ _ _ st h=>wpAny_pyIter_listiter st h
theorem turn_tuple {P : Program} {w : World} {K : PySem.W.Frag} {tg : Expr} (a it : Addr) : Turn P w K tg (Itt K a) [it] it (fun i h=>h.IsTupleIter it a i) where
 mem:=by simp
 obj:=fun i h st b hb=>by
  have e : b = it:=by simpa using hb
  subst e
  obtain ⟨o,e,c,d⟩:=st
  exact ⟨o,e,fun v z=>by rw [d] at z;cases z⟩
 keep:=fun i h h' st k=>st.at fun o e=>k it (by simp) o e
 item:=by
  intro X hP hw hK hc i pins s σ H E I hf st hg
  subst hP hw hK
  obtain ⟨xs,x,hq,hx⟩:=hg
  obtain ⟨its,rv,p,hz⟩:=I.tuple hq
  obtain ⟨u,hu,ru⟩:=rv.get hx
  obtain ⟨f0,f1,f2,f3,f4,f5⟩:=hf it (by simp)
  refine wpAny_pyNext_tuple_item st (show s.heap.IsTuple a its.toArray from p) (x:=u) (by simpa using hu) fun h' st' sb=>?_
  have I1 : Inv X pins σ H { s with heap:=h' }:=I.turned (t':=s.toks) (fun b o hb e=>(sb.2 b hb).trans e) f0 f1 f3 f4 f5
  obtain ⟨o,e,c,d⟩:=id st'
  exact ⟨u,rfl,go_of (s:={ s with heap:=h' }) e c d (by decide) ⟨x,H,I1,ru,⟨rfl,fun ys hy=>by rw [I.tuple_inj hy hq];exact hx⟩,st',fun b hb=>(hf b hb).1⟩⟩
 done:=by
  intro X hP hw hK hc i pins s σ H E I hf st hg
  subst hP hw hK
  obtain ⟨xs,hq,hx⟩:=hg
  obtain ⟨its,rv,p,hz⟩:=I.tuple hq
  obtain ⟨f0,f1,f2,f3,f4,f5⟩:=hf it (by simp)
  have hl:=rv.length
  exact wpAny_pyNext_tuple_end (I.ok.hd hc) st (show s.heap.IsTuple a its.toArray from p) (by simp;omega) fun h' eb=>⟨rfl,I.turned (t':=s.toks) (fun b o hb e=>eb b o hb e) f0 f1 f3 f4 f5⟩
 self:=fun _ _ _ _ _ st h=>wpAny_pyIter_tupleiter st h
theorem turn_range {P : Program} {w : World} {K : PySem.W.Frag} {tg : Expr} (it : Addr) (lo : Int) (n : Nat) : Turn P w K tg (Itr lo n) [it] it (fun i h=>IsRangeIter h it (lo + (i : Nat) * 1) ((n : Int) - (i : Nat)) 1) where
 mem:=by simp
 obj:=fun i h st b hb=>by
  have e : b = it:=by simpa using hb
  subst e
  exact ⟨_,st,fun v z=>by
   have z' : Data.fields _ = Data.cell v:=z
   cases z'⟩
 keep:=fun i h h' st k=>k it (by simp) _ st
 item:=by
  intro X hP hw hK hc i pins s σ H E I hf st hg
  subst hP hw hK
  obtain ⟨f0,f1,f2,f3,f4,f5⟩:=hf it (by simp)
  have W:=Walks.range (prog:=X.prog) (w:=X.w) (I.ok.hd hc) it lo 1 n
  refine W.item i s _ _ hg st fun v h' tk hv st' kk=>?_
  obtain ⟨t,rfl⟩:=hv
  have I1 : Inv X pins σ H { s with heap:=h',toks:=tk }:=I.turned (fun b o hb e=>kk b o (by simpa using hb) e) f0 f1 f3 f4 f5
  refine ⟨_,rfl,go_of (s:={ s with heap:=h',toks:=tk }) (n := "range_iterator") st' rfl rfl (by decide) ⟨.int (lo + i),H,I1,⟨t,?_⟩,⟨rfl,rfl⟩,st',fun b hb=>(hf b hb).1⟩⟩
  rw [Int.mul_one]
 done:=by
  intro X hP hw hK hc i pins s σ H E I hf st hg
  subst hP hw hK
  obtain ⟨f0,f1,f2,f3,f4,f5⟩:=hf it (by simp)
  exact wpAny_pyNext_range_end (I.ok.hd hc) st (by have : n <= i:=hg;omega) fun h' eb=>⟨rfl,I.turned (t':=s.toks) (fun b o hb e=>eb b o hb e) f0 f1 f3 f4 f5⟩
 self:=fun _ _ _ _ _ st h=>wpAny_pyIter_rangeiter st h
end L2
namespace L2
open PySem PySem.Spec PyProof.Rows
section
variable {X : Cx} {tg : Expr}
def iList (K : PySem.W.Frag) (tl : TE) : TI:=fun σ H R=>tl σ H fun x H1=>∃ a,x = .ref a/\(∃ xs,SqL K H1 a xs)/\R (Itl K a) H1
def iTup (K : PySem.W.Frag) (tl : TE) : TI:=fun σ H R=>tl σ H fun x H1=>∃ a,x = .ref a/\(∃ xs,SqT K H1 a xs)/\R (Itt K a) H1
theorem pi_list {l : Expr} {tl : TE} (hl : PE X l tl) : PI X tg l (iList X.K tl):=by
 intro pins s σ H R I h
 refine thn (hl pins s σ H _ I h) fun v s1 ⟨x,H1,I1,r1,q1⟩=>?_
 obtain ⟨a,e,⟨xs,hq⟩,q⟩:=q1
 subst e
 cases r1
 obtain ⟨its,rv,p,hz⟩:=I1.list hq
 refine wpAny_pyIter_list p.isList ?_
 refine ⟨s1.heap.objs.size,[s1.heap.objs.size],_,_,H1,rfl,I1.kept (t':=s1.toks) fun b o e=>Heap.get?_push_of_some _ e,turn_list a _,⟨_,Heap.get?_push_size _ rfl,rfl,rfl⟩,fun b hb=>?_,q⟩
 have e : b = s1.heap.objs.size:=by simpa using hb
 subst e
 exact I1.fpOk (Nat.le_refl _) (I1.hok.fresh (Nat.le_refl _))
theorem pi_tup {l : Expr} {tl : TE} (hl : PE X l tl) : PI X tg l (iTup X.K tl):=by
 intro pins s σ H R I h
 refine thn (hl pins s σ H _ I h) fun v s1 ⟨x,H1,I1,r1,q1⟩=>?_
 obtain ⟨a,e,⟨xs,hq⟩,q⟩:=q1
 subst e
 cases r1
 obtain ⟨its,rv,p,hz⟩:=I1.tuple hq
 refine wpAny_pyIter_tuple (show s1.heap.IsTuple a its.toArray from p) ?_
 refine ⟨s1.heap.objs.size,[s1.heap.objs.size],_,_,H1,rfl,I1.kept (t':=s1.toks) fun b o e=>Heap.get?_push_of_some _ e,turn_tuple a _,⟨_,Heap.get?_push_size _ rfl,rfl,rfl⟩,fun b hb=>?_,q⟩
 have e : b = s1.heap.objs.size:=by simpa using hb
 subst e
 exact I1.fpOk (Nat.le_refl _) (I1.hok.fresh (Nat.le_refl _))
theorem range_it {pins : List (Addr × Obj)} {σ : St} {H : Hp} {s : Shared} {R : It->Hp->Prop} {E : Value->Shared->Prop} {lo hi : Int} {t u v : Tok} {tk : Nat} (I : Inv X pins σ H s) (h1 : -(2 ^ 62) <= lo) (h2 : lo < 2 ^ 62) (h3 : -(2 ^ 62) <= hi) (h4 : hi < 2 ^ 62)
  (q : R (Itr lo (hi - lo).toNat) H) : wpAny (model X.prog X.w) X.A (pyIter (.ref s.heap.objs.size)) (PIE X pins σ tg R) E { s with heap:=s.heap.push { cls:=.type "range",data:=.fields #[.int lo t,.int hi u,.int 1 v] },toks:=tk }:=by
 refine wpAny_pyIter_range (IsRange.new ..) (small_one h1 h2 h3 h4) ?_
 have I1 : Inv X pins σ H { s with heap:=s.heap.push { cls:=.type "range",data:=.fields #[.int lo t,.int hi u,.int 1 v] },toks:=tk }:=I.kept fun b o e=>Heap.get?_push_of_some _ e
 refine ⟨(s.heap.push { cls:=.type "range",data:=.fields #[.int lo t,.int hi u,.int 1 v] }).objs.size,[(s.heap.push { cls:=.type "range",data:=.fields #[.int lo t,.int hi u,.int 1 v] }).objs.size],_,_,H,rfl,
  I1.kept (t':=tk) fun b o e=>Heap.get?_push_of_some _ e,turn_range _ lo (hi - lo).toNat,?_,fun b hb=>?_,q⟩
 ·have e1 : lo + ((0 : Nat) : Int) * 1 = lo:=by simp
  have e2 : (((hi - lo).toNat : Nat) : Int) - ((0 : Nat) : Int) = Builtin.Range.rangeSize lo hi 1:=by rw [rangeSize_one];split <;> omega
  show IsRangeIter _ _ (lo + ((0 : Nat) : Int) * 1) ((((hi - lo).toNat : Nat) : Int) - ((0 : Nat) : Int)) 1
  rw [e1,e2]
  exact Heap.get?_push_size _ rfl
 ·have e : b = (s.heap.push { cls:=.type "range",data:=.fields #[.int lo t,.int hi u,.int 1 v] }).objs.size:=by simpa using hb
  subst e
  exact I1.fpOk (Nat.le_refl _) (I1.hok.fresh (Nat.le_refl _))
def iRng1 (ta : TA) : TI:=fun σ H R=>ta σ H fun vs H1=>∃ j : Int,vs = [.int j]/\-(2 ^ 62) <= j/\j < 2 ^ 62/\R (Itr 0 j.toNat) H1
theorem pi_range1 {a : Expr} {ta : TA} {p pos : Pos} (hg : Gl X "range") (hm : X.mg "range" = none) (ha : PA X [a] ta) (hs : starEach [a] X.env = [(false,eval a X.env)]:=by rfl) : PI X tg (.Call (.Name "range" p) [a] [] pos) (iRng1 ta):=by
 intro pins s σ H R I h
 refine Call_ (ld_blt I hg hm boot_range (PyProof.Rows.callWith_type1 (thn (ha pos pins s σ H _ I h) fun us s1 ⟨vs,H1,I1,r1,q1⟩=>?_) hs rfl))
 obtain ⟨j,e,q1,q2,q⟩:=q1
 subst e
 cases r1 with
 | cons r rr =>
  cases rr
  obtain ⟨t,rfl⟩:=r
  exact call_range_1 (range_it I1 (by omega) (by omega) q1 q2 (by simpa using q))
def tFor (wi : TI) (g : TG) (tb : TS) : TS:=fun D σ H=>wi σ H fun J H1=>∃ W : Nat->Nat->St->Hp->Prop,(∃ m,W 0 m σ H1)/\∀ i m σ H,W i m σ H ->
 (J.stop i H/\D.nx σ H)\/(J.go i H/\∃ N : St->Hp->Prop,(∀ σ' H',N σ' H'->∃ m',m' < m/\W (i + 1) m' σ' H')/\∀ x H',J.yld i H x H'->g x σ H' fun σ2 H2=>tb { D with nx:=N,ct:=N,bk:=D.nx } σ2 H2)
def pinsAt (fp : List Addr) (h : Heap) : List (Addr × Obj):=fp.filterMap fun b=>(h.get? b).map fun o=>(b,o)
theorem mem_pinsAt {fp : List Addr} {h : Heap} {b : Addr} {o : Obj} (hb : b ∈ fp) (e : h.get? b = some o) : (b,o) ∈ pinsAt fp h:=List.mem_filterMap.mpr ⟨b,hb,by rw [e];rfl⟩
theorem of_pinsAt {fp : List Addr} {h : Heap} {p : Addr × Obj} (hp : p ∈ pinsAt fp h) : p.1 ∈ fp/\h.get? p.1 = some p.2:=by
 obtain ⟨b,hb,e⟩:=List.mem_filterMap.mp hp
 cases q : h.get? b with
 | none=>rw [q] at e;cases e
 | some o =>
  rw [q] at e
  have e' : (b,o) = p:=Option.some.inj e
  subst e'
  exact ⟨hb,q⟩
theorem Inv.pinned {pins : List (Addr × Obj)} {σ : St} {H : Hp} {s : Shared} {fp : List Addr} (I : Inv X pins σ H s) (hf : ∀ b ∈ fp,FpOk X pins H b) (ho : ∀ b ∈ fp,∃ o,s.heap.get? b = some o/\∀ v,o.data ≠ .cell v) : Inv X (pins ++ pinsAt fp s.heap) σ H s :=
 I.pins_of fun p hp=>(List.mem_append.mp hp).elim (fun z=>I.pin p (List.mem_append_right _ z)) fun z=>by
  obtain ⟨hb,e⟩:=of_pinsAt z
  obtain ⟨f0,f1,f2,_⟩:=hf p.1 hb
  obtain ⟨o,e',d⟩:=ho p.1 hb
  rw [e] at e';cases e'
  exact ⟨e,f0,f1,f2,d⟩
theorem Inv.unpinned {pins pl : List (Addr × Obj)} {σ : St} {H : Hp} {s : Shared} (I : Inv X (pins ++ pl) σ H s) : Inv X pins σ H s:=I.pins_of fun p hp=>I.pin p (List.mem_append_right _ (List.mem_append_left _ hp))
theorem ps_for {iter : Expr} {body : List Stmt} {wi : TI} {g : TG} {tb : TS} {pos : Pos} (hp : PassesOwn (model X.prog X.w) X.A X.env X.xe) (hc : X.calm = true) (hi : PI X tg iter wi) (hg : PG X tg g) (hb : PSs X body tb)
  (hs : ∀ x,foldedSetIterable iter X.env x = pure x:=by intro _;rfl) : PS X (.For tg iter body [] pos) (tFor wi g tb):=by
 intro pins s σ H D I h
 refine wpAny_For (thn (hi pins s σ H _ I h) fun v s1 h1=>thn h1 fun itv s2 h2=>?_) hs
 obtain ⟨it,fp,tn,J,H2,e,I2,T,st2,f2,W,⟨m0,w0⟩,turn⟩:=h2
 subst e
 have stat : ∀ {H' : Hp},(∀ b ∈ fp,H' b = none)->∀ b ∈ fp,FpOk X pins H' b:=fun hn b hb=>⟨hn b hb,(f2 b hb).2⟩
 refine codeAny_forLoop_any (fun n s'=>∃ i σ' H',Inv X pins σ' H' s'/\tn i s'.heap/\(∀ b ∈ fp,H' b = none)/\W i n σ' H') ?_ m0 ⟨0,σ,H2,I2,st2,fun b hb=>(f2 b hb).1,w0⟩
 rintro n s3 ⟨i,σ3,H3,I3,st3,fr3,w3⟩
 rcases turn i n σ3 H3 w3 with ⟨stop,qn⟩ | ⟨go,N,hN,step⟩
 ·refine wpAny_passesOwn hp (thn (T.done X rfl rfl rfl hc i pins s3 σ3 H3 X.xe I3 (stat fr3) st3 stop) fun r s4 ⟨hr,I4⟩=>?_)
  subst hr
  exact wpAny_execs_nil ⟨σ3,H3,I4,qn⟩
 ·refine wpAny_passesOwn hp (thn (T.item X rfl rfl rfl hc i pins s3 σ3 H3 X.xe I3 (stat fr3) st3 go) fun r s4 ⟨u,hr,h4⟩=>?_)
  subst hr
  refine wpAny_passesOwn hp (thn h4 fun _ s5 ⟨x,H5,I5,r5,y5,st5,fr5⟩=>?_)
  have I5':=I5.pinned (stat fr5) (T.obj _ _ st5)
  refine wpAny_passesOwn hp (thn (hg _ s5 σ3 H5 x u _ I5' r5 (step x H5 y5)) fun _ s6 ⟨σ6,H6,I6,q6⟩=>?_)
  refine wpAny_passesOwn hp (thn (hb _ s6 σ6 H6 _ I6 q6) fun f s7 q7=>?_)
  have again : ∀ {σ7 : St} {H7 : Hp},Inv X (pins ++ pinsAt fp s5.heap) σ7 H7 s7->N σ7 H7->∃ m,m < n/\∃ i σ' H',Inv X pins σ' H' s7/\tn i s7.heap/\(∀ b ∈ fp,H' b = none)/\W i m σ' H':=fun {σ7 H7} I7 n7=>by
   obtain ⟨m',hm,w7⟩:=hN σ7 H7 n7
   refine ⟨m',hm,i + 1,σ7,H7,I7.unpinned,T.keep _ _ _ st5 fun b hb o e=>(I7.pin (b,o) (List.mem_append_right _ (List.mem_append_right _ (mem_pinsAt hb e)))).1,fun b hb=>?_,w7⟩
   obtain ⟨o,e,d⟩:=T.obj _ _ st5 b hb
   exact (I7.pin (b,o) (List.mem_append_right _ (List.mem_append_right _ (mem_pinsAt hb e)))).2.1
  cases f with
  | next=>obtain ⟨σ7,H7,I7,n7⟩:=q7;exact again I7 n7
  | cont=>obtain ⟨σ7,H7,I7,n7⟩:=q7;exact again I7 n7
  | brk=>obtain ⟨σ7,H7,I7,q7⟩:=q7;exact ⟨σ7,H7,I7.unpinned,q7⟩
  | ret v=>obtain ⟨x7,σ7,H7,I7,r7,q7⟩:=q7;exact ⟨x7,σ7,H7,I7.unpinned,r7,q7⟩
end
theorem for_tup {K : PySem.W.Frag} {a : Addr} {xs : List V} {g : TG} {tb : TS} {D : Ends} {σ : St} {H : Hp} (Pv : Nat->St->Hp->Prop) (h0 : Pv 0 σ H) (hl : ∀ i σ H,i <= xs.length->Pv i σ H->SqT K H a xs)
  (hs : ∀ i x σ H,xs[i]? = some x->Pv i σ H->g x σ H fun σ2 H2=>tb { D with nx:=Pv (i + 1),ct:=Pv (i + 1),bk:=D.nx } σ2 H2) (hd : ∀ σ H,Pv xs.length σ H->D.nx σ H) :
  ∃ W : Nat->Nat->St->Hp->Prop,(∃ m,W 0 m σ H)/\∀ i m σ H,W i m σ H ->
   ((Itt K a).stop i H/\D.nx σ H)\/((Itt K a).go i H/\∃ N : St->Hp->Prop,(∀ σ' H',N σ' H'->∃ m',m' < m/\W (i + 1) m' σ' H')/\∀ x H',(Itt K a).yld i H x H'->g x σ H' fun σ2 H2=>tb { D with nx:=N,ct:=N,bk:=D.nx } σ2 H2):=by
 refine ⟨fun i m σ H=>m = xs.length - i/\i <= xs.length/\Pv i σ H,⟨xs.length,by simp,Nat.zero_le _,h0⟩,?_⟩
 rintro i m σ H ⟨rfl,hi,p⟩
 have q:=hl i σ H hi p
 by_cases hlt : i < xs.length
 ·refine .inr ⟨⟨xs,xs[i],q,by simp [hlt]⟩,Pv (i + 1),fun σ' H' p'=>⟨xs.length - (i + 1),by omega,rfl,hlt,p'⟩,fun x H' y=>?_⟩
  obtain ⟨e,y⟩:=y
  subst e
  exact hs i x σ _ (y xs q) p
 ·have e : i = xs.length:=by omega
  subst e
  exact .inl ⟨⟨xs,q,Nat.le_refl _⟩,hd σ H p⟩
theorem for_range {lo : Int} {n : Nat} {g : TG} {tb : TS} {D : Ends} {σ : St} {H : Hp} (Pv : Nat->St->Hp->Prop) (h0 : Pv 0 σ H)
  (hs : ∀ i σ H,i < n->Pv i σ H->g (.int (lo + i)) σ H fun σ2 H2=>tb { D with nx:=Pv (i + 1),ct:=Pv (i + 1),bk:=D.nx } σ2 H2) (hd : ∀ σ H,Pv n σ H->D.nx σ H) :
  ∃ W : Nat->Nat->St->Hp->Prop,(∃ m,W 0 m σ H)/\∀ i m σ H,W i m σ H ->
   ((Itr lo n).stop i H/\D.nx σ H)\/((Itr lo n).go i H/\∃ N : St->Hp->Prop,(∀ σ' H',N σ' H'->∃ m',m' < m/\W (i + 1) m' σ' H')/\∀ x H',(Itr lo n).yld i H x H'->g x σ H' fun σ2 H2=>tb { D with nx:=N,ct:=N,bk:=D.nx } σ2 H2):=by
 refine ⟨fun i m σ H=>m = n - i/\i <= n/\Pv i σ H,⟨n,by simp,Nat.zero_le _,h0⟩,?_⟩
 rintro i m σ H ⟨rfl,hi,p⟩
 by_cases hlt : i < n
 ·refine .inr ⟨hlt,Pv (i + 1),fun σ' H' p'=>⟨n - (i + 1),by omega,rfl,hlt,p'⟩,fun x H' y=>?_⟩
  obtain ⟨e,y⟩:=y
  subst e y
  exact hs i σ _ hlt p
 ·have e : i = n:=by omega
  subst e
  exact .inl ⟨Nat.le_refl _,hd σ H p⟩
end L2
namespace L2
open PySem PySem.Spec PyProof.Rows
abbrev R2:=V->V->Hp->VK->Prop
def OpR (X : Cx) (f : Value->Value->Sem Value) (r : R2) : Prop :=
 ∀ (pins : List (Addr × Obj)) (s : Shared) (σ : St) (H : Hp) (x y : V) (v u : Value) (Q : VK),Inv X pins σ H s->RelV x v->RelV y u->r x y H Q ->
  wpAny (model X.prog X.w) X.A (f v u) (EP X pins σ Q) X.xe s
def UnR (X : Cx) (f : Value->Sem Value) (r : V->Hp->VK->Prop) : Prop :=
 ∀ (pins : List (Addr × Obj)) (s : Shared) (σ : St) (H : Hp) (x : V) (v : Value) (Q : VK),Inv X pins σ H s->RelV x v->r x H Q ->
  wpAny (model X.prog X.w) X.A (f v) (EP X pins σ Q) X.xe s
def CallR (X : Cx) (f : Value) (r : List V->Hp->VK->Prop) : Prop :=
 ∀ (pins : List (Addr × Obj)) (s : Shared) (σ : St) (H : Hp) (xs : List V) (us : List Value) (Q : VK),Inv X pins σ H s->Vals xs us->r xs H Q ->
  wpAny (model X.prog X.w) X.A (call f us) (EP X pins σ Q) X.xe s
def tOp (r : R2) (ta tb : TE) : TE:=fun σ H Q=>ta σ H fun x H1=>tb σ H1 fun y H2=>r x y H2 Q
def tUn (r : V->Hp->VK->Prop) (ta : TE) : TE:=fun σ H Q=>ta σ H fun x H1=>r x H1 Q
def rI (C : Int->Int->Prop) (g : Int->Int->V) : R2:=fun x y H Q=>∃ i j,x = .int i/\y = .int j/\C i j/\Q (g i j) H
def rI0 (g : Int->Int->V) : R2:=fun x y H Q=>∃ i j,x = .int i/\y = .int j/\Q (g i j) H
def rU (g : Int->V) : V->Hp->VK->Prop:=fun x H Q=>∃ i,x = .int i/\Q (g i) H
section
variable {X : Cx} {a b c : Expr} {ta tb tc : TE} {pos : Pos}
theorem binT (ha : PE X a ta) (hb : PE X b tb) {pins : List (Addr × Obj)} {s : Shared} {σ : St} {H : Hp} {R : V->V->Hp->Prop} (I : Inv X pins σ H s)
  (h : ta σ H fun x H1=>tb σ H1 fun y H2=>R x y H2) {Q : Value->Shared->Prop} {f : Value->Value->Sem Value}
  (hf : ∀ v u s2 x y H2,Inv X pins σ H2 s2->RelV x v->RelV y u->R x y H2->wpAny (model X.prog X.w) X.A (f v u) Q X.xe s2) :
  wpAny (model X.prog X.w) X.A (eval a X.env) (fun v s₁=>wpAny (model X.prog X.w) X.A (eval b X.env) (fun u s₂=>wpAny (model X.prog X.w) X.A (f v u) Q X.xe s₂) X.xe s₁) X.xe s:=by
 refine thn (ha pins s σ H _ I h) fun v s1 ⟨x,H1,I1,r1,q1⟩=>?_
 refine thn (hb pins s1 σ H1 _ I1 q1) fun u s2 ⟨y,H2,I2,r2,q2⟩=>?_
 exact hf v u s2 x y H2 I2 r1 r2 q2
theorem pe_op {op : Operator} {r : R2} (ho : OpR X (binaryOp op) r) (ha : PE X a ta) (hb : PE X b tb) : PE X (.BinOp a op b pos) (tOp r ta tb):=by
 intro pins s σ H Q I h
 exact wpAny_BinOp (binT ha hb I h fun v u s2 x y H2 I2 rx ry q=>ho pins s2 σ H2 x y v u Q I2 rx ry q)
theorem pe_un {op : UnaryOp} {r : V->Hp->VK->Prop} (ho : UnR X (unaryOp op) r) (ha : PE X a ta) : PE X (.UnaryOp op a pos) (tUn r ta):=by
 intro pins s σ H Q I h
 exact UnaryOp_ (thn (ha pins s σ H _ I h) fun v s1 ⟨x,H1,I1,r1,q1⟩=>ho pins s1 σ H1 x v Q I1 r1 q1)
theorem opI {f : Value->Value->Sem Value} {C : Int->Int->Prop} {g : Int->Int->Int}
  (rule : ∀ (i j : Int) (t u : Tok) (s : Shared) (Q : Value->Shared->Prop) (E : Value->Shared->Prop),C i j->Q (.int (g i j) s.toks) { s with toks:=s.toks + 1 }->wpAny (model X.prog X.w) X.A (f (.int i t) (.int j u)) Q E s) :
  OpR X f (rI C fun i j=>.int (g i j)):=by
 intro pins s σ H x y v u Q I rx ry h
 obtain ⟨i,j,rfl,rfl,hc,q⟩:=h
 obtain ⟨t,rfl⟩:=rx
 obtain ⟨t',rfl⟩:=ry
 exact rule i j t t' s _ _ hc ⟨.int (g i j),H,I.tok _,⟨_,rfl⟩,q⟩
theorem opI0 {f : Value->Value->Sem Value} {g : Int->Int->Int}
  (rule : ∀ (i j : Int) (t u : Tok) (s : Shared) (Q : Value->Shared->Prop) (E : Value->Shared->Prop),Q (.int (g i j) s.toks) { s with toks:=s.toks + 1 }->wpAny (model X.prog X.w) X.A (f (.int i t) (.int j u)) Q E s) :
  OpR X f (rI0 fun i j=>.int (g i j)):=by
 intro pins s σ H x y v u Q I rx ry h
 obtain ⟨i,j,rfl,rfl,q⟩:=h
 obtain ⟨t,rfl⟩:=rx
 obtain ⟨t',rfl⟩:=ry
 exact rule i j t t' s _ _ ⟨.int (g i j),H,I.tok _,⟨_,rfl⟩,q⟩
theorem opB0 {f : Value->Value->Sem Value} {g : Int->Int->Bool}
  (rule : ∀ (i j : Int) (t u : Tok) (s : Shared) (Q : Value->Shared->Prop) (E : Value->Shared->Prop),Q (.bool (g i j)) s->wpAny (model X.prog X.w) X.A (f (.int i t) (.int j u)) Q E s) :
  OpR X f (rI0 fun i j=>.bl (g i j)):=by
 intro pins s σ H x y v u Q I rx ry h
 obtain ⟨i,j,rfl,rfl,q⟩:=h
 obtain ⟨t,rfl⟩:=rx
 obtain ⟨t',rfl⟩:=ry
 exact rule i j t t' s _ _ ⟨.bl (g i j),H,I,rfl,q⟩
def CDiv (i j : Int) : Prop:=0 < j/\j < 1073741824
def CPow (i j : Int) : Prop:=0 <= j/\j <= 1000000/\i.natAbs < 2 ^ 64
def CMul (i j : Int) : Prop:=(-(2 ^ 64) < i/\i < 2 ^ 64)\/(-(2 ^ 64) < j/\j < 2 ^ 64)
theorem CMul.ok {i j : Int} (h : CMul i j) : IntMulOk i j:=by
 rcases h with ⟨h1,h2⟩ | ⟨h1,h2⟩
 ·exact .of_left (intBits_le_64 h1 h2)
 ·exact .of_right (intBits_le_64 h1 h2)
theorem op_add : OpR X (binaryOp .Add) (rI0 fun i j=>.int (i + j)):=opI0 fun _ _ _ _ _ _ _ q=>add_int q
theorem op_sub : OpR X (binaryOp .Sub) (rI0 fun i j=>.int (i - j)):=opI0 fun _ _ _ _ _ _ _ q=>sub_int q
theorem op_mul : OpR X (binaryOp .Mult) (rI CMul fun i j=>.int (i * j)):=opI fun _ _ _ _ _ _ _ hc q=>mul_int q hc.ok
theorem op_fdiv : OpR X (binaryOp .FloorDiv) (rI CDiv fun i j=>.int (i / j)):=opI fun i j _ _ _ _ _ hc q=>by
 have h1 : (0 : Int) < j:=hc.1
 have h2 : j < 1073741824:=hc.2
 exact floordiv_int (by omega) (by rw [Int.fdiv_eq_ediv_of_nonneg i (by omega)];exact q) (.inl (PyProof.noPylong_small (by omega)))
theorem op_mod : OpR X (binaryOp .Mod) (rI (fun _ j=>0 < j) fun i j=>.int (i % j)):=opI fun i j _ _ _ _ _ hc q=>by
 have h1 : (0 : Int) < j:=hc
 exact mod_int' (by omega) (by rw [Int.fmod_eq_emod_of_nonneg i (by omega)];exact q)
theorem op_pow : OpR X (binaryOp .Pow) (rI CPow fun i j=>.int (i ^ j.toNat)):=opI fun _ _ _ _ _ _ _ hc q=>pow_int_small hc.1 hc.2.1 hc.2.2 q
theorem unI {f : Value->Sem Value} {g : Int->Int}
  (rule : ∀ (i : Int) (t : Tok) (s : Shared) (Q : Value->Shared->Prop) (E : Value->Shared->Prop),Q (.int (g i) s.toks) { s with toks:=s.toks + 1 }->wpAny (model X.prog X.w) X.A (f (.int i t)) Q E s) :
  UnR X f (rU fun i=>.int (g i)):=by
 intro pins s σ H x v Q I rx h
 obtain ⟨i,rfl,q⟩:=h
 obtain ⟨t,rfl⟩:=rx
 exact rule i t s _ _ ⟨.int (g i),H,I.tok _,⟨_,rfl⟩,q⟩
theorem un_neg : UnR X (unaryOp .USub) (rU fun i=>.int (-i)):=unI fun _ _ _ _ _ q=>neg_int q
end
def scal : V->V->Bool
 | .non,.non=>true | .non,.int _=>true | .int _,.non=>true | .non,.bl _=>true | .bl _,.non=>true | .non,.str _=>true | .str _,.non=>true
 | .int _,.int _=>true | .bl _,.bl _=>true | .str _,.str _=>true | .byt _,.byt _=>true
 | .int _,.str _=>true | .str _,.int _=>true | .bl _,.str _=>true | .str _,.bl _=>true
 | _,_=>false
def rEq : R2:=fun x y H Q=>scal x y = true/\Q (.bl (decide (x = y))) H
def rNe : R2:=fun x y H Q=>scal x y = true/\Q (.bl (!decide (x = y))) H
theorem dec_int {i j : Int} : decide (V.int i = V.int j) = (i == j):=by
 rw [Bool.eq_iff_iff]
 simp
theorem dec_bl {i j : Bool} : decide (V.bl i = V.bl j) = (i == j):=by
 rw [Bool.eq_iff_iff]
 simp
theorem dec_str {i j : Str} : decide (V.str i = V.str j) = (i == j):=by
 rw [Bool.eq_iff_iff]
 simp
theorem dec_byt {i j : Array UInt8} : decide (V.byt i = V.byt j) = (i.toList == j.toList):=by
 rw [Bool.eq_iff_iff]
 cases i
 cases j
 simp
section
variable {X : Cx} {a b c : Expr} {ta tb tc : TE} {pos : Pos}
theorem fin_bl {pins : List (Addr × Obj)} {σ : St} {H : Hp} {s : Shared} {Q : VK} {k k' : Bool} (I : Inv X pins σ H s) (q : Q (.bl k) H) (e : k = k') : EP X pins σ Q (.bool k') s:=by
 subst e
 exact ⟨.bl k,H,I,rfl,q⟩
theorem op_eq : OpR X (compareOp .Eq) rEq:=by
 intro pins s σ H x y v u Q I rx ry h
 obtain ⟨hs,q⟩:=h
 cases x with
 | non =>
  cases rx
  cases y with
  | non=>cases ry;exact PySem.EqNone.eq_none_none (fin_bl I q (by simp))
  | bl j=>cases ry;exact PySem.EqNone.eq_none_bool (fin_bl I q (by simp))
  | int j=>obtain ⟨t',rfl⟩:=ry;exact PySem.EqNone.eq_none_int (fin_bl I q (by simp))
  | str j=>obtain ⟨t',rfl⟩:=ry;exact PySem.EqNone.eq_none_str (fin_bl I q (by simp))
  | _=>exact absurd (show false = true from hs) Bool.false_ne_true
 | bl i =>
  cases rx
  cases y with
  | non=>cases ry;exact PySem.EqNone.eq_bool_none (fin_bl I q (by simp))
  | bl j=>cases ry;exact eq_bool (fin_bl I q dec_bl)
  | str j=>obtain ⟨t',rfl⟩:=ry;exact PySem.EqMixed.eq_bool_str (fin_bl I q (by simp))
  | _=>exact absurd (show false = true from hs) Bool.false_ne_true
 | int i =>
  obtain ⟨t,rfl⟩:=rx
  cases y with
  | non=>cases ry;exact PySem.EqNone.eq_int_none (fin_bl I q (by simp))
  | int j=>obtain ⟨t',rfl⟩:=ry;exact eq_int (fin_bl I q dec_int)
  | str j=>obtain ⟨t',rfl⟩:=ry;exact PySem.EqMixed.eq_int_str (fin_bl I q (by simp))
  | _=>exact absurd (show false = true from hs) Bool.false_ne_true
 | str i =>
  obtain ⟨t,rfl⟩:=rx
  cases y with
  | non=>cases ry;exact PySem.EqNone.eq_str_none (fin_bl I q (by simp))
  | bl j=>cases ry;exact PySem.EqMixed.eq_str_bool (fin_bl I q (by simp))
  | int j=>obtain ⟨t',rfl⟩:=ry;exact PySem.EqMixed.eq_str_int (fin_bl I q (by simp))
  | str j=>obtain ⟨t',rfl⟩:=ry;exact eq_str (fin_bl I q dec_str)
  | _=>exact absurd (show false = true from hs) Bool.false_ne_true
 | byt i =>
  obtain ⟨t,rfl⟩:=rx
  cases y with
  | byt j=>obtain ⟨t',rfl⟩:=ry;exact PySem.W.eq_bytes (fin_bl I q dec_byt)
  | _=>exact absurd (show false = true from hs) Bool.false_ne_true
 | _=>cases y <;> exact absurd (show false = true from hs) Bool.false_ne_true
theorem op_ne : OpR X (compareOp .NotEq) rNe:=by
 intro pins s σ H x y v u Q I rx ry h
 obtain ⟨hs,q⟩:=h
 cases x with
 | non =>
  cases rx
  cases y with
  | non=>cases ry;exact PySem.EqNone.ne_none_none (fin_bl I q (by simp))
  | bl j=>cases ry;exact PySem.EqNone.ne_none_bool (fin_bl I q (by simp))
  | int j=>obtain ⟨t',rfl⟩:=ry;exact PySem.EqNone.ne_none_int (fin_bl I q (by simp))
  | str j=>obtain ⟨t',rfl⟩:=ry;exact PySem.EqNone.ne_none_str (fin_bl I q (by simp))
  | _=>exact absurd (show false = true from hs) Bool.false_ne_true
 | bl i =>
  cases rx
  cases y with
  | non=>cases ry;exact PySem.EqNone.ne_bool_none (fin_bl I q (by simp))
  | bl j=>cases ry;exact ne_bool (fin_bl I q (congrArg not dec_bl))
  | str j=>obtain ⟨t',rfl⟩:=ry;exact PySem.EqMixed.ne_bool_str (fin_bl I q (by simp))
  | _=>exact absurd (show false = true from hs) Bool.false_ne_true
 | int i =>
  obtain ⟨t,rfl⟩:=rx
  cases y with
  | non=>cases ry;exact PySem.EqNone.ne_int_none (fin_bl I q (by simp))
  | int j=>obtain ⟨t',rfl⟩:=ry;exact ne_int (fin_bl I q (congrArg not dec_int))
  | str j=>obtain ⟨t',rfl⟩:=ry;exact PySem.EqMixed.ne_int_str (fin_bl I q (by simp))
  | _=>exact absurd (show false = true from hs) Bool.false_ne_true
 | str i =>
  obtain ⟨t,rfl⟩:=rx
  cases y with
  | non=>cases ry;exact PySem.EqNone.ne_str_none (fin_bl I q (by simp))
  | bl j=>cases ry;exact PySem.EqMixed.ne_str_bool (fin_bl I q (by simp))
  | int j=>obtain ⟨t',rfl⟩:=ry;exact PySem.EqMixed.ne_str_int (fin_bl I q (by simp))
  | str j=>obtain ⟨t',rfl⟩:=ry;exact ne_str (fin_bl I q (congrArg not dec_str))
  | _=>exact absurd (show false = true from hs) Bool.false_ne_true
 | byt i =>
  obtain ⟨t,rfl⟩:=rx
  cases y with
  | byt j=>obtain ⟨t',rfl⟩:=ry;exact PySem.W.ne_bytes (fin_bl I q (congrArg not dec_byt))
  | _=>exact absurd (show false = true from hs) Bool.false_ne_true
 | _=>cases y <;> exact absurd (show false = true from hs) Bool.false_ne_true
theorem op_lt : OpR X (compareOp .Lt) (rI0 fun i j=>.bl (decide (i < j))):=opB0 fun _ _ _ _ _ _ _ q=>lt_int q
theorem op_le : OpR X (compareOp .LtE) (rI0 fun i j=>.bl (decide (i <= j))):=opB0 fun _ _ _ _ _ _ _ q=>le_int q
theorem op_gt : OpR X (compareOp .Gt) (rI0 fun i j=>.bl (decide (j < i))):=opB0 fun _ _ _ _ _ _ _ q=>gt_int q
theorem op_ge : OpR X (compareOp .GtE) (rI0 fun i j=>.bl (decide (j <= i))):=opB0 fun _ _ _ _ _ _ _ q=>ge_int q
theorem OpR.or {f : Value->Value->Sem Value} {r r' : R2} (h : OpR X f r) (h' : OpR X f r') : OpR X f (fun x y H Q=>r x y H Q\/r' x y H Q):=by
 intro pins s σ H x y v u Q I rx ry q
 rcases q with q | q
 ·exact h pins s σ H x y v u Q I rx ry q
 ·exact h' pins s σ H x y v u Q I rx ry q
theorem nomark (b : Expr) {op : CmpOp} (h : op ≠ .In:=by decide) (h2 : op ≠ .NotIn:=by decide) : behindInMarks op b = false:=by
 have e1 : (op == CmpOp.In) = false:=by cases op <;> first | rfl | exact absurd rfl h
 have e2 : (op == CmpOp.NotIn) = false:=by cases op <;> first | rfl | exact absurd rfl h2
 cases b <;> simp [behindInMarks,e1,e2]
theorem pe_cmpR {op : CmpOp} {r : R2} (ho : OpR X (compareOp op) r) (ha : PE X a ta) (hb : PE X b tb) (hm : behindInMarks op b = false) : PE X (.Compare a [op] [b] pos) (tOp r ta tb):=by
 intro pins s σ H Q I h
 exact wpAny_Compare1 (binT ha hb I h fun v u s2 x y H2 I2 rx ry q=>ho pins s2 σ H2 x y v u Q I2 rx ry q) hm
def tTest (t : TE) : TT:=fun σ H Q=>t σ H fun x H'=>∃ k,x = .bl k/\Q k H'
theorem pt_cmpR {op : CmpOp} {r : R2} (ho : OpR X (compareOp op) r) (ha : PE X a ta) (hb : PE X b tb) (hm : behindInMarks op b = false) : PT X (.Compare a [op] [b] pos) (tTest (tOp r ta tb)):=by
 intro pins s σ H Q I h
 refine wpAny_isTrue_Compare1 (thn (ha pins s σ H _ I h) fun v s1 ⟨x,H1,I1,r1,q1⟩=>thn (hb pins s1 σ H1 _ I1 q1) fun u s2 ⟨y,H2,I2,r2,q2⟩ =>
  thn (ho pins s2 σ H2 x y v u _ I2 r1 r2 q2) fun c s3 ⟨z,H3,I3,r3,k,e,q3⟩=>?_) hm
 subst e
 cases r3
 exact wpAny_truthy_bool ⟨H3,I3,q3⟩
def tChain (r r' : R2) (ta tb tc : TE) : TE:=fun σ H Q=>ta σ H fun x H1=>tb σ H1 fun y H2=>r x y H2 fun z H3=>∃ k,z = .bl k /\
 (if k = true then tc σ H3 fun w' H4=>r' y w' H4 Q else Q (.bl false) H3)
theorem pe_chain {op op' : CmpOp} {r r' : R2} (ho : OpR X (compareOp op) r) (ho' : OpR X (compareOp op') r') (ha : PE X a ta) (hb : PE X b tb) (hc : PE X c tc)
  (hm : lastMarks [op,op'] [b,c] = false:=by with_unfolding_all rfl) : PE X (.Compare a [op,op'] [b,c] pos) (tChain r r' ta tb tc):=by
 intro pins s σ H Q I h
 refine Compare_chain (thn (ha pins s σ H _ I h) fun v s1 ⟨x,H1,I1,r1,q1⟩=>chain_link (thn (hb pins s1 σ H1 _ I1 q1) fun u s2 ⟨y,H2,I2,r2,q2⟩ =>
  thn (ho pins s2 σ H2 x y v u _ I2 r1 r2 q2) fun d s3 ⟨z,H3,I3,r3,k,e,q3⟩=>?_)) hm
 subst e
 cases r3
 refine wpAny_truthy_bool ?_
 cases k with
 | false=>exact ite_ff ⟨.bl false,H3,I3,rfl,q3⟩
 | true=>exact ite_tt (chain_last (thn (hc pins s3 σ H3 _ I3 q3) fun w' s4 ⟨z',H4,I4,r4,q4⟩=>ho' pins s4 σ H4 y z' u w' Q I4 r2 r4 q4))
theorem pt_chain {op op' : CmpOp} {r r' : R2} (ho : OpR X (compareOp op) r) (ho' : OpR X (compareOp op') r') (ha : PE X a ta) (hb : PE X b tb) (hc : PE X c tc)
  (hm : lastMarks [op,op'] [b,c] = false:=by with_unfolding_all rfl) : PT X (.Compare a [op,op'] [b,c] pos) (tTest (tChain r r' ta tb tc)):=by
 intro pins s σ H Q I h
 refine isTrue_chain (thn (ha pins s σ H _ I h) fun v s1 ⟨x,H1,I1,r1,q1⟩=>test_link (thn (hb pins s1 σ H1 _ I1 q1) fun u s2 ⟨y,H2,I2,r2,q2⟩ =>
  thn (ho pins s2 σ H2 x y v u _ I2 r1 r2 q2) fun d s3 ⟨z,H3,I3,r3,k,e,q3⟩=>?_)) hm
 subst e
 cases r3
 refine wpAny_truthy_bool ?_
 cases k with
 | false =>
  obtain ⟨k',e',q'⟩:=q3
  cases e'
  exact ite_ff ⟨H3,I3,q'⟩
 | true =>
  refine ite_tt (test_last (thn (hc pins s3 σ H3 _ I3 q3) fun w' s4 ⟨z',H4,I4,r4,q4⟩=>thn (ho' pins s4 σ H4 y z' u w' _ I4 r2 r4 q4) fun d' s5 ⟨z2,H5,I5,r5,k2,e2,q5⟩=>?_))
  subst e2
  cases r5
  exact wpAny_truthy_bool ⟨H5,I5,q5⟩
theorem line63 : (sizeLine : Nat) < 2 ^ 63:=by rw [sizeLine_eq];decide
theorem op_add_str : OpR X (binaryOp .Add) (fun x y H Q=>∃ i j,x = .str i/\y = .str j/\i.length + j.length <= sizeLine/\Q (.str (i ++ j)) H):=by
 intro pins s σ H x y v u Q I rx ry h
 obtain ⟨i,j,rfl,rfl,hz,q⟩:=h
 obtain ⟨t,rfl⟩:=rx
 obtain ⟨t',rfl⟩:=ry
 exact add_str (fun t' tk=>⟨.str (i ++ j),H,I.tok _,⟨_,rfl⟩,q⟩) hz
theorem vals1 {x : V} {us : List Value} (r : Vals [x] us) : ∃ u,us = [u]/\RelV x u:=by
 cases r with
 | cons r1 r2=>cases r2;exact ⟨_,rfl,r1⟩
end
end L2
namespace L2
open PySem PySem.Spec PyProof.Rows
theorem lookIn_ns {h : Heap} {dx : Addr} {mA : Str->Option Value} (n : h.Ns1 dx mA) : ∃ od,h.get? dx = some od/\∀ name,PySem.W.lookIn name od = some (mA name):=by
 obtain ⟨o,es,ep,ho,hd,hk,_,hm⟩:=n
 refine ⟨o,ho,fun name=>?_⟩
 have e:=hm name
 unfold nsFind findBy at e
 rw [<- Array.find?_toList] at e
 unfold PySem.W.lookIn
 rw [hd]
 dsimp only
 split
 ·rename_i y q
  rw [q] at e
  exact congrArg some e
 ·rename_i q
  rw [q] at e
  have a : es.toList.any (·.refKey) = false:=by
   rw [List.any_eq_false]
   intro y hy
   obtain ⟨z,t,hkey⟩:=hk y (Array.mem_toList_iff.mp hy)
   simp [DictEntry.refKey,hkey]
  have a' : ¬ es.toList.any (·.refKey) = true:=by rw [a];exact Bool.false_ne_true
  rw [if_neg a']
  exact congrArg some e
section
variable {prog : Program} {w : World} {A : Around} {E : Value->Shared->Prop} {s : Shared} {K : PySem.W.Frag} {x dx C f : Addr} {mA : Str->Option Value} {name : Str} {v : Value}
end
def putF (f : Str) (v : V) : List (Str × V)->List (Str × V)
 | []=>[(f,v)]
 | (g,x) :: r=>if g = f then (g,v) :: r else (g,x) :: putF f v r
theorem lookup_putF (f g : Str) (v : V) : ∀ fs : List (Str × V),(putF f v fs).lookup g = if g = f then some v else fs.lookup g
 | []=>by
  show List.lookup g [(f,v)] = _
  by_cases h : g = f
  ·have hb : (g == f) = true:=beq_iff_eq.mpr h
   simp only [List.lookup,hb,if_pos h]
  ·have hb : (g == f) = false:=beq_eq_false_iff_ne.mpr h
   simp only [List.lookup,hb,if_neg h]
 | (k,x) :: r=>by
  have ih:=lookup_putF f g v r
  rw [show putF f v ((k,x) :: r) = (if k = f then (k,v) :: r else (k,x) :: putF f v r) from rfl]
  by_cases hk : k = f
  ·rw [if_pos hk]
   by_cases h : g = k
   ·have hb : (g == k) = true:=beq_iff_eq.mpr h
    simp only [List.lookup,hb,if_pos (h.trans hk)]
   ·have hb : (g == k) = false:=beq_eq_false_iff_ne.mpr h
    simp only [List.lookup,hb,if_neg (fun e : g = f=>h (e.trans hk.symm))]
  ·rw [if_neg hk]
   by_cases h : g = k
   ·have hb : (g == k) = true:=beq_iff_eq.mpr h
    simp only [List.lookup,hb,if_neg (fun e : g = f=>hk (h.symm.trans e))]
   ·have hb : (g == k) = false:=beq_eq_false_iff_ne.mpr h
    simp only [List.lookup,hb]
    exact ih
theorem handed_of {v : V} {u : Value} (r : RelV v u) : PySem.W.handedIn u = true:=by
 cases v with
 | non=>cases (show u = Value.none from r);rfl
 | bl b=>cases (show u = Value.bool b from r);rfl
 | int i=>obtain ⟨t,e⟩:=(show ∃ t,u = Value.int i t from r);cases e;rfl
 | str x=>obtain ⟨t,e⟩:=(show ∃ t,u = Value.str x t from r);cases e;rfl
 | byt b=>obtain ⟨t,e⟩:=(show ∃ t,u = Value.bytes b t from r);cases e;rfl
 | flt b=>obtain ⟨t,e⟩:=(show ∃ t,u = Value.float b t from r);cases e;rfl
 | ref a=>cases (show u = Value.ref a from r);rfl
 | ty n=>cases (show u = Value.type n from r);rfl
section
variable {P : Program} {w : World} {H H' : Hp} {h h' : Heap} {a C dx : Addr} {fs fs' : List (Str × V)}
end
structure Cls (K : PySem.W.Frag) (C : Addr) : Prop where
 pg : PySem.W.plainGet K C Str.empty = true
 hd : PySem.W.hasDictIn K C = true
 po : PySem.W.plainOver K C = true
 sa : PySem.W.findIn K (.ref C) "__setattr__" = some (some (.builtin "object.__setattr__"))
theorem Cls.get {K : PySem.W.Frag} {C : Addr} (c : Cls K C) (f : Str) : PySem.W.plainGet K C f = true:=c.pg
section
variable {X : Cx} {pins : List (Addr × Obj)} {σ : St} {H : Hp} {s : Shared} {a C dx : Addr} {fs : List (Str × V)} {f : Str} {v : V} {A : Around} {E : Value->Shared->Prop}
theorem Inv.made (I : Inv X pins σ H s) : Inv X pins σ (upd (upd H s.heap.objs.size (.own (s.heap.objs.size + 1))) (s.heap.objs.size + 1) (.ins C s.heap.objs.size []))
  { s with heap:=(s.heap.push PySem.W.emptyDict).push (PySem.W.instObj C s.heap.objs.size) }:=by
 have e1 : (s.heap.push PySem.W.emptyDict).get? s.heap.objs.size = some PySem.W.emptyDict:=Heap.get?_push_size s.heap rfl
 have e2 : ((s.heap.push PySem.W.emptyDict).push (PySem.W.instObj C s.heap.objs.size)).get? (s.heap.objs.size + 1) = some (PySem.W.instObj C s.heap.objs.size):=by
  have:=Heap.get?_push_size (s.heap.push PySem.W.emptyDict) (o:=PySem.W.instObj C s.heap.objs.size) rfl
  rwa [Heap.size_push] at this
 have e3 : (s.heap.push PySem.W.emptyDict).Ns s.heap.objs.size (fun _=>none):=⟨PySem.W.emptyDict,#[],_,e1,rfl,(fun e he=>absurd he (by simp)),fun _=>rfl⟩
 have I1:=I.laid (a:=s.heap.objs.size) (o:=.own (s.heap.objs.size + 1)) (h':=s.heap.push PySem.W.emptyDict) (t':=s.toks) (fun b u q=>Heap.get?_push_of_some _ q) (Nat.le_refl _) ⟨_,e1⟩
 refine I1.laid (a:=s.heap.objs.size + 1) (o:=.ins C s.heap.objs.size []) (t':=s.toks) (fun b u q=>Heap.get?_push_of_some _ q) (Nat.le_of_eq (Heap.size_push _ _)) ?_
 have ne : s.heap.objs.size ≠ s.heap.objs.size + 1:=Nat.ne_of_lt (Nat.lt_succ_self _)
 refine ⟨by rw [upd_ne ne,upd_same],Nat.zero_le _,ne,e2,fun _=>none,(Heap.Ns1.of_empty e3).at fun o q=>Heap.get?_push_of_some _ q,fun _=>True.intro,fun y hy=>absurd rfl hy⟩
theorem attr_of {prog : Program} {w : World} {env : Env} {e : Expr} {f : Str} {pos : Pos} {s : Shared} {Q : Value->Shared->Prop} (hb : attributeBase e f env (eval e env) = eval e env)
  (h : wpAny (model prog w) A (eval e env) (fun o s₁=>wpAny (model prog w) A (getAttr o f true) Q E s₁) E s) : wpAny (model prog w) A (eval (.Attribute e f pos) env) Q E s :=
 Attribute_any_ h (by rw [arm_eval_Attribute,hb])
end
section
variable {X : Cx} {o e value : Expr} {f : Str} {pos pos' tpos : Pos} {ta tv : TE}
end
section
variable {X : Cx} {pins : List (Addr × Obj)} {σ : St} {H : Hp} {s : Shared} {A : Around} {E : Value->Shared->Prop} {Q : Value->Shared->Prop} {c : Value} {b : Bool}
inductive TyOf (K : PySem.W.Frag) (H : Hp) : V->Value->Prop where
 | non : TyOf K H .non (.type "NoneType")
 | bl (x : Bool) : TyOf K H (.bl x) (.type "bool")
 | int (i : Int) : TyOf K H (.int i) (.type "int")
 | str (x : Str) : TyOf K H (.str x) (.type "str")
 | flt (x : UInt64) : TyOf K H (.flt x) (.type "float")
 | lst {a : Addr} {xs : List V} (e : H a = some (.lst xs)) : TyOf K H (.ref a) (.type "list")
 | frz {a : Addr} {o : Obj} {xs : List V} (e : H a = some (.frz o (.lst xs))) : TyOf K H (.ref a) (.type "list")
 | tup {a : Addr} {xs : List V} (e : H a = some (.tup xs)) : TyOf K H (.ref a) (.type "tuple")
 | dK {a : Addr} {kvs : List (Key × V)} (e : H a = some (.dK kvs)) : TyOf K H (.ref a) (.type "dict")
 | dT {a : Addr} {kvs : List (List Key × V)} (e : H a = some (.dT kvs)) : TyOf K H (.ref a) (.type "dict")
 | ins {a C dx : Addr} {fs : List (Str × V)} (e : H a = some (.ins C dx fs)) (cl : Cls K C) (ha : PySem.W.findIn K (.ref C) "__class__" = some (some (.builtin "object.__class__")))
   (hn : PySem.W.specialIn K (.builtin "object.__class__") "__get__" = some (some (.builtin "getset_descriptor.__get__"))) (htk : PySem.W.takesIn K (.builtin "object.__class__") = some true)
   (hm : PySem.W.mroIn K C (.type "object") = some true) : TyOf K H (.ref a) (.ref C)
end
end L2
namespace L2
open PySem PySem.Spec PyProof.Rows
structure Room (k : Nat) (A : Around) : Prop where
 hd : A.handled = none
 dp : A.depth + 3 * k + 5 < recursionLimit
 un : A.units + 16 * k + 200 < cLine
theorem Room.mono {j k : Nat} {A : Around} (r : Room k A) (h : j <= k) : Room j A:=⟨r.hd,by have:=r.dp;omega,by have:=r.un;omega⟩
theorem Room.deeper {k : Nat} {A : Around} (r : Room (k + 1) A) (env : Env) : Room k (A.deeper env) :=
 ⟨r.hd,by have:=r.dp;show A.depth + 1 + 3 * k + 5 < _;omega,by have:=r.un;show A.units + 3 + 16 * k + 200 < _;omega⟩
theorem Room.in1 {k : Nat} {A : Around} (r : Room (k + 1) A) : Room k A.in1 :=
 ⟨r.hd,by have:=r.dp;show A.depth + 3 * k + 5 < _;omega,by have:=r.un;show A.units + 1 + 16 * k + 200 < _;omega⟩
theorem make_depth {A : Around} {C : Addr} {us : List Value} {kw : List (Str × Value)} : (A.under (.builtin "type.__call__" ⟨.ref C :: us,kw⟩)).depth = A.depth + 1:=by
 first | rfl | simp [Around.under,Code.weight,Code.isCreation,Code.isGuard,Code.isCaller,Code.frames,Code.isFrame,guardIds]
theorem make_units {A : Around} {C : Addr} {us : List Value} {kw : List (Str × Value)} : (A.under (.builtin "type.__call__" ⟨.ref C :: us,kw⟩)).units = A.units + 1:=by
 first | rfl | simp [Around.under,Code.cUnits,Code.frames,Code.isFrame]
theorem Room.make {k : Nat} {A : Around} (r : Room (k + 1) A) (C : Addr) (us : List Value) (kw : List (Str × Value)) : Room k (A.under (.builtin "type.__call__" ⟨.ref C :: us,kw⟩)) :=
 ⟨r.hd,by have:=r.dp;rw [make_depth];omega,by have:=r.un;rw [make_units];omega⟩
theorem Room.depth {k : Nat} {A : Around} (r : Room k A) : A.depth < recursionLimit:=by have:=r.dp;omega
theorem Room.units {k : Nat} {A : Around} (r : Room k A) : A.units + 64 < cLine:=by have:=r.un;omega
def tNil : TA:=fun _ H Q=>Q [] H
def tCons (ta : TE) (tr : TA) : TA:=fun σ H Q=>ta σ H fun x H1=>tr σ H1 fun xs H2=>Q (x :: xs) H2
section
variable {X : Cx} {e : Expr} {es : List Expr} {te : TE} {t : TA} {pos : Pos}
theorem pa_nil : PA X [] tNil:=fun _ _ _ _ H Q I h=>Calls.spliced_nil ⟨[],H,I,.nil,h⟩
theorem pa_cons (ha : PE X e te) (hr : PA X es t) (hs : starEach (e :: es) X.env = (false,eval e X.env) :: starEach es X.env:=by rfl) : PA X (e :: es) (tCons te t):=by
 intro pos pins s σ H Q I h
 rw [hs]
 show wpAny _ _ (spliced ((false,eval e X.env) :: backTo pos (starEach es X.env))) _ _ s
 refine Calls.spliced_cons (thn (ha pins s σ H _ I h) fun u s1 ⟨x,H1,I1,r1,q1⟩=>?_)
 exact thn (hr pos pins s1 σ H1 _ I1 q1) fun us s2 ⟨xs,H2,I2,r2,q2⟩=>⟨x :: xs,H2,I2,.cons r1 r2,q2⟩
def tTup (t : TA) : TE:=fun σ H Q=>t σ H fun xs H1=>xs.length <= sizeLine/\∀ p,H1 p = none->Q (.ref p) (upd H1 p (.tup xs))
def tLst (t : TA) : TE:=fun σ H Q=>t σ H fun xs H1=>xs.length <= sizeLine/\∀ p,H1 p = none->Q (.ref p) (upd H1 p (.lst xs))
theorem pe_tup {x1} (h : PA X es t) : PE X (.Tuple es x1 pos) (tTup t):=by
 intro pins s σ H Q I hq
 refine wpAny_Tuple_spliced (thn (h pos pins s σ H _ I hq) fun us s1 ⟨xs,H1,I1,r,z,q⟩=>⟨by rw [<- r.length];exact z,?_⟩)
 have hf : H1 s1.heap.objs.size = none:=I1.hok.fresh (Nat.le_refl _)
 refine ⟨.ref s1.heap.objs.size,upd H1 s1.heap.objs.size (.tup xs),I1.laid (t':=s1.toks) (fun b u e=>Heap.get?_push_of_some _ e) (Nat.le_refl _) ?_,rfl,q _ hf⟩
 exact ⟨z,us,r,⟨_,Heap.get?_push_size _ rfl,rfl,_,rfl⟩,_,Heap.get?_push_size _ rfl,rfl⟩
theorem pe_lst (h : PA X es t) : PE X (.List es pos) (tLst t):=by
 intro pins s σ H Q I hq
 refine wpAny_List_spliced (thn (h pos pins s σ H _ I hq) fun us s1 ⟨xs,H1,I1,r,z,q⟩=>⟨by rw [<- r.length];exact z,?_⟩)
 have hf : H1 s1.heap.objs.size = none:=I1.hok.fresh (Nat.le_refl _)
 refine ⟨.ref s1.heap.objs.size,upd H1 s1.heap.objs.size (.lst xs),I1.laid (t':=s1.toks) (fun b u e=>Heap.get?_push_of_some _ e) (Nat.le_refl _) ?_,rfl,q _ hf⟩
 exact ⟨z,us,0,r,Heap.get?_push_size _ rfl⟩
end
abbrev Sp:=List V->Hp->VK->XK->Prop
abbrev CXT:=List Env->Hp->Shared->XK->Value->Shared->Prop
structure Env0 (P : Program) (w : World) (K : PySem.W.Frag) (mg : Str->Option Value) (base : Heap) (A : Around) (outer : List Env) (s : Shared) (H : Hp) : Prop where
 frames : A.frames = some outer
 mod : Mod K mg base
 bs : ∀ b o,base.get? b = some o->s.heap.get? b = some o/\H b = none
 bsz : base.objs.size <= s.heap.objs.size
 funs : s.heap.FunFrames base outer
 frf : ∀ b ∈ frs outer,H b = none
 hok : HOk P w H s.heap
 bare : AllBare s.gens
def CE (outer : List Env) (P : Program) (w : World) (H : Hp) (s : Shared) (Q : VK) (u : Value) (s' : Shared) : Prop :=
 ∃ v H',s'.os = s.os/\GOk s.gens s'.gens/\Un (frs outer) [] H H' s.heap s'.heap/\HOk P w H' s'.heap/\RelV v u/\Q v H'
def CR (CX : CXT) (outer : List Env) (P : Program) (w : World) (H : Hp) (s : Shared) (Q : VK) (E : XK) (r : Result) (s' : Shared) : Prop :=
 match r with
 | .ok (.ret u)=>CE outer P w H s Q u s'
 | .ok _=>False
 | .error e=>CX outer H s E e s'
structure FnOk (P : Program) (w : World) (K : PySem.W.Frag) (mg : Str->Option Value) (base : Heap) (CX : CXT) (k : Nat) (f : Addr) (fd : FuncData) (ps : List Str) (sp : Sp) : Prop where
 len : ∀ vs H Q E,sp vs H Q E->vs.length = ps.length
 run : ∀ (A : Around) (outer : List Env) (s : Shared) (H : Hp) (args : Args) (us : List Value) (vs : List V) (Q : VK) (E : XK),Room k A->Env0 P w K mg base A outer s H->BindsTo s fd args (ps.zip us)->Vals vs us->sp vs H Q E ->
  codeAny (model P w) A (.call (.ref f) args) (CR CX outer P w H s Q E) s
theorem FnOk.mono {P : Program} {w : World} {K : PySem.W.Frag} {mg : Str->Option Value} {base : Heap} {CX : CXT} {j k : Nat} {f : Addr} {fd : FuncData} {ps : List Str} {sp : Sp} (F : FnOk P w K mg base CX j f fd ps sp) (h : j <= k) :
  FnOk P w K mg base CX k f fd ps sp:=⟨F.len,fun A outer s H args us vs Q E hr=>F.run A outer s H args us vs Q E (hr.mono h)⟩
theorem FnOk.imp {P : Program} {w : World} {K : PySem.W.Frag} {mg : Str->Option Value} {base : Heap} {CX : CXT} {k : Nat} {f : Addr} {fd : FuncData} {ps : List Str} {sp sp' : Sp} (F : FnOk P w K mg base CX k f fd ps sp)
  (h : ∀ vs H Q E,sp' vs H Q E->sp vs H Q E) : FnOk P w K mg base CX k f fd ps sp' :=
 ⟨fun vs H Q E q=>F.len vs H Q E (h _ _ _ _ q),fun A outer s H args us vs Q E hr he hb hv hs=>F.run A outer s H args us vs Q E hr he hb hv (h _ _ _ _ hs)⟩
theorem Env0.make {P : Program} {w : World} {K : PySem.W.Frag} {mg : Str->Option Value} {base : Heap} {A : Around} {outer : List Env} {s : Shared} {H : Hp} (e : Env0 P w K mg base A outer s H) (C : Addr) (us : List Value) (kw : List (Str × Value)) :
  Env0 P w K mg base (A.under (.builtin "type.__call__" ⟨.ref C :: us,kw⟩)) outer s H:=⟨by first | exact e.frames | (simpa [Around.under,Code.envs,Code.isFrame,pushEnvs] using e.frames),e.mod,e.bs,e.bsz,e.funs,e.frf,e.hok,e.bare⟩
theorem Env0.in1 {P : Program} {w : World} {K : PySem.W.Frag} {mg : Str->Option Value} {base : Heap} {A : Around} {outer : List Env} {s : Shared} {H : Hp} (e : Env0 P w K mg base A outer s H) :
  Env0 P w K mg base A.in1 outer s H:=⟨e.frames,e.mod,e.bs,e.bsz,e.funs,e.frf,e.hok,e.bare⟩
section
variable {X : Cx} {pins : List (Addr × Obj)} {σ : St} {H : Hp} {s s' : Shared}
theorem Inv.env0 (I : Inv X pins σ H s) : Env0 X.prog X.w X.K X.mg X.base X.A X.stack s H :=
 ⟨I.ok.frames,I.ok.mod,I.bs,Nat.le_trans I.ok.bsz I.sz,I.stack,I.stkFree,I.hok,I.bare.1⟩
theorem Inv.after {Q : VK} {u : Value} (I : Inv X pins σ H s) (h : CE X.stack X.prog X.w H s Q u s') : EP X pins σ Q u s':=by
 obtain ⟨v,H',os,bare,un,hok,r,q⟩:=h
 obtain ⟨hh,g,d,t,os'⟩:=s'
 obtain rfl : os' = s.os:=os
 exact ⟨v,H',I.call (h':=hh) (g':=g) (d':=d) (t':=t) (ch:=[]) un hok bare (fun b z=>absurd z (by simp)),r,q⟩
end
def tCall (sp : Sp) (dvs : List V) (E : XK) (t : TA) : TE:=fun σ H Q=>t σ H fun vs H1=>sp (vs ++ dvs) H1 Q E
def Binds (K : PySem.W.Frag) (fd : FuncData) (ps : List Str) (ds : List Value) : Prop :=
 ∀ (s : Shared) (us : List Value),K.In s.heap->(us ++ ds).length = ps.length->BindsTo s fd ⟨us,[]⟩ (ps.zip (us ++ ds))
theorem Binds.all {K : PySem.W.Frag} {fd : FuncData} {ps : List Str} (h : ∀ us : List Value,us.length = ps.length->bindArgs fd ⟨us,[]⟩ = pure (ps.zip us)) : Binds K fd ps []:=fun s us _ hl=>by
 rw [List.append_nil] at hl ⊢
 exact .of_eq (h us hl)
def Passes (CX : CXT) (X : Cx) (E : XK) : Prop := ∀ (pins : List (Addr × Obj)) (σ : St) (H : Hp) (s : Shared) (e : Value) (s' : Shared),Inv X pins σ H s->CX X.stack H s E e s'->X.xe e s'
section
variable {X : Cx} {CX : CXT} {k : Nat} {f C : Addr} {fd : FuncData} {ps : List Str} {sp : Sp} {dvs : List V} {ds : List Value} {E : XK} {x m : Str} {p pos apos : Pos} {e o : Expr} {es : List Expr} {ta : TE} {t : TA}
theorem run_fn {pins : List (Addr × Obj)} {σ : St} {H : Hp} {s : Shared} {Q : VK} {us : List Value} {vs : List V} (F : FnOk X.prog X.w X.K X.mg X.base CX k f fd ps sp) (hr : Room k X.A) (hb : Binds X.K fd ps ds) (hd : Vals dvs ds) (hx : Passes CX X E)
  (I : Inv X pins σ H s) (r : Vals vs us) (h : sp (vs ++ dvs) H Q E) : wpAny (model X.prog X.w) X.A (call (.ref f) us) (EP X pins σ Q) X.xe s:=by
 have r2 : Vals (vs ++ dvs) (us ++ ds):=r.append hd
 have hl : (us ++ ds).length = ps.length:=by rw [<- r2.length];exact F.len _ _ _ _ h
 refine wpAny_call (codeAny_mono (F.run X.A X.stack s H ⟨us,[]⟩ (us ++ ds) (vs ++ dvs) Q E hr I.env0 (hb s us I.kIn hl) r2 h) fun r s' hq=>?_)
 cases r with
 | error e=>exact hx pins σ H s e s' I hq
 | ok fl =>
  cases fl with
  | ret u=>exact I.after hq
  | next=>exact False.elim hq
  | brk=>exact False.elim hq
  | cont=>exact False.elim hq
theorem pe_call (F : FnOk X.prog X.w X.K X.mg X.base CX k f fd ps sp) (hr : Room k X.A) (hg : Gl X x) (hm : X.mg x = some (.ref f)) (hk : PySem.W.keepIn X.K (.ref f) = true) (hb : Binds X.K fd ps ds) (hd : Vals dvs ds) (hx : Passes CX X E)
  (ha : PA X (e :: es) t) (hdb : (x == ("__debug__" : Str)) = false:=by decide) (he : starEach (e :: es) X.env = (false,eval e X.env) :: starEach es X.env:=by rfl) (hpl : (backTo pos (starEach es X.env)).any (·.1) = false:=by rfl) :
  PE X (.Call (.Name x p) (e :: es) [] pos) (tCall sp dvs E t):=by
 intro pins s σ H Q I h
 refine wpAny_Call_Name_kw (ld_glob I hg hm ?_ hdb)
 refine PySem.W.callWith_K (h₀:=X.base) I.ok.mod.kin hk (thn (ha pos pins s σ H _ I h) fun us s1 ⟨vs,H1,I1,r,q⟩=>⟨I1.kIn,?_⟩) he hpl
 exact run_fn F hr hb hd hx I1 r q
end
section
variable {X : Cx} {CX : CXT} {k : Nat} {f C : Addr} {fd : FuncData} {ps ks : List Str} {sp : Sp} {E : XK} {x m : Str} {p pos apos kpos : Pos} {e o : Expr} {es : List Expr} {kws : List Keyword} {te ta : TE} {t tk : TA} {nm : Option Str}
variable {g : List Value->List Value->List Value} {gV : List V->List V->List V}
end
structure FnScope (N P : List Str) (sc : Scope) : Prop where
 kind : sc.kind = .function
 co : sc.isCoroutine = false
 gen : sc.isGenerator = false
 nd : N.Nodup
 pre : N.take P.length = P
 par : ∀ x ∈ P,sc.names.lookup x = some .local\/sc.names.lookup x = some .cell
 nofree : ∀ y ∈ sc.names,y.2 ≠ .free
theorem bindL_out {kindOf : Str->Option NameKind} {x : Str} : ∀ {binds : List (Str × Value)} {m : Str->Option Value},(∀ v,(x,v) ∉ binds)->bindL kindOf binds m x = m x
 | [],_,_=>rfl
 | (n,v) :: r,m,h=>by
  unfold bindL
  rw [bindL_out fun w hw=>h w (List.mem_cons_of_mem _ hw)]
  split
  ·have : x ≠ n:=by rintro rfl;exact h v List.mem_cons_self
   simp [this]
  ·rfl
theorem bindC_out {kindOf : Str->Option NameKind} {x : Str} : ∀ {binds : List (Str × Value)} {m : Str->Option Value},(∀ v,(x,v) ∉ binds)->bindC kindOf binds m x = m x
 | [],_,_=>rfl
 | (n,v) :: r,m,h=>by
  unfold bindC
  rw [bindC_out fun w hw=>h w (List.mem_cons_of_mem _ hw)]
  split
  ·rfl
  ·have : x ≠ n:=by rintro rfl;exact h v List.mem_cons_self
   simp [this]
theorem bindL_get {kindOf : Str->Option NameKind} {x : Str} {v : Value} : ∀ {P : List Str} {vs : List Value} {i : Nat} {m : Str->Option Value},P.Nodup->P[i]? = some x->vs[i]? = some v->kindOf x = some .local ->
  bindL kindOf (P.zip vs) m x = some v
 | [],_,_,_,_,h,_,_=>by simp at h
 | _ :: _,[],_,_,_,_,h,_=>by simp at h
 | p :: P,w :: vs,0,m,nd,h1,h2,hk=>by
  simp at h1 h2;subst h1;subst h2
  show bindL kindOf ((p,w) :: P.zip vs) m p = _
  unfold bindL
  rw [bindL_out fun v hv=>(List.nodup_cons.mp nd).1 (List.of_mem_zip hv).1,if_pos hk]
  simp
 | p :: P,w :: vs,i + 1,m,nd,h1,h2,hk=>by
  show bindL kindOf ((p,w) :: P.zip vs) m x = _
  unfold bindL
  exact bindL_get (i:=i) (List.nodup_cons.mp nd).2 (by simpa using h1) (by simpa using h2) hk
theorem bindC_get {kindOf : Str->Option NameKind} {x : Str} {v : Value} : ∀ {P : List Str} {vs : List Value} {i : Nat} {m : Str->Option Value},P.Nodup->P[i]? = some x->vs[i]? = some v->kindOf x ≠ some .local ->
  bindC kindOf (P.zip vs) m x = some v
 | [],_,_,_,_,h,_,_=>by simp at h
 | _ :: _,[],_,_,_,_,h,_=>by simp at h
 | p :: P,w :: vs,0,m,nd,h1,h2,hk=>by
  simp at h1 h2;subst h1;subst h2
  show bindC kindOf ((p,w) :: P.zip vs) m p = _
  unfold bindC
  rw [bindC_out fun v hv=>(List.nodup_cons.mp nd).1 (List.of_mem_zip hv).1,if_neg hk]
  simp
 | p :: P,w :: vs,i + 1,m,nd,h1,h2,hk=>by
  show bindC kindOf ((p,w) :: P.zip vs) m x = _
  unfold bindC
  exact bindC_get (i:=i) (List.nodup_cons.mp nd).2 (by simpa using h1) (by simpa using h2) hk
def start (N : List Str) (vs : List V) : St:=vs.map some ++ List.replicate (N.length - vs.length) none
def cxOf (CX : CXT) (P : Program) (w : World) (K : PySem.W.Frag) (mg : Str->Option Value) (base : Heap) (N : List Str) (qual : Str) (scope : Scope) (f : Addr) (cd : Value) (A : Around) (outer : List Env) (s : Shared) (H : Hp) (E : XK) : Cx where
 prog:=P
 w:=w
 K:=K
 mg:=mg
 base:=base
 A:=A.deeper (envOfC qual scope s.heap.objs.size f cd)
 N:=N
 s₀:=s
 H₀:=H
 env:=envOfC qual scope s.heap.objs.size f cd
 outer:=outer
 stack:=envOfC qual scope s.heap.objs.size f cd :: outer
 ex:=[]
 calm:=true
 fn:=fun _=>true
 pn:=[]
 xe:=fun e s'=>wpAny (model P w) (A.deeper (envOfC qual scope s.heap.objs.size f cd)) (leaving (envOfC qual scope s.heap.objs.size f cd) e) (fun _ s''=>CX outer H s E e s'') (fun e' s''=>CX outer H s E e' s'') s'
theorem cell_has {sc : Scope} {n : Nat} {x : Str} (h : sc.names.lookup x = some .cell) : ∃ c,(cellsFrom n sc.names []).lookup x = some c:=by
 have q:=PySem.W.cellsFrom_some sc.names n [] (.inl h)
 exact Option.isSome_iff_exists.mp q
theorem inv_start {CX : CXT} {P : Program} {w : World} {K : PySem.W.Frag} {mg : Str->Option Value} {base : Heap} {N ps : List Str} {qual : Str} {scope : Scope} {f : Addr} {cd : Value} {A : Around} {outer : List Env} {s s1 : Shared} {H : Hp} {E : XK} {us : List Value} {vs : List V}
  (S : FnScope N ps scope) (hd : A.handled = none) (e0 : Env0 P w K mg base A outer s H) (hl : vs.length = ps.length) (r : Vals vs us)
  (x : InCallC s s.heap.objs.size (bindL (envOfC qual scope s.heap.objs.size f cd).kindOf (ps.zip us) fun _=>none) (cellsFrom (s.heap.objs.size + 1) scope.names []) (bindC (envOfC qual scope s.heap.objs.size f cd).kindOf (ps.zip us) fun _=>none) s1) :
  Inv (cxOf CX P w K mg base N qual scope f cd A outer s H E) [] (start N vs) H s1:=by
 have hpl : ps.length <= N.length:=by have:=congrArg List.length S.pre;rw [List.length_take] at this;omega
 obtain ⟨h1,tk,rfl,hk⟩:=x.done
 have noA : ∀ b : Addr,b ∉ (cxOf CX P w K mg base N qual scope f cd A outer s H E).ex:=fun b z=>absurd (show b ∈ ([] : List Addr) from z) (by simp)
 refine ⟨⟨e0.mod,S.kind,rfl,rfl,Nat.le_refl _,fun y z c h1 h2=>?_,fun y hy=>?_,fun y c _ h=>?_,fun _=>hd,Around.frames_deeper e0.frames,.inr ⟨rfl,rfl⟩,fun b z=>absurd z (noA b),e0.bs,e0.bsz,fun b _ _=>noA b,fun b z=>absurd z (noA b),e0.funs,e0.frf⟩,
  rfl,⟨e0.bare,Nat.le_refl _⟩,Un.kept hk,⟨_,x.toInCall.ns,fun i y v h1 h2 h3=>?_⟩,fun y c h=>⟨_,x.cell y c h⟩,e0.hok.fresh (Nat.le_refl _),fun y c h=>?_,fun p hp=>absurd (show p ∈ ([] : List (Addr × Obj)) from hp) (by simp),e0.hok.kept hk,?_⟩
 ·exact name_of_addr x.apart (PySem.mem_of_lookup h1) (PySem.mem_of_lookup h2)
 ·have hy : scope.names.lookup y = some .cell\/scope.names.lookup y = some .free:=hy
  rcases hy with hy | hy
  ·exact cell_has hy
  ·exact absurd rfl (S.nofree _ (PySem.mem_of_lookup hy))
 ·exact Nat.le_of_lt (x.above y c (PySem.mem_of_lookup h))
 ·have hi : i < vs.length:=by
   unfold start at h2
   by_cases hi : i < vs.length
   ·exact hi
   ·rw [List.getElem?_append_right (by simpa using hi)] at h2
    rw [List.getElem?_replicate] at h2
    split at h2 <;> cases h2
  have ha : vs[i]? = some v:=by
   unfold start at h2
   rw [List.getElem?_append_left (by simpa using hi),List.getElem?_map] at h2
   cases e : vs[i]? with
   | none=>rw [e] at h2;cases h2
   | some a=>rw [e] at h2;cases h2;rfl
  obtain ⟨u,hu,rv⟩:=r.get ha
  have hp : ps[i]? = some y:=by
   rw [<- S.pre,List.getElem?_take_of_lt (by omega)];exact h1
  have ndP : ps.Nodup:=by rw [<- S.pre];exact S.nd.sublist (List.take_sublist _ _)
  refine ⟨u,rv,?_⟩
  rcases S.par y (List.mem_of_getElem? hp) with k | k
  ·exact .inl ⟨k,bindL_get ndP hp hu k⟩
  ·obtain ⟨c,e⟩:=cell_has (n:=s.heap.objs.size + 1) k
   refine .inr ⟨.inl k,c,e,?_⟩
   have q:=x.cell y c e
   rw [bindC_get ndP hp hu (by show scope.names.lookup y ≠ _;rw [k];decide)] at q
   exact q
 ·exact e0.hok.fresh (Nat.le_of_lt (x.above y c (PySem.mem_of_lookup h)))
 ·unfold start
  show _ = N.length
  rw [List.length_append,List.length_map,List.length_replicate]
  omega
theorem fn_of {CX : CXT} {P : Program} {w : World} {K : PySem.W.Frag} {mg : Str->Option Value} {base : Heap} {k : Nat} {f : Addr} {name qual : Str} {params : Arguments} {body : List Stmt} {scope : Scope} {dV kV doc pm cdv ct oc : Value} {an od : Option Addr}
  {osl : Array (Option Value)} {N ps : List Str} {sp : Sp} (lk : K.lookup f = some ⟨oc,od,.func (PySem.W.fnOf name qual params body scope dV kV doc pm an cdv ct),osl⟩) (hcd : PySem.W.codeIn K cdv qual = true) (S : FnScope N ps scope)
  (len : ∀ vs H Q E,sp vs H Q E->vs.length = ps.length)
  (hbody : ∀ (A : Around) (outer : List Env) (s : Shared) (H : Hp) (vs : List V) (Q : VK) (E : XK),Room k (A.deeper (envOfC qual scope s.heap.objs.size f cdv))->sp vs H Q E ->
   ∃ t,PSs (cxOf CX P w K mg base N qual scope f cdv A outer s H E) body t/\t { nx:=fun _ H'=>Q .non H',rt:=Q } (start N vs) H) :
  FnOk P w K mg base CX (k + 1) f (PySem.W.fnOf name qual params body scope dV kV doc pm an cdv ct) ps sp:=by
 refine ⟨len,fun A outer s H args us vs Q E hr e0 hb r hsp=>?_⟩
 have hl:=len _ _ _ _ hsp
 have KX : K.In s.heap:=e0.mod.kin.keeps fun b o e=>(e0.bs b o e).1
 have lim : s.heap.NoLimit:=e0.mod.nolimit.keeps fun b o e=>(e0.bs b o e).1
 have hkind : ∀ y ∈ ps.zip us,scope.names.lookup y.1 = some .local\/(scope.names.lookup y.1 = some .cell/\((cellsFrom (s.heap.objs.size + 1) scope.names []).lookup y.1).isSome = true):=fun ⟨n,v⟩ hy=>by
  rcases S.par n (List.of_mem_zip hy).1 with q | q
  ·exact .inl q
  ·exact .inr ⟨q,PySem.W.cellsFrom_some _ _ _ (.inl q)⟩
 refine codeAny_call_function hr.depth (KX _ _ lk) rfl S.co S.gen rfl (PySem.W.codeRec_of KX hcd) (hb _ _ _ _ ?_)
 refine wpAny_newFunctionEnv_cells S.kind hkind fun env he s1 x=>?_
 subst he
 refine ⟨lim.keeps x.toInCall.keep,codeAny_func ?_⟩
 obtain ⟨t,ht,hq⟩:=hbody A outer s H vs Q E (hr.deeper _) hsp
 have I : Inv (cxOf CX P w K mg base N qual scope f cdv A outer s H E) [] (start N vs) H s1:=inv_start S hr.hd e0 hl r x
 refine wpAny_mono (ht [] s1 (start N vs) H _ I hq) (fun fl s' hs=>?_) fun e s' hs=>hs
 have fin : ∀ {σ' : St} {H' : Hp} {v : V} {u : Value},Inv (cxOf CX P w K mg base N qual scope f cdv A outer s H E) [] σ' H' s'->RelV v u->Q v H'->CE outer P w H s Q u s' :=
  fun {σ' H' v u} J rv q=>⟨v,H',J.os,J.bare,J.base,J.hok,rv,q⟩
 cases fl with
 | ret u =>
  obtain ⟨v,σ',H',J,rv,q⟩:=hs
  exact fin J rv q
 | next =>
  obtain ⟨σ',H',J,q⟩:=hs
  exact fin (v:=V.non) (u:=Value.none) J rfl q
 | brk =>
  obtain ⟨_,_,_,q⟩:=hs
  exact False.elim q
 | cont =>
  obtain ⟨_,_,_,q⟩:=hs
  exact False.elim q
end L2
namespace L2
open PySem PySem.Spec PyProof.Rows
section
variable {X : Cx} {x : Str} {p pos : Pos} {e : Expr} {es : List Expr} {t : TA} {id T : String} {r : List V->Hp->VK->Prop}
def tCB (r : List V->Hp->VK->Prop) (t : TA) : TE:=fun σ H Q=>t σ H fun vs H1=>r vs H1 Q
theorem pe_callB (hc : CallR X (.builtin id) r) (hg : Gl X x) (hm : X.mg x = none) (hv : bootBuiltins x = some (.builtin id)) (ha : PA X (e :: es) t) (hn : x ≠ "__name__" := by decide) (hdb : (x == ("__debug__" : Str)) = false:=by decide)
  (he : starEach (e :: es) X.env = (false,eval e X.env) :: starEach es X.env:=by rfl) (hpl : (backTo pos (starEach es X.env)).any (·.1) = false:=by rfl) : PE X (.Call (.Name x p) (e :: es) [] pos) (tCB r t):=by
 intro pins s σ H Q I h
 refine wpAny_Call_Name_kw (ld_blt I hg hm hv ?_ hn hdb)
 exact PyProof.Rows.callWith_builtin1 (thn (ha pos pins s σ H _ I h) fun us s1 ⟨vs,H1,I1,r1,q1⟩=>hc pins s1 σ H1 vs us Q I1 r1 q1) he hpl
theorem pe_callTy (hc : CallR X (.type T) r) (hg : Gl X x) (hm : X.mg x = none) (hv : bootBuiltins x = some (.type T)) (ha : PA X (e :: es) t) (hn : x ≠ "__name__" := by decide) (hdb : (x == ("__debug__" : Str)) = false:=by decide)
  (he : starEach (e :: es) X.env = (false,eval e X.env) :: starEach es X.env:=by rfl) (hpl : (backTo pos (starEach es X.env)).any (·.1) = false:=by rfl) : PE X (.Call (.Name x p) (e :: es) [] pos) (tCB r t):=by
 intro pins s σ H Q I h
 refine wpAny_Call_Name_kw (ld_blt I hg hm hv ?_ hn hdb)
 exact PyProof.Rows.callWith_type1 (thn (ha pos pins s σ H _ I h) fun us s1 ⟨vs,H1,I1,r1,q1⟩=>hc pins s1 σ H1 vs us Q I1 r1 q1) he hpl
end
end L2
namespace HT
open PySem PyProof.Rows
section
open PySem.SeqAt
open PySem.AutoSeq1 (wpAny_loadPart')
open PySem.MeetsSeq PySem.MeetsSeq2 PySem.MeetsSeq3
end
section
variable {prog : Program} {w : World} {A : Around} {E : Value->Shared->Prop} {s : Shared}
def sIx (n d : Nat) : Option Int->Nat
 | none=>d
 | some v=>if v < 0 then (v + (n : Int)).toNat else min v.toNat n
end
end HT
namespace L2
open PySem PySem.Spec PyProof.Rows
abbrev TO:=St->Hp->(Option Int->Hp->Prop)->Prop
def PO (X : Cx) (e : Option Expr) (t : TO) : Prop :=
 ∀ (pins : List (Addr × Obj)) (s : Shared) (σ : St) (H : Hp) (Q : Option Int->Hp->Prop),Inv X pins σ H s->t σ H Q ->
  wpAny (model X.prog X.w) X.A (evalPart e X.env) (fun u s'=>∃ o H',Inv X pins σ H' s'/\IsPart u o/\Q o H') X.xe s
def tNoPart : TO:=fun _ H Q=>Q none H
def tPart (t : TE) : TO:=fun σ H Q=>t σ H fun x H1=>∃ i,x = .int i/\Q (some i) H1
section
variable {X : Cx} {e : Expr} {te : TE} {lo hi : Option Expr} {tl th : TO} {pos p2 : Pos}
theorem po_none : PO X none tNoPart:=by
 intro pins s σ H Q I h
 rw [evalPart_none]
 exact wpAny_pure ⟨none,H,I,.none,h⟩
theorem po_some (h : PE X e te) : PO X (some e) (tPart te):=by
 intro pins s σ H Q I hw
 rw [evalPart_some]
 refine thn (h pins s σ H _ I hw) fun u s1 ⟨x,H1,I1,r1,q1⟩=>?_
 obtain ⟨i,rfl,q⟩:=q1
 obtain ⟨t,rfl⟩:=r1
 exact ⟨some i,H1,I1,.int i t,q⟩
def SlR (X : Cx) (r : V->Option Int->Option Int->Hp->VK->Prop) : Prop :=
 ∀ (pins : List (Addr × Obj)) (s : Shared) (σ : St) (H : Hp) (x : V) (v vl vu : Value) (lo hi : Option Int) (sl : Addr) (Q : VK),Inv X pins σ H s->RelV x v->s.heap.IsSliceOf sl vl vu .none->IsPart vl lo->IsPart vu hi->r x lo hi H Q ->
  ∃ T id,typeLookup (.type T) "__getitem__" = pure (some (.builtin id))/\s.TypeIs v T/\wpAny (model X.prog X.w) X.A (getItem v (.ref sl)) (EP X pins σ Q) X.xe s
theorem SlR.or {r r' : V->Option Int->Option Int->Hp->VK->Prop} (h : SlR X r) (h' : SlR X r') : SlR X (fun x lo hi H Q=>r x lo hi H Q\/r' x lo hi H Q):=by
 intro pins s σ H x v vl vu lo hi sl Q I rx hs pl pu q
 rcases q with q | q
 ·exact h pins s σ H x v vl vu lo hi sl Q I rx hs pl pu q
 ·exact h' pins s σ H x v vl vu lo hi sl Q I rx hs pl pu q
def tSl (r : V->Option Int->Option Int->Hp->VK->Prop) (te : TE) (tl th : TO) : TE:=fun σ H Q=>te σ H fun x H1=>tl σ H1 fun l H2=>th σ H2 fun u H3=>r x l u H3 Q
theorem pe_slice {r : V->Option Int->Option Int->Hp->VK->Prop} (hr : SlR X r) (he : PE X e te) (hl : PO X lo tl) (hu : PO X hi th) : PE X (.Subscript e (.Slice lo hi none p2) pos) (tSl r te tl th):=by
 intro pins s σ H Q I h
 refine Subscript_ (thn (he pins s σ H _ I h) fun v s1 ⟨x,H1,I1,r1,q1⟩=>?_)
 refine wpAny_Slice (thn (hl pins s1 σ H1 _ I1 q1) fun vl s2 ⟨l,H2,I2,pl,q2⟩=>thn (hu pins s2 σ H2 _ I2 q2) fun vu s3 ⟨u,H3,I3,pu,q3⟩=>?_)
 rw [evalPart_none]
 refine wpAny_pure ?_
 have I4 : Inv X pins σ H3 { s3 with heap:=s3.heap.push { cls:=.type "slice",data:=.fields #[vl,vu,.none] } }:=I3.kept (t':=s3.toks) fun b ob q=>Heap.get?_push_of_some _ q
 obtain ⟨T,id,hT,ht,hg⟩:=hr pins { s3 with heap:=s3.heap.push { cls:=.type "slice",data:=.fields #[vl,vu,.none] } } σ H3 x v vl vu l u s3.heap.objs.size Q I4 r1 (Heap.IsSliceOf.new ..) pl pu q3
 show wpAny (model X.prog X.w) X.A (subscriptTail e (.Slice lo hi none p2) v (.ref s3.heap.objs.size)) (EP X pins σ Q) X.xe { s3 with heap:=s3.heap.push { cls:=.type "slice",data:=.fields #[vl,vu,.none] } }
 exact tail_any (ops:=[.ref s3.heap.objs.size,v]) ht hT hg (by with_unfolding_all rfl)
def cutV (xs : List V) (lo hi : Option Int) : List V:=(xs.drop (HT.sIx xs.length 0 lo)).take (HT.sIx xs.length xs.length hi - HT.sIx xs.length 0 lo)
theorem cutV_length (xs : List V) (lo hi : Option Int) : (cutV xs lo hi).length <= xs.length:=by
 unfold cutV
 rw [List.length_take,List.length_drop]
 omega
end
end L2
namespace L2
open PySem PySem.Spec PyProof.Rows
def ixN (n : Nat) (i : Int) : Option Nat:=if 0 <= i then (if i < n then some i.toNat else none) else if -(n : Int) <= i then some (i + n).toNat else none
def atI {α : Type} (xs : List α) (i : Int) : Option α:=(ixN xs.length i).bind fun j=>xs[j]?
theorem ixN_seq {n : Nat} {i : Int} {j : Nat} (h : ixN n i = some j) : seqIndex? i n = some j/\j < n/\-(n : Int) <= i/\i < n:=by
 unfold ixN at h
 by_cases h0 : 0 <= i
 ·rw [if_pos h0] at h
  by_cases h1 : i < n
  ·rw [if_pos h1] at h
   have e : i.toNat = j:=Option.some.inj h
   exact ⟨by rw [seqIndex_of h0 h1,e],by omega,by omega,h1⟩
  ·rw [if_neg h1] at h;cases h
 ·rw [if_neg h0] at h
  by_cases h1 : -(n : Int) <= i
  ·rw [if_pos h1] at h
   have e : (i + n).toNat = j:=Option.some.inj h
   exact ⟨by rw [seqIndex_neg (by omega) h1,e],by omega,h1,by omega⟩
  ·rw [if_neg h1] at h;cases h
theorem atI_get {α : Type} {xs : List α} {i : Int} {v : α} (h : atI xs i = some v) : ∃ j,seqIndex? i xs.length = some j/\xs[j]? = some v/\j < xs.length/\-(xs.length : Int) <= i/\i < xs.length:=by
 unfold atI at h
 cases e : ixN xs.length i with
 | none=>rw [e] at h;cases h
 | some j =>
  rw [e] at h
  obtain ⟨h1,h2,h3,h4⟩:=ixN_seq e
  exact ⟨j,h1,h,h2,h3,h4⟩
theorem atI_nat {α : Type} {xs : List α} {j : Nat} {v : α} (h : xs[j]? = some v) : atI xs (j : Int) = some v:=by
 have hj : j < xs.length:=(List.getElem?_eq_some_iff.mp h).1
 have e : ixN xs.length (j : Int) = some j:=by
  unfold ixN
  rw [if_pos (by omega),if_pos (by omega)];simp
 unfold atI;rw [e];exact h
def PlainIx (b : Expr) : Prop := ∀ o i,subscripted b false o i = operate [o,i] (getItem o i)
def IxR (X : Cx) (r : R2) : Prop :=
 ∀ (value slice : Expr) (pins : List (Addr × Obj)) (s : Shared) (σ : St) (H : Hp) (x y : V) (v u : Value) (Q : VK),Inv X pins σ H s->RelV x v->RelV y u->r x y H Q ->
  subscripted slice false v u = operate [v,u] (getItem v u)->wpAny (model X.prog X.w) X.A (subscriptTail value slice v u) (EP X pins σ Q) X.xe s
def MtR (X : Cx) (id : String) (r : V->List V->Hp->VK->Prop) : Prop :=
 ∀ (pins : List (Addr × Obj)) (s : Shared) (σ : St) (H : Hp) (x : V) (xs : List V) (v : Value) (us : List Value) (Q : VK),Inv X pins σ H s->RelV x v->Vals xs us->r x xs H Q ->
  wpAny (model X.prog X.w) X.A (call (.builtin id) (v :: us)) (EP X pins σ Q) X.xe s
section
variable {X : Cx} {a b : Expr} {ta tb : TE} {pos : Pos}
theorem IxR.or {r r' : R2} (h : IxR X r) (h' : IxR X r') : IxR X (fun x y H Q=>r x y H Q\/r' x y H Q):=by
 intro value slice pins s σ H x y v u Q I rx ry q hs
 rcases q with q | q
 ·exact h value slice pins s σ H x y v u Q I rx ry q hs
 ·exact h' value slice pins s σ H x y v u Q I rx ry q hs
theorem MtR.or {id : String} {r r' : V->List V->Hp->VK->Prop} (h : MtR X id r) (h' : MtR X id r') : MtR X id (fun x xs H Q=>r x xs H Q\/r' x xs H Q):=by
 intro pins s σ H x xs v us Q I rx rs q
 rcases q with q | q
 ·exact h pins s σ H x xs v us Q I rx rs q
 ·exact h' pins s σ H x xs v us Q I rx rs q
theorem pe_ix {r : R2} (hr : IxR X r) (ha : PE X a ta) (hb : PE X b tb) (hs : PlainIx b) : PE X (.Subscript a b pos) (tOp r ta tb):=by
 intro pins s σ H Q I h
 exact Subscript_ (binT ha hb I h fun v u s2 x y H2 I2 rx ry q=>hr a b pins s2 σ H2 x y v u Q I2 rx ry q (hs _ _))
def rIxL (K : PySem.W.Frag) : R2:=fun x y H Q=>∃ p xs i v,x = .ref p/\y = .int i/\SqL K H p xs/\atI xs i = some v/\Q v H
def rIxT (K : PySem.W.Frag) : R2:=fun x y H Q=>∃ p xs i v,x = .ref p/\y = .int i/\SqT K H p xs/\atI xs i = some v/\Q v H
def rIxS : R2:=fun x y H Q=>∃ z i c,x = .str z/\y = .int i/\z.length <= sizeLine/\atI z.cps.toList i = some c/\Q (.str ⟨#[c]⟩) H
theorem ix_list : IxR X (rIxL X.K):=by
 intro value slice pins s σ H x y v u Q I rx ry h hs
 obtain ⟨p,xs,i,z,rfl,rfl,hq,he,q⟩:=h
 cases rx
 obtain ⟨t,rfl⟩:=ry
 obtain ⟨its,r,pl,hz⟩:=I.list hq
 obtain ⟨j,h1,h2,h3,h4,h5⟩:=atI_get he
 obtain ⟨w,ew,rw'⟩:=r.get h2
 have hl:=r.length
 have hn:=line63
 have fin : EP X pins σ Q w s:=⟨z,H,I,rw',q⟩
 by_cases h0 : 0 <= i
 ·have hj : i.toNat = j:=by
   rw [seqIndex_of h0 h5] at h1
   exact Option.some.inj h1
  exact item_listR pl.isList h0 (by omega) (by rw [hj];simpa using ew) fin hs
 ·have hj : (i + (its.toArray.size : Int)).toNat = j:=by
   rw [seqIndex_neg (by omega) h4] at h1
   rw [List.size_toArray,<- hl]
   exact Option.some.inj h1
  exact subscriptTail_builtinR (x:=w) pl.isList.typeIs slot_list_getitem.lookup
   (wpAny_getItem_list_neg (Q:=fun r s'=>r = w/\EP X pins σ Q r s') pl.isList (by omega) (by rw [List.size_toArray] <;> omega) (by omega) (by rw [hj];simpa using ew) ⟨rfl,fin⟩) hs
theorem ix_tup : IxR X (rIxT X.K):=by
 intro value slice pins s σ H x y v u Q I rx ry h hs
 obtain ⟨p,xs,i,z,rfl,rfl,hq,he,q⟩:=h
 cases rx
 obtain ⟨t,rfl⟩:=ry
 obtain ⟨its,r,pl,hz⟩:=I.tuple hq
 obtain ⟨j,h1,h2,h3,h4,h5⟩:=atI_get he
 obtain ⟨w,ew,rw'⟩:=r.get h2
 have hl:=r.length
 have hn:=line63
 have fin : EP X pins σ Q w s:=⟨z,H,I,rw',q⟩
 exact subscriptTail_builtinR (x:=w) pl.typeIs slot_tuple_getitem.lookup
  (getItem_tuple (j:=j) (Q:=fun r s'=>r = w/\EP X pins σ Q r s') pl (by omega) (by omega) (by rw [List.size_toArray,<- hl];exact h1) (by simpa using ew) ⟨rfl,fin⟩) hs
theorem ix_str : IxR X rIxS:=by
 intro value slice pins s σ H x y v u Q I rx ry h hs
 obtain ⟨z,i,c,rfl,rfl,hz,he,q⟩:=h
 obtain ⟨t,rfl⟩:=rx
 obtain ⟨t',rfl⟩:=ry
 obtain ⟨j,h1,h2,h3,h4,h5⟩:=atI_get he
 have hl : z.cps.toList.length = z.length:=by simp [Str.length]
 rw [hl] at h1 h4 h5
 have hn:=line63
 exact tail_any (typeIs_str s z t) slot_str_getitem.lookup (getItem_str (c:=c) (by
  have e1 : decide (i < -(2 ^ 63 : Int)) = false:=decide_eq_false (by omega)
  have e2 : decide (i ≥ 2 ^ 63) = false:=decide_eq_false (by omega)
  rw [e1,e2,Bool.or_false]) (by rw [h1];simpa using h2) ⟨.str ⟨#[c]⟩,H,I.tok _,⟨_,rfl⟩,q⟩) hs
theorem mapSeq_set (its : List Value) (n j : Nat) (u : Value) : Obj.mapSeq (·.setIfInBounds j u) { cls:=.type "list",data:=.seq its.toArray n } = { cls:=.type "list",data:=.seq (its.set j u).toArray n }:=by
 simp [Obj.mapSeq]
theorem Inv.lst {pins : List (Addr × Obj)} {σ : St} {H : Hp} {s : Shared} {p : Addr} {xs : List V} (I : Inv X pins σ H s) (h : H p = some (.lst xs)) :
  ∃ (its : List Value) (n : Nat),Vals xs its/\s.heap.get? p = some { cls:=.type "list",data:=.seq its.toArray n }/\xs.length <= sizeLine:=by
 obtain ⟨z,its,n,r,e⟩:=I.hok p _ h
 exact ⟨its,n,r,e,z⟩
theorem Inv.lstUpd {pins : List (Addr × Obj)} {σ : St} {H : Hp} {s : Shared} {p : Addr} {xs ys : List V} {its its' : List Value} {n n' : Nat} {f : Obj->Obj} (I : Inv X pins σ H s) (h : H p = some (.lst xs))
  (ho : s.heap.get? p = some { cls:=.type "list",data:=.seq its.toArray n }) (hf : f { cls:=.type "list",data:=.seq its.toArray n } = { cls:=.type "list",data:=.seq its'.toArray n' }) (r : Vals ys its') (hz : ys.length <= sizeLine) (t : Nat) :
  Inv X pins σ (upd H p (.lst ys)) { s with heap:=s.heap.update p f,toks:=t }:=by
 have e : (s.heap.update p f).get? p = some { cls:=.type "list",data:=.seq its'.toArray n' }:=by
  rw [Heap.get?_update_self f ho (by rw [hf] <;> rfl),hf]
 refine I.write (x:=p) (e:=p) (by rw [h];trivial) (.inl rfl) (fun b u hb q=>(Heap.get?_update_other _ _ (Ne.symm hb)).trans q) ⟨_,e⟩ ?_
 exact ⟨hz,its',n',r,e⟩
def rSetL : V->V->V->Hp->(Hp->Prop)->Prop:=fun o i v H Q=>∃ p xs k j,o = .ref p/\i = .int k/\H p = some (.lst xs)/\ixN xs.length k = some j/\Q (upd H p (.lst (xs.set j v)))
theorem set_list : PSet X rSetL:=by
 intro pins s σ H o i v ov iv u Q I ro ri rv h
 obtain ⟨p,xs,k,j,rfl,rfl,hp,hj,q⟩:=h
 cases ro
 obtain ⟨t,rfl⟩:=ri
 obtain ⟨its,n,r,ho,hz⟩:=I.lst hp
 obtain ⟨h1,h2,h3,h4⟩:=ixN_seq hj
 have hl:=r.length
 have hn:=line63
 have I' : Inv X pins σ (upd H p (.lst (xs.set j v))) { s with heap:=s.heap.update p (Obj.mapSeq (·.setIfInBounds j u)) } :=
  I.lstUpd hp ho (mapSeq_set its n j u) (r.set rv j) (by rw [List.length_set];exact hz) s.toks
 by_cases h0 : 0 <= k
 ·have hk : k.toNat = j:=by
   rw [seqIndex_of h0 h4] at h1
   exact Option.some.inj h1
  exact PySem.W.ki_setAt ho h0 (by omega) (by rw [List.size_toArray,<- hl];exact h4) (by rw [hk];exact ⟨_,I',q⟩)
 ·have hk : (k + (its.toArray.size : Int)).toNat = j:=by
   rw [seqIndex_neg (by omega) h3] at h1
   rw [List.size_toArray,<- hl]
   exact Option.some.inj h1
  exact PySem.W.ki_setBack ho (by omega) (by rw [List.size_toArray,<- hl];exact h3) (by omega) (by rw [hk];exact ⟨_,I',q⟩)
theorem slice_bounds (lo hi : Option Int) (n : Nat) : (sliceBounds lo hi none n).1 = ((HT.sIx n 0 lo : Nat) : Int)/\(sliceBounds lo hi none n).2.1 = ((HT.sIx n n hi : Nat) : Int)/\(sliceBounds lo hi none n).2.2 = 1:=by
 refine ⟨?_,?_,rfl⟩
 ·cases lo with
  | none=>simp [sliceBounds,HT.sIx]
  | some i =>
   simp only [sliceBounds,HT.sIx,Option.getD_none,show (1 : Int) > 0 by decide,if_true]
   by_cases h : i < 0
   ·simp only [h,if_true] <;> omega
   ·simp only [h,if_false] <;> omega
 ·cases hi with
  | none=>simp [sliceBounds,HT.sIx]
  | some i =>
   simp only [sliceBounds,HT.sIx,Option.getD_none,show (1 : Int) > 0 by decide,if_true]
   by_cases h : i < 0
   ·simp only [h,if_true] <;> omega
   ·simp only [h,if_false] <;> omega
theorem slicePick_cut (its : List Value) (lo hi : Option Int) : slicePick its.toArray lo hi none = ((its.drop (HT.sIx its.length 0 lo)).take (HT.sIx its.length its.length hi - HT.sIx its.length 0 lo)).toArray:=by
 obtain ⟨h1,h2,h3⟩:=slice_bounds lo hi its.toArray.size
 unfold slicePick
 rw [h1,h2,h3]
 simp only [sliceRange_one,pick_run,List.size_toArray] <;> rfl
def rSlL (K : PySem.W.Frag) : V->Option Int->Option Int->Hp->VK->Prop:=fun x lo hi H Q=>∃ a xs,x = .ref a/\SqL K H a xs/\∀ p,H p = none->Q (.ref p) (upd H p (.lst (cutV xs lo hi)))
theorem sl_list : SlR X (rSlL X.K):=by
 intro pins s σ H x v vl vu lo hi sl Q I rx hs pl pu h
 obtain ⟨a,xs,rfl,hx,q⟩:=h
 cases rx
 obtain ⟨its,r,ht,hz⟩:=I.list hx
 have hlen:=r.length
 refine ⟨"list",_,slot_list_getitem.lookup,ht.isList.typeIs,?_⟩
 refine wpAny_getItem_list_slice ht.isList hs pl pu .none (by simp) ?_ (by rw [List.size_toArray] <;> omega)
 rw [slicePick_cut,<- hlen]
 refine ⟨.ref s.heap.objs.size,_,I.laid (t':=s.toks) (o:=.lst (cutV xs lo hi)) (fun b ob q=>Heap.get?_push_of_some _ q) (Nat.le_refl _) ?_,rfl,q _ (I.hok.fresh (Nat.le_refl _))⟩
 exact ⟨Nat.le_trans (cutV_length xs lo hi) hz,_,0,(r.drop (HT.sIx xs.length 0 lo)).take (HT.sIx xs.length xs.length hi - HT.sIx xs.length 0 lo),Heap.get?_push_size _ rfl⟩
def flatV : V->Bool
 | .non=>true
 | .bl _=>true
 | .int _=>true
 | .str _=>true
 | _=>false
def eqV : V->V->Bool
 | .non,.non=>true
 | .bl a,.bl b=>a == b
 | .bl a,.int b=>(if a then 1 else 0) == b
 | .int a,.bl b=>a == (if b then 1 else 0)
 | .int a,.int b=>a == b
 | .str a,.str b=>a == b
 | _,_=>false
theorem eqAt_V {A : Around} {s : Shared} {y x : V} {u v : Value} (ry : RelV y u) (rx : RelV x v) (fy : flatV y = true) (fx : flatV x = true) : SeqAt.EqAt A s u v (eqV y x):=by
 cases y with
 | non =>
  cases ry
  cases x with
  | non=>cases rx;exact SeqAt.EqAt.same _
  | bl b=>cases rx;exact SeqAt.EqAt.none_bool b
  | int b=>obtain ⟨t,rfl⟩:=rx;exact SeqAt.EqAt.none_int b t
  | str b=>obtain ⟨t,rfl⟩:=rx;exact SeqAt.EqAt.none_str b t
  | _=>exact absurd (show false = true from fx) Bool.false_ne_true
 | bl a =>
  cases ry
  cases x with
  | non=>cases rx;exact SeqAt.EqAt.bool_none a
  | bl b=>cases rx;exact SeqAt.EqAt.bool_bool a b
  | int b=>obtain ⟨t,rfl⟩:=rx;exact SeqAt.EqAt.bool_int a b t
  | str b=>obtain ⟨t,rfl⟩:=rx;exact SeqAt.EqAt.bool_str a b t
  | _=>exact absurd (show false = true from fx) Bool.false_ne_true
 | int a =>
  obtain ⟨t',rfl⟩:=ry
  cases x with
  | non=>cases rx;exact SeqAt.EqAt.int_none a t'
  | bl b=>cases rx;exact SeqAt.EqAt.int_bool a t' b
  | int b=>obtain ⟨t,rfl⟩:=rx;exact SeqAt.EqAt.int_int a t' b t
  | str b=>obtain ⟨t,rfl⟩:=rx;exact SeqAt.EqAt.int_str a t' b t
  | _=>exact absurd (show false = true from fx) Bool.false_ne_true
 | str a =>
  obtain ⟨t',rfl⟩:=ry
  cases x with
  | non=>cases rx;exact SeqAt.EqAt.str_none a t'
  | bl b=>cases rx;exact SeqAt.EqAt.str_bool a t' b
  | int b=>obtain ⟨t,rfl⟩:=rx;exact SeqAt.EqAt.str_int a t' b t
  | str b=>obtain ⟨t,rfl⟩:=rx;exact SeqAt.EqAt.str_str a t' b t
  | _=>exact absurd (show false = true from fx) Bool.false_ne_true
 | _=>exact absurd (show false = true from fy) Bool.false_ne_true
def eqU (x : V) (u : Value) : Bool:=match u with
 | .none=>eqV .non x
 | .bool b=>eqV (.bl b) x
 | .int i _=>eqV (.int i) x
 | .str z _=>eqV (.str z) x
 | _=>false
theorem eqU_of {x y : V} {u : Value} (r : RelV y u) (f : flatV y = true) : eqU x u = eqV y x:=by
 cases y with
 | non=>cases r;rfl
 | bl b=>cases r;rfl
 | int i=>obtain ⟨t,rfl⟩:=r;rfl
 | str z=>obtain ⟨t,rfl⟩:=r;rfl
 | _=>exact absurd (show false = true from f) Bool.false_ne_true
theorem mem_eqAt {A : Around} {s : Shared} {x : V} {v : Value} (rx : RelV x v) (fx : flatV x = true) : ∀ {xs : List V} {us : List Value},Vals xs us->xs.all flatV = true->∀ u ∈ us,SeqAt.EqAt A s u v (eqU x u)
 | _,_,.nil,_=>fun u hu=>by cases hu
 | y :: xs,u :: us,.cons r t,f=>fun u' hu=>by
  rw [List.all_cons,Bool.and_eq_true] at f
  rcases List.mem_cons.mp hu with rfl | hu
  ·rw [eqU_of r f.1];exact eqAt_V r rx f.1 fx
  ·exact mem_eqAt rx fx t f.2 u' hu
theorem call_len_seq : CallR X (.builtin "len") (fun xs H Q=>∃ p ys,xs = [.ref p]/\(SqL X.K H p ys\/SqT X.K H p ys)/\Q (.int ys.length) H):=by
 intro pins s σ H xs us Q I r h
 obtain ⟨p,ys,rfl,hq,q⟩:=h
 obtain ⟨u,rfl,rx⟩:=vals1 r
 cases rx
 have hn:=line63
 rcases hq with hq | hq
 ·obtain ⟨its,r',pl,hz⟩:=I.list hq
  have hlen:=r'.length
  exact Calls.call_len_list pl.isList (by simp only [List.size_toArray] <;> omega) ⟨.int ys.length,H,I.tok _,⟨s.toks + 1,by rw [List.size_toArray,hlen]⟩,q⟩
 ·obtain ⟨its,r',pl,hz⟩:=I.tuple hq
  have hlen:=r'.length
  exact len_tuple pl (by simp only [List.size_toArray] <;> omega) ⟨.int ys.length,H,I.tok _,⟨s.toks + 1,by rw [List.size_toArray,hlen]⟩,q⟩
theorem call_len_str : CallR X (.builtin "len") (fun xs H Q=>∃ z,xs = [.str z]/\z.length <= sizeLine/\Q (.int z.length) H):=by
 intro pins s σ H xs us Q I r h
 obtain ⟨z,rfl,hz,q⟩:=h
 obtain ⟨u,rfl,t,rfl⟩:=vals1 r
 have hn:=line63
 exact len_str (by omega) ⟨.int z.length,H,I.tok _,⟨_,rfl⟩,q⟩
theorem CallR.or {f : Value} {r r' : List V->Hp->VK->Prop} (h : CallR X f r) (h' : CallR X f r') : CallR X f (fun xs H Q=>r xs H Q\/r' xs H Q):=by
 intro pins s σ H xs us Q I rs q
 rcases q with q | q
 ·exact h pins s σ H xs us Q I rs q
 ·exact h' pins s σ H xs us Q I rs q
theorem call_tuple_of : CallR X (.type "tuple") (fun xs H Q=>∃ p ys,xs = [.ref p]/\((SqL X.K H p ys/\∀ l,H l = none->Q (.ref l) (upd H l (.tup ys)))\/(SqT X.K H p ys/\Q (.ref p) H))):=by
 intro pins s σ H xs us Q I r h
 obtain ⟨p,ys,rfl,h⟩:=h
 obtain ⟨u,rfl,rx⟩:=vals1 r
 cases rx
 rcases h with ⟨hq,q⟩ | ⟨hq,q⟩
 ·obtain ⟨its,r',pl,hz⟩:=I.list hq
  have hlen:=r'.length
  refine call_tuple_list pl.isList (fun h' kp=>?_) (by simp only [List.size_toArray] <;> omega)
  have I1 : Inv X pins σ H { s with heap:=h' }:=I.kept (t':=s.toks) kp
  have I2 : Inv X pins σ (upd H h'.objs.size (.tup ys)) { s with heap:=h'.push { cls:=.type "tuple",data:=.seq its.toArray } } :=
   I1.laid (t':=s.toks) (fun b o e=>Heap.get?_push_of_some _ e) (Nat.le_refl _) (show ObjOk X.prog X.w _ _ _ (.tup ys) from ⟨hz,its,r',IsTup.new _ _,_,Heap.get?_push_size _ rfl,rfl⟩)
  exact ⟨.ref h'.objs.size,_,I2,rfl,q _ (I1.hok.fresh (Nat.le_refl _))⟩
 ·obtain ⟨its,r',pl,hz⟩:=I.tuple hq
  exact call_tuple_same pl ⟨.ref p,H,I,rfl,q⟩
def tyV (K : PySem.W.Frag) (T : String) (x : V) (H : Hp) : Prop:=match x with
 | .str _=>T = "str"
 | .int _=>T = "int"
 | .ref p=>(T = "list"/\∃ xs,SqL K H p xs)\/(T = "tuple"/\∃ o,K.lookup p = some o/\o.cls = .type "tuple"/\o.dict = none) \/
   (T = "dict"/\((∃ kvs,H p = some (.dK kvs))\/∃ kvs,H p = some (.dT kvs)))\/(T = "set"/\∃ S n,H p = some (.set S n))
 | _=>False
theorem tyV_is {pins : List (Addr × Obj)} {σ : St} {H : Hp} {s : Shared} {T : String} {x : V} {v : Value} (I : Inv X pins σ H s) (r : RelV x v) (ty : tyV X.K T x H) :
  s.TypeIs v T/\∀ a,v = .ref a->∃ ob,s.heap.get? a = some ob/\ob.dict = none:=by
 cases x with
 | str z =>
  obtain ⟨t,rfl⟩:=r
  cases (show T = "str" from ty)
  exact ⟨typeIs_str s z t,fun _ e=>nomatch e⟩
 | int i =>
  obtain ⟨t,rfl⟩:=r
  cases (show T = "int" from ty)
  exact ⟨typeIs_int s i t,fun _ e=>nomatch e⟩
 | ref p =>
  cases r
  rcases ty with ⟨rfl,xs,hq⟩ | ⟨rfl,o,hk,hc,hd⟩ | ⟨rfl,hk⟩ | ⟨rfl,S,n,hk⟩
  ·obtain ⟨its,_,pl,_⟩:=I.list hq
   refine ⟨pl.isList.typeIs,fun a e=>?_⟩
   cases e
   obtain ⟨o,n,e,c,hd,_⟩:=pl
   exact ⟨o,e,hd⟩
  ·refine ⟨⟨o,I.kIn p o hk,hc⟩,fun a e=>?_⟩
   cases e
   exact ⟨o,I.kIn _ o hk,hd⟩
  ·have z : ∃ o,s.heap.get? p = some o/\o.ExactDict:=by
    rcases hk with ⟨kvs,hk⟩ | ⟨kvs,hk⟩
    ·obtain ⟨_,_,_,_,o,_,_,e,ex,_⟩:=I.hok p _ hk
     exact ⟨o,e,ex⟩
    ·obtain ⟨_,_,_,_,o,_,_,e,ex,_⟩:=I.hok p _ hk
     exact ⟨o,e,ex⟩
   obtain ⟨o,e,ex⟩:=z
   refine ⟨⟨o,e,ex.1⟩,fun a e2=>?_⟩
   cases e2
   exact ⟨o,e,ex.2.1⟩
  ·obtain ⟨o,_,_,_,e,ex,_⟩:=I.hok p _ hk
   refine ⟨⟨o,e,ex.1⟩,fun a e2=>?_⟩
   cases e2
   exact ⟨o,e,ex.2.1⟩
 | _=>exact False.elim ty
def tBM (K : PySem.W.Frag) (T : String) (r : V->List V->Hp->VK->Prop) (to : TE) (t : TA) : TE:=fun σ H Q=>to σ H fun x H1=>tyV K T x H1/\t σ H1 fun xs H2=>r x xs H2 Q
variable {o e : Expr} {es : List Expr} {to : TE} {t : TA} {name : Str} {apos cpos : Pos} {T id : String} {r : V->List V->Hp->VK->Prop}
theorem pe_bm (pa : PlainAttrs T) (slot : Slot T name id) (hty : typeOf (.builtin id) = pure (.type "method_descriptor")) (hm : MtR X id r) (ho : PE X o to) (ha : PA X (e :: es) t)
  (hbase : attributeBase o name X.env (eval o X.env) = eval o X.env:=by rfl)
  (hfew : ((backTo cpos (starEach (e :: es) X.env)).all (fun x=>!x.1) && (backToKw cpos (keywordEach [] X.env)).all (fun x=>x.1.isSome)
   && decide ((e :: es).length + ([] : List Keyword).length + (if ([] : List Keyword).isEmpty then 0 else 1) < 30)) = true:=by rfl)
  (hline : (apos.endLine == cpos.line) = true:=by rfl) (hs : starEach (e :: es) X.env = (false,eval e X.env) :: starEach es X.env:=by rfl) (hplain : (backTo cpos (starEach es X.env)).any (·.1) = false:=by rfl) :
  PE X (.Call (.Attribute o name apos) (e :: es) [] cpos) (tBM X.K T r to t):=by
 intro pins s σ H Q I h
 refine wpAny_Call_method_late hbase hfew hline rfl (thn (ho pins s σ H _ I h) fun v s1 ⟨x,H1,I1,r1,ty,q1⟩=>?_)
 obtain ⟨h1,h2⟩:=tyV_is I1 r1 ty
 refine ⟨T,id,pa,slot,hty,h1,h2,?_⟩
 have hA:=ha cpos pins s1 σ H1 _ I1 q1
 rw [hs] at hA ⊢
 refine Calls.callWith_builtin (by show (false || (backTo cpos (starEach es X.env)).any (·.1)) = false;rw [hplain] <;> rfl) (Calls.evalArgs_plain ?_)
 exact thn hA fun us s2 ⟨vs,H2,I2,r2,q2⟩=>hm pins s2 σ H2 x vs v us Q I2 r1 r2 q2
end
end L2
namespace L2
open PySem PySem.Spec PyProof.Rows
def MtM (X : Cx) (id : String) (r : V->List V->Hp->VK->Prop) : Prop :=
 ∀ (pins : List (Addr × Obj)) (s : Shared) (σ : St) (H : Hp) (x : V) (xs : List V) (v : Value) (us : List Value) (Q : VK),Inv X pins σ H s->RelV x v->Vals xs us->r x xs H Q ->
  wpAny (model X.prog X.w) X.A (call (.builtin id) (v :: us)) (EP X pins σ Q) X.xe s
theorem Vals.one : ∀ {x : V} {us : List Value},Vals [x] us->∃ u,us = [u]/\RelV x u
 | _,_,.cons r .nil=>⟨_,rfl,r⟩
theorem Vals.two : ∀ {x y : V} {us : List Value},Vals [x,y] us->∃ u v,us = [u,v]/\RelV x u/\RelV y v
 | _,_,_,.cons r (.cons q .nil)=>⟨_,_,rfl,r,q⟩
theorem Vals.zero : ∀ {us : List Value},Vals [] us->us = []
 | _,.nil=>rfl
theorem Vals.dropLast {xs : List V} {us : List Value} (h : Vals xs us) : Vals xs.dropLast us.dropLast:=by
 induction h with
 | nil=>exact .nil
 | cons r t ih =>
  cases t with
  | nil=>exact .nil
  | cons q t'=>exact .cons r ih
theorem Vals.reverse {xs : List V} {us : List Value} (h : Vals xs us) : Vals xs.reverse us.reverse:=by
 induction h with
 | nil=>exact .nil
 | cons r t ih=>rw [List.reverse_cons,List.reverse_cons];exact Vals.append ih (.cons r .nil)
section
variable {X : Cx} {pins : List (Addr × Obj)} {σ : St} {H : Hp} {s : Shared} {l b : Addr} {xs ys zs : List V}
theorem Inv.lset {its its' : List Value} {n : Nat} {f : Array Value->Array Value} {t' : Nat} (I : Inv X pins σ H s) (hH : H l = some (.lst xs))
  (e : s.heap.get? l = some { cls:=.type "list",data:=.seq its.toArray n }) (hf : f its.toArray = its'.toArray) (hv : Vals ys its') (hz : ys.length <= sizeLine) :
  Inv X pins σ (upd H l (.lst ys)) { s with heap:=s.heap.update l (Obj.mapSeq f),toks:=t' }:=by
 have q:=PySem.IsL.update e f
 rw [hf] at q
 refine I.write (x:=l) (e:=l) (by rw [hH];exact trivial) (.inl rfl) (fun b' u hb hu=>(Heap.get?_update_other s.heap (Obj.mapSeq f) (Ne.symm hb)).trans hu) ⟨_,q⟩ ?_
 exact ⟨hz,its',_,hv,q⟩
theorem Inv.lnew {its : List Value} {t' : Nat} (I : Inv X pins σ H s) (hv : Vals ys its) (hz : ys.length <= sizeLine) :
  Inv X pins σ (upd H s.heap.objs.size (.lst ys)) { s with heap:=s.heap.push { cls:=.type "list",data:=.seq its.toArray },toks:=t' } :=
 I.laid (fun _ _ q=>Heap.get?_push_of_some _ q) (Nat.le_refl _) ⟨hz,its,0,hv,Heap.get?_push_size _ rfl⟩
theorem Inv.fresh (I : Inv X pins σ H s) : H s.heap.objs.size = none:=I.hok.fresh (Nat.le_refl _)
theorem Inv.lstM (I : Inv X pins σ H s) (hH : H l = some (.lst xs)) : xs.length <= sizeLine/\∃ (its : List Value) (n : Nat),Vals xs its/\xs.length = its.length/\s.heap.get? l = some { cls:=.type "list",data:=.seq its.toArray n }:=by
 obtain ⟨z,its,n,r,e⟩:=I.hok l _ hH
 exact ⟨z,its,n,r,r.length,e⟩
end
section
variable {X : Cx}
def rAppend : V->List V->Hp->VK->Prop:=fun x vs H Q=>∃ l xs y,x = .ref l/\vs = [y]/\H l = some (.lst xs)/\xs.length < sizeLine/\Q .non (upd H l (.lst (xs ++ [y])))
theorem mt_append : MtM X "list.append" rAppend:=by
 intro pins s σ H x vs v us Q I rx rv h
 obtain ⟨l,xs,y,rfl,rfl,hH,hz,q⟩:=h
 cases rx
 obtain ⟨u,rfl,ru⟩:=rv.one
 obtain ⟨z,its,n,r,hl,e⟩:=I.lstM hH
 refine call_meets F.slot_list_append ⟨_,e,rfl⟩ F.entry_list_append (F.args_list_append_2 _ _) (PySem.list_append l its.toArray n u (by rw [List.size_toArray];omega)) ⟨e,?_⟩
 refine ⟨.non,_,I.lset (its':=its ++ [u]) hH e (by simp) (r.append (.cons ru .nil)) ?_,rfl,q⟩
 rw [List.length_append,List.length_singleton]
 omega
def rCat : R2:=fun x y H Q=>∃ l b xs zs,x = .ref l/\y = .ref b/\H l = some (.lst xs)/\H b = some (.lst zs)/\xs.length + zs.length <= sizeLine/\∀ p,H p = none->Q (.ref p) (upd H p (.lst (xs ++ zs)))
theorem op_cat : OpR X (binaryOp .Add) rCat:=by
 intro pins s σ H x y v u Q I rx ry h
 obtain ⟨l,b,xs,zs,rfl,rfl,hH,hB,hz,q⟩:=h
 cases rx
 cases ry
 obtain ⟨z,its,n,r,hl,e⟩:=I.lstM hH
 obtain ⟨z2,its2,n2,r2,hl2,e2⟩:=I.lstM hB
 refine PySem.P.add_list e e2 ?_ (by rw [List.size_toArray,List.size_toArray];omega)
 have ea : its.toArray ++ its2.toArray = (its ++ its2).toArray:=by simp
 rw [ea]
 exact ⟨.ref _,_,I.lnew (t':=s.toks) (r.append r2) (by rw [List.length_append];omega),rfl,q _ I.fresh⟩
end
section
variable {prog : Program} {w : World} {A : Around} {E : Value->Shared->Prop} {s : Shared}
end
section
variable {X : Cx}
end
end L2
namespace Att
open PySem PySem.W PySem.Calls PyProof.Rows
theorem ints_of_wellAll {P : Params} {h : Heap} : ∀ (ns : List Int) (vs : List Value),WellAll P h vs (ns.map WData.int)->IntsAre vs ns:=by
 intro ns
 induction ns with
 | nil =>
  intro vs w
  rw [List.map_nil] at w
  cases w
  exact .nil
 | cons n ns ih =>
  intro vs w
  rw [List.map_cons] at w
  cases w with
  | cons a b =>
   cases a
   exact .cons _ _ (ih _ b)
theorem script_of {l : OpenLaw} {n : Nat} (hn : l.most = some n) {P : Params} {h : Heap} {args : List WData} {vals : List Value}
  (hpre : l.row.toRowW.claim.pre args = true) (hwl : WellAll P h vals args) :
  ∃ a vs ns,vals = [Value.ref a]/\args = [WData.list (ns.map WData.int)]/\h.get? a = some { cls:=.type "list",data:=.seq vs.toArray }/\IntsAre vs ns/\ns.length <= n:=by
 have hsh : WShape.hasAll [] args [.list .int] = true:=(pre_splitW hpre).1
 have hc : l.pre.holds [] { args:=args } = true:=(pre_splitW hpre).2
 obtain ⟨d,r,rfl,h1,h2⟩:=hasAllW_cons hsh
 obtain rfl:=hasAllW_nil h2
 obtain ⟨xs,rfl,h3⟩:=hasW_list h1
 obtain ⟨ns,rfl⟩:=items_int h3
 have hlen : ns.length <= n:=by
  unfold OpenLaw.pre at hc
  have h4 : (WTm.not (.lt (.lit (.int (n : Int))) (.len (.arg 0)))).holds [] { args:=[.list (ns.map .int)] } = true:=by
   have h4:=(holds_andW hc).1
   rw [hn] at h4
   exact h4
  have h5:=condW_of h4 (w_not (w_lt w_lit (w_len_list (w_arg rfl))))
  rw [List.length_map] at h5
  refine Nat.le_of_not_lt fun q=>?_
  have q' : (n : Int) < ((ns.length : Nat) : Int):=by omega
  first
   | (rw [decide_eq_true q'] at h5;exact absurd h5 (by decide))
   | (simp at h5;omega)
 cases hwl with
 | cons w1 w2 =>
  cases w2
  cases w1 with
  | list ho hall=>exact ⟨_,_,ns,rfl,rfl,ho,ints_of_wellAll ns _ hall,hlen⟩
theorem post_true (l : OpenLaw) (args : List WData) : l.row.toRowW.claim.post args (.bool true) args = true :=
 postW_of (r:=l.row.toRowW) (X:=(true == true))
  (show WShape.has [] (.bool true) .bool = true by first | rfl | decide | simp [WShape.has,WShape.arms,WShape.armsAll])
  (show (WTm.eq .res (.lit (.bool true))).value [] { args:=args,res:=some (.bool true),after:=args } = some (.bool (true == true)) from w_eq_bool (w_res rfl) w_lit) rfl
theorem attach_call {l : OpenLaw} {n : Nat} {q : Program} {loose : List Str} {XP : (Str->Option Value)->Heap->Prop} {YP : World->Heap->Prop} {d : DefRec}
  (hn : l.most = some n) (hdf : d.params.defaults = [])
  (call : ∀ (w : World) (s₀ s₁ : Shared) (mg mb : Str->Option Value) (fa : Addr) (o : Obj) (pm cd doc : Value) (a : Addr) (vs : List Value) (ns : List Int),
   Ground q loose [] XP w s₀ mg mb s₁.heap->YP w s₁.heap ->
   s₁.heap.get? fa = some o->o.data = .func (docDef d.name d.params d.body d.scope pm cd doc)->s₁.heap.CodeRec cd d.name->mg d.name = some (.ref fa) ->
   s₁.heap.get? a = some { cls:=.type "list",data:=.seq vs.toArray }->IntsAre vs ns->ns.length <= n->s₁.gens = #[] ->
   codeAny (model l.prog w) callerA (.call (.ref fa) ⟨[.ref a],[]⟩) (fun r s'=>r = .ok (.ret (.bool true))/\OldK s₁.heap s'.heap/\s'.os = s₁.os/\AllBare s'.gens) s₁) :
  WalkO q loose XP YP l.row.toRowW d [] (fun f vs=>PySem.call f vs):=by
 intro w s₀ s₁ mg mb G Y fa o pm cd doc dV kV ho hd hcd hD hmg hg args vals as hpre hlay hrd hwl hlo
 obtain rfl : dV = .none:=Dflts.none hD hdf
 obtain rfl : kV = .none:=Dflts.noKw hD
 obtain ⟨a,vs,ns,rfl,rfl,hobj,hints,hlen⟩:=script_of hn hpre hwl
 refine enter_call (codeAny_mono (call w s₀ s₁ mg mb fa o pm cd doc a vs ns G Y ho (fd_plain hd) hcd hmg hobj hints hlen hg) fun r s' hq=>?_)
 obtain ⟨rfl,h2,h3,h4⟩:=hq
 exact ⟨.inl ⟨.bool true,.bool true,[],rfl,fun _=>rfl,.bool true,post_true l _,fun _=>⟨List.Pairwise.nil,fun _ hm=>(nomatch hm)⟩⟩,h2,h3,h4⟩
section
variable {prog : Program} {w : World} {A : Around} {E : Value->Shared->Prop} {s : Shared} {K : Frag}
end
end Att
namespace L2
open PySem PySem.Spec PyProof.Rows
theorem vals_ints : ∀ {vs : List Value} {ns : List Int},IntsAre vs ns->Vals (ns.map V.int) vs
 | _,_,.nil=>.nil
 | _,_,.cons n t h=>.cons ⟨t,rfl⟩ (vals_ints h)
end L2
namespace L2
open PySem PySem.Spec PyProof.Rows
end L2
namespace L2
open PySem PySem.Spec PyProof.Rows
def defArgs (s : Stmt) : Arguments:=match s with
 | .FunctionDef _ a _ _ _ _ _ _ _ _=>a
 | _=>{ posonlyargs:=[],args:=[],vararg:=none,kwonlyargs:=[],kw_defaults:=[],kwarg:=none,defaults:=[] }
def defBody (s : Stmt) : List Stmt:=match s with
 | .FunctionDef _ _ b _ _ _ _ _ _ _=>b
 | _=>[]
def defScope (s : Stmt) : Scope:=match s with
 | .FunctionDef _ _ _ _ _ _ sc _ _ _=>sc
 | _=>{ kind:=.function,names:=[],isGenerator:=false,isCoroutine:=false }
abbrev CX0 : CXT:=fun _ _ _ _ _ _=>False
abbrev E0 : XK:=fun _ _ _=>False
theorem pass0 {X : Cx} : Passes CX0 X E0:=fun _ _ _ _ _ _ _ h=>h.elim
structure Fun (K : PySem.W.Frag) (x qual : Str) (st : Stmt) (f : Addr) (fd : FuncData) : Prop where
 ex : ∃ (oc : Value) (od : Option Addr) (kV doc pm : Value) (an : Option Addr) (cdv ct : Value) (osl : Array (Option Value)),
  fd = PySem.W.fnOf x qual (defArgs st) (defBody st) (defScope st) .none kV doc pm an cdv ct/\K.lookup f = some ⟨oc,od,.func fd,osl⟩/\PySem.W.codeIn K cdv qual = true
 kp : PySem.W.keepIn K (.ref f) = true
section
variable {P : Program} {w : World} {K : PySem.W.Frag} {mg : Str->Option Value} {base : Heap}
theorem Fun.ok {x qual : Str} {st : Stmt} {f : Addr} {fd : FuncData} {N ps : List Str} {k : Nat} {sp : Sp} (F : Fun K x qual st f fd) (S : FnScope N ps (defScope st)) (len : ∀ vs H Q E,sp vs H Q E->vs.length = ps.length)
  (hbody : ∀ (cdv : Value) (A : Around) (outer : List Env) (s : Shared) (H : Hp) (vs : List V) (Q : VK) (E : XK),Room k (A.deeper (envOfC qual (defScope st) s.heap.objs.size f cdv))->sp vs H Q E ->
   ∃ t,PSs (cxOf CX0 P w K mg base N qual (defScope st) f cdv A outer s H E).nox (defBody st) t/\t { nx:=fun _ H'=>Q .non H',rt:=Q } (start N vs) H) : FnOk P w K mg base CX0 (k + 1) f fd ps sp:=by
 obtain ⟨oc,od,kV,doc,pm,an,cdv,ct,osl,rfl,lk,hcd⟩:=F.ex
 refine fn_of lk hcd S len fun A outer s H vs Q E hr hsp=>?_
 obtain ⟨t,h,q⟩:=hbody cdv A outer s H vs Q E hr hsp
 exact ⟨t,h.nox,q⟩
theorem Fun.binds {x qual : Str} {st : Stmt} {f : Addr} {fd : FuncData} {ps : List Str} (F : Fun K x qual st f fd)
  (h : ∀ (kV doc pm : Value) (an : Option Addr) (cdv ct : Value) (us : List Value),us.length = ps.length->bindArgs (PySem.W.fnOf x qual (defArgs st) (defBody st) (defScope st) .none kV doc pm an cdv ct) ⟨us,[]⟩ = pure (ps.zip us)) : Binds K fd ps []:=by
 obtain ⟨oc,od,kV,doc,pm,an,cdv,ct,osl,rfl,lk,hcd⟩:=F.ex
 exact .all (h kV doc pm an cdv ct)
theorem fun_mk {x qual : Str} {st : Stmt} {f : Addr} {oc : Value} {od an : Option Addr} {osl : Array (Option Value)} {kV doc pm cdv ct : Value} (l : K.lookup f = some ⟨oc,od,.func (PySem.W.fnOf x qual (defArgs st) (defBody st) (defScope st) .none kV doc pm an cdv ct),osl⟩)
  (c : PySem.W.codeIn K cdv qual = true) (k : PySem.W.keepIn K (.ref f) = true) : Fun K x qual st f (PySem.W.fnOf x qual (defArgs st) (defBody st) (defScope st) .none kV doc pm an cdv ct):=⟨⟨oc,od,kV,doc,pm,an,cdv,ct,osl,rfl,l,c⟩,k⟩
end
theorem small1000 {n : Nat} (h : n <= 1000) : n < sizeLine:=Nat.lt_of_le_of_lt h (by decide)
section
variable {X : Cx}
theorem pv (i : Nat) {x : Str} {pos : Pos} (hN : X.N[i]? = some x:=by rfl) (hv : Vis X.env.scope x:=by first | exact Or.inl rfl | exact Or.inr (Or.inl rfl) | exact Or.inr (Or.inr rfl)) (hd : (x == ("__debug__" : Str)) = false:=by decide)
  (hcd : (x == ("__classdict__" : Str)) = false:=by decide) : PE X (.Name x pos) (tVar i):=pe_var hN hv hd hcd
end
theorem iteF {A B : Prop} (h : B) : if false = true then A else B:=by
 rw [if_neg Bool.false_ne_true]
 exact h
theorem iteT {A B : Prop} (h : A) : if true = true then A else B:=by
 rw [if_pos rfl]
 exact h
theorem ite2 {c A B : Prop} [Decidable c] (h1 : c->A) (h2 : ¬ c->B) : if c then A else B:=by
 by_cases h : c
 ·rw [if_pos h]
  exact h1 h
 ·rw [if_neg h]
  exact h2 h
def Same (H H' : Hp) : Prop := ∀ b o,H b = some o->H' b = some o
theorem Same.refl (H : Hp) : Same H H:=fun _ _ h=>h
theorem Same.trans {H H1 H2 : Hp} (a : Same H H1) (b : Same H1 H2) : Same H H2:=fun c o h=>b c o (a c o h)
theorem Same.free {H H' : Hp} (e : Same H H') {l : Addr} (h : H' l = Option.none) : H l = Option.none:=by
 cases q : H l with
 | none=>rfl
 | some o =>
  rw [e l o q] at h
  cases h
theorem Same.seq {K : PySem.W.Frag} {H H' : Hp} {a : Addr} {xs : List V} (e : Same H H') (h : SqL K H a xs) : SqL K H' a xs:=by
 rcases h with (h | ⟨o,h⟩) | h
 ·exact .inl (.inl (e _ _ h))
 ·exact .inl (.inr ⟨o,e _ _ h⟩)
 ·exact .inr h
end L2
end

section
set_option Elab.async false
set_option linter.all false
set_option maxRecDepth 100000
namespace L2
open PySem PySem.Spec PyProof.Rows
theorem forIn_yield_fold {α β : Type} {f : α->β->Sem (ForInStep β)} (g : β->α->β) : ∀ {l : List α} (c : β),(∀ x ∈ l,∀ c,f x c = pure (.yield (g c x)))->forIn l c f = pure (l.foldl g c)
 | [],_,_=>rfl
 | x :: l,c,h=>by
  rw [List.forIn_cons,h x List.mem_cons_self,pure_bind]
  exact forIn_yield_fold g (g c x) fun y hy=>h y (List.mem_cons_of_mem _ hy)
def clOf (env : Env) (names : List (Str × NameKind)) : List (Str × Addr) :=
 names.foldl (fun cs y=>if y.2 == .free then (y.1,(env.cells.lookup y.1).getD 0) :: cs else cs) []
theorem closure_of {scope : Scope} {env : Env} (h : ∀ y ∈ scope.names,y.2 = .free->∃ c,env.cells.lookup y.1 = some c) : closureFor scope env = pure (clOf env scope.names):=by
 simp only [closureFor]
 rw [forIn_yield_fold (fun cs y=>if y.2 == .free then (y.1,(env.cells.lookup y.1).getD 0) :: cs else cs) [] (fun x hx c=>by
  obtain ⟨n,kind⟩:=x
  cases e : (kind == NameKind.free) with
  | false=>simp only [e,Bool.false_eq_true,if_false]
  | true =>
   obtain ⟨a,ha⟩:=h (n,kind) hx (by simpa using e)
   have ha' : env.cells.lookup n = some a:=ha
   simp only [e,if_true,cellOf,ha',Option.getD_some]
   rfl)]
 rfl
theorem clOf_inv {env : Env} (P : List (Str × Addr)->Prop) : ∀ (names : List (Str × NameKind)) (cs : List (Str × Addr)),P cs->(∀ y ∈ names,∀ cs,P cs->P (if y.2 == .free then (y.1,(env.cells.lookup y.1).getD 0) :: cs else cs)) ->
  P (names.foldl (fun cs y=>if y.2 == .free then (y.1,(env.cells.lookup y.1).getD 0) :: cs else cs) cs)
 | [],_,h,_=>h
 | y :: r,cs,h,k=>by
  rw [List.foldl_cons]
  exact clOf_inv P r _ (k y List.mem_cons_self cs h) fun z hz=>k z (List.mem_cons_of_mem _ hz)
theorem clOf_sub {env : Env} {names : List (Str × NameKind)} (h : ∀ y ∈ names,y.2 = .free->∃ c,env.cells.lookup y.1 = some c) {n : Str} {c : Addr} (e : (clOf env names).lookup n = some c) : env.cells.lookup n = some c:=by
 have q : ∀ n c,(clOf env names).lookup n = some c->env.cells.lookup n = some c:=clOf_inv (fun cs=>∀ n c,cs.lookup n = some c->env.cells.lookup n = some c) names [] (fun _ _ z=>by simp at z) fun y hy cs ih n c z=>by
  cases e : (y.2 == NameKind.free) with
  | false=>rw [e] at z;exact ih n c z
  | true =>
   rw [e,if_pos rfl] at z
   obtain ⟨a,ha⟩:=h y hy (by simpa using e)
   rw [ha,Option.getD_some] at z
   rw [List.lookup_cons] at z
   cases e2 : (n == y.1) with
   | false=>rw [e2] at z;exact ih n c z
   | true =>
    rw [e2] at z
    have e3 : n = y.1:=by simpa using e2
    rw [e3,ha]
    exact z
 exact q n c e
theorem clOf_has {env : Env} {names : List (Str × NameKind)} {n : Str} (h : (n,NameKind.free) ∈ names) : ∃ c,(clOf env names).lookup n = some c:=by
 have gen : ∀ (names : List (Str × NameKind)) (cs : List (Str × Addr)),((n,NameKind.free) ∈ names\/∃ c,cs.lookup n = some c)->∃ c,(names.foldl (fun cs y=>if y.2 == .free then (y.1,(env.cells.lookup y.1).getD 0) :: cs else cs) cs).lookup n = some c:=by
  intro names
  induction names with
  | nil=>intro cs z;exact z.elim (fun z=>by simp at z) id
  | cons y r ih =>
   intro cs z
   rw [List.foldl_cons]
   refine ih _ ?_
   rcases z with z | ⟨c,z⟩
   ·rcases List.mem_cons.mp z with z | z
    ·subst z
     exact .inr ⟨(env.cells.lookup n).getD 0,by simp⟩
    ·exact .inl z
   ·refine .inr ?_
    split
    ·rw [List.lookup_cons]
     cases n == y.1 with
     | false=>exact ⟨c,z⟩
     | true=>exact ⟨_,rfl⟩
    ·exact ⟨c,z⟩
 exact gen names [] (.inl h)
theorem lookup_relabel {env : Env} {x : Str} : ∀ {names : List (Str × NameKind)},
  (names.map fun (n,k)=>if (k == NameKind.free && env.scope.kind == .function && env.kindOf n == some .cell) then (n,NameKind.cell) else (n,k)).lookup x =
   (names.lookup x).map fun k=>if (k == NameKind.free && env.scope.kind == .function && env.kindOf x == some .cell) then NameKind.cell else k
 | []=>rfl
 | (n,k) :: r=>by
  have ih := @lookup_relabel env x r
  show List.lookup x ((if (k == NameKind.free && env.scope.kind == .function && env.kindOf n == some .cell) = true then (n,NameKind.cell) else (n,k)) :: _) = _
  cases hx : x == n with
  | true =>
   have e : x = n:=by simpa using hx
   subst e
   by_cases hc : (k == NameKind.free && env.scope.kind == .function && env.kindOf x == some .cell) = true
   ·rw [if_pos hc];simp only [List.lookup_cons,beq_self_eq_true,Option.map_some];rw [if_pos hc]
   ·rw [if_neg hc];simp only [List.lookup_cons,beq_self_eq_true,Option.map_some];rw [if_neg hc]
  | false =>
   by_cases hc : (k == NameKind.free && env.scope.kind == .function && env.kindOf n == some .cell) = true
   ·rw [if_pos hc];simp only [List.lookup_cons,hx];exact ih
   ·rw [if_neg hc];simp only [List.lookup_cons,hx];exact ih
structure CompScope (env : Env) (scope : Scope) : Prop where
 kind : scope.kind = .function
 cell : ∀ y ∈ scope.names,y.2 ≠ .cell
 loc : ∀ y ∈ scope.names,y.2 = .local->scope.names.lookup y.1 = some .local
 free : ∀ y ∈ scope.names,y.2 = .free->env.scope.names.lookup y.1 = some .cell\/env.scope.names.lookup y.1 = some .free
abbrev compCx (X : Cx) (scope : Scope) (Nc : List Str) (C : Addr) (s₂ : Shared) (H₂ : Hp) (ex : List Addr) : Cx where
 prog:=X.prog
 w:=X.w
 K:=X.K
 mg:=X.mg
 base:=X.base
 A:=X.A
 N:=Nc
 s₀:=s₂
 H₀:=H₂
 env:=compEnvC scope (clOf X.env scope.names) C X.env
 outer:=X.stack
 stack:=X.stack
 ex:=ex
 fn:=fun _=>false
 calm:=true
 pn:=[]
 xe:=fun _ _=>False
section
variable {X : Cx}
def compSt (k : Nat) (js : List Nat) (σ : St) : St:=List.replicate k none ++ js.map fun j=>(σ[j]?).getD none
theorem comp_get {k : Nat} {js : List Nat} {σ : St} {i : Nat} {v : V} (h : (compSt k js σ)[i]? = some (some v)) : ∃ t j,i = k + t/\js[t]? = some j/\σ[j]? = some (some v):=by
 unfold compSt at h
 by_cases hi : i < k
 ·rw [List.getElem?_append_left (by simpa using hi),List.getElem?_replicate,if_pos hi] at h
  cases h
 ·rw [List.getElem?_append_right (by simpa using hi),List.length_replicate,List.getElem?_map] at h
  cases e : js[i - k]? with
  | none=>rw [e] at h;cases h
  | some j =>
   rw [e] at h
   have h' : (σ[j]?).getD none = some v:=Option.some.inj h
   refine ⟨i - k,j,by omega,e,?_⟩
   cases e2 : σ[j]? with
   | none=>rw [e2] at h';cases h'
   | some o=>rw [e2] at h';exact congrArg some h'
theorem compSt_len {k : Nat} {js : List Nat} {σ : St} : (compSt k js σ).length = k + js.length:=by
 unfold compSt
 rw [List.length_append,List.length_replicate,List.length_map]
theorem inv_comp {pins : List (Addr × Obj)} {σ : St} {H : Hp} {s s4 : Shared} {scope : Scope} {Nc : List Str} {k : Nat} {js : List Nat} {C : Addr} {fp : List Addr} (I : Inv X pins σ H s) (hc : X.calm = true) (S : CompScope X.env scope)
  (hjs : (Nc.drop k).map some = js.map (X.N[·]?)) (hfr : ∀ x ∈ Nc.drop k,scope.names.lookup x = some .free) (hk : k <= Nc.length)
  (hfp : ∀ b ∈ fp,FpOk X pins H b) (hlt : ∀ b ∈ fp,b < s.heap.objs.size) (hC : s.heap.objs.size <= C) (hn : s4.heap.Ns C fun _=>none) (hkeep : ∀ b o,s.heap.get? b = some o->s4.heap.get? b = some o)
  (ho : s4.os = s.os) (hg : s4.gens = s.gens) : Inv (compCx X scope Nc C s H fp) [] (compSt k js σ) H s4:=by
 have fr : ∀ y ∈ scope.names,y.2 = .free->∃ c,X.env.cells.lookup y.1 = some c:=fun y hy e=>I.ok.has y.1 (S.free y hy e)
 have kinds : ∀ x,(relabel scope X.env).names.lookup x = some .cell\/(relabel scope X.env).names.lookup x = some .free->(x,NameKind.free) ∈ scope.names:=fun x hx=>by
  have q : (relabel scope X.env).names.lookup x = (scope.names.lookup x).map fun k=>if (k == NameKind.free && X.env.scope.kind == .function && X.env.kindOf x == some .cell) then NameKind.cell else k:=lookup_relabel
  cases e : scope.names.lookup x with
  | none=>rw [q,e] at hx;rcases hx with z | z <;> cases z
  | some kd =>
   have mem:=PySem.mem_of_lookup e
   cases kd with
   | free=>exact mem
   | cell=>exact absurd rfl (S.cell _ mem)
   | _=>rw [q,e] at hx;rcases hx with z | z <;> cases z
 have lenJ : js.length = Nc.length - k:=by
  have:=congrArg List.length hjs
  simpa using this.symm
 refine ⟨⟨I.ok.mod,S.kind,I.ok.glob,I.ok.blt,hC,fun x y c h1 h2=>I.ok.inj x y c (clOf_sub fr h1) (clOf_sub fr h2),fun x hx=>clOf_has (kinds x hx),fun x c z=>(by cases z),fun _=>I.ok.hd hc,I.ok.frames,.inl rfl,fun b hb=>⟨?_,fun x c e=>?_⟩,I.bs,Nat.le_trans I.ok.bsz I.sz,fun b o e hb=>?_,fun b hb z=>?_,I.stack,I.stkFree⟩,
  ho,?_,Un.kept hkeep,⟨_,hn,fun i x v e1 e2 e3=>?_⟩,fun x c e=>?_,I.hok.fresh hC,fun x c e=>I.freeC x c (clOf_sub fr e),fun p hp=>absurd (show p ∈ ([] : List (Addr × Obj)) from hp) (by simp),I.hok.kept hkeep,?_⟩
 ·exact Nat.ne_of_lt (Nat.lt_of_lt_of_le (hlt b hb) hC)
 ·exact (hfp b hb).2.2.2.2.1 x c (clOf_sub fr e)
 ·rcases (hfp b hb).2.2.2.1 with z | z
  ·exact I.ok.noex b o e z
  ·exact absurd (Nat.lt_of_lt_of_le (Heap.lt_size e) (Nat.le_trans I.ok.bsz z)) (Nat.lt_irrefl _)
 ·rcases List.mem_cons.mp (I.stkSub b z) with z | z
  ·exact (hfp b hb).2.1 z
  ·exact (hfp b hb).2.2.1 z
 ·rw [hg];exact ⟨I.bare.1,Nat.le_refl _⟩
 ·obtain ⟨t,j,rfl,hj,hv⟩:=comp_get e2
  have ex : X.N[j]? = some x:=by
   have q:=congrArg (fun l=>l[t]?) hjs
   simp only [List.getElem?_map,List.getElem?_drop,hj,Option.map_some] at q
   have e1' : Nc[k + t]? = some x:=e1
   rw [e1'] at q
   exact (Option.some.inj q).symm
  have hx : scope.names.lookup x = some .free:=hfr x (by
   have : (Nc.drop k)[t]? = some x:=by rw [List.getElem?_drop];exact e1
   exact List.mem_of_getElem? this)
  have kx:=S.free (x,.free) (PySem.mem_of_lookup hx) rfl
  obtain ⟨m,_,hl⟩:=I.loc
  obtain ⟨u,r,l⟩:=hl j x v ex hv (.inr kx)
  obtain ⟨c',hc'⟩:=clOf_has (env:=X.env) (PySem.mem_of_lookup hx)
  have q : (relabel scope X.env).names.lookup x = (scope.names.lookup x).map fun k=>if (k == NameKind.free && X.env.scope.kind == .function && X.env.kindOf x == some .cell) then NameKind.cell else k:=lookup_relabel
  refine ⟨u,r,.inr ⟨?_,c',hc',?_⟩⟩
  ·show (relabel scope X.env).names.lookup x = some .cell\/(relabel scope X.env).names.lookup x = some .free
   rw [q,hx,Option.map_some]
   split
   ·exact .inl rfl
   ·exact .inr rfl
  ·rcases l with ⟨k1,_⟩ | ⟨_,c,hcc,z⟩
   ·have k1' : X.env.scope.names.lookup x = some .local:=k1
    have kx' : X.env.scope.names.lookup x = some .cell\/X.env.scope.names.lookup x = some .free:=kx
    rw [k1'] at kx'
    rcases kx' with z | z <;> cases z
   ·have e : c = c':=by
     have:=clOf_sub fr hc'
     rw [hcc] at this
     exact Option.some.inj this
    subst e
    exact z.keeps hkeep
 ·obtain ⟨v,z⟩:=I.cell x c (clOf_sub fr e)
  exact ⟨v,z.keeps hkeep⟩
 ·rw [compSt_len]
  show _ = Nc.length
  omega
def PTs (X : Cx) (ifs : List Expr) (t : TT) : Prop :=
  ∀ (pins : List (Addr × Obj)) (s : Shared) (σ : St) (H : Hp) (Q : Bool → Hp → Prop), Inv X pins σ H s → t σ H Q →
    wpAny (model X.prog X.w) X.A (forIn ifs true fun c r => if r = true then do let ok ← isTrue c X.env (eval c X.env); pure (ForInStep.yield ok) else pure (ForInStep.yield r)) (TP X pins σ Q) X.xe s
def tYes : TT:=fun _ H Q=>Q true H
theorem pts_nil : PTs X [] tYes:=fun _ _ _ H _ I h=>wpAny_tests_nil ⟨H,I,h⟩
theorem pts_one {c : Expr} {t : TT} (h : PT X c t) : PTs X [c] t:=fun pins s σ H Q I q=>wpAny_tests_one (h pins s σ H Q I q)
def GOwn (k : Nat) (g : TG) : Prop := ∀ x σ H Q,k <= σ.length->g x σ H Q->g x σ H fun σ2 H2=>Q σ2 H2/\σ2.length = σ.length/\∀ j,k <= j->σ2[j]? = σ[j]?
def GsOwn (k : Nat) (g : TGs) : Prop := ∀ x σ H Q,k <= σ.length->g x σ H Q->g x σ H fun σ2 H2=>Q σ2 H2/\σ2.length = σ.length/\∀ j,k <= j->σ2[j]? = σ[j]?
theorem gown_name {i k : Nat} (h : i < k) : GOwn k (gName i):=fun x σ H Q _ q=>⟨q,by simp,fun j hj=>List.getElem?_set_ne (by omega)⟩
theorem gsown_nil {k : Nat} : GsOwn k gNil:=fun x σ H Q _ ⟨e,q⟩=>⟨e,q,rfl,fun _ _=>rfl⟩
theorem gsown_cons {i k : Nat} {gs : TGs} (h1 : i < k) (h2 : GsOwn k gs) : GsOwn k (gCons (gName i) gs):=by
 rintro x σ H Q hl ⟨v,r,rfl,q⟩
 refine ⟨v,r,rfl,?_⟩
 show gs r (σ.set i (some v)) H _
 have q':=h2 r (σ.set i (some v)) H Q (by simpa using hl) q
 have e : (fun (σ2 : St) (H2 : Hp)=>Q σ2 H2/\σ2.length = (σ.set i (some v)).length/\∀ j,k <= j->σ2[j]? = (σ.set i (some v))[j]?) = fun σ2 H2=>Q σ2 H2/\σ2.length = σ.length/\∀ j,k <= j->σ2[j]? = σ[j]? := by
  funext σ2 H2
  rw [List.length_set]
  refine congrArg (Q σ2 H2/\·) (congrArg (σ2.length = σ.length/\·) ?_)
  refine forall_congr fun j=>?_
  refine propext ⟨fun z hj=>?_,fun z hj=>?_⟩
  ·rw [z hj,List.getElem?_set_ne (by omega)]
  ·rw [z hj,List.getElem?_set_ne (by omega)]
 rw [e] at q'
 exact q'
theorem gown_tup {K : PySem.W.Frag} {n k : Nat} {gs : TGs} (h : GsOwn k gs) : GOwn k (gTup K n gs):=by
 rintro x σ H Q hl ⟨a,xs,rfl,hq,hn,q⟩
 exact ⟨a,xs,rfl,hq,hn,h xs σ H Q hl q⟩
def LComp (J : It) (g : TG) (tt : TT) (te : TE) (σc : St) (Q : VK) (H1 : Hp) : Prop := ∃ W : Nat->Nat->List V->Hp->Prop,(∃ m,W 0 m [] H1)/\∀ i m xs H,W i m xs H ->
 (J.stop i H/\∀ p,H p = none->Q (.ref p) (upd H p (.lst xs))) \/
 (J.go i H/\∀ x H',J.yld i H x H'->g x σc H' fun σ2 H2=>tt σ2 H2 fun b H3=>if b = true then te σ2 H3 fun v H4=>xs.length < sizeLine/\∃ m',m' < m/\W (i + 1) m' (xs ++ [v]) H4 else ∃ m',m' < m/\W (i + 1) m' xs H3)
def tLComp (k : Nat) (js : List Nat) (wi : TI) (g : TG) (tt : TT) (te : TE) : TE:=fun σ H Q=>wi σ H fun J H1=>LComp J g tt te (compSt k js σ) Q H1
end
end L2
end

section
set_option Elab.async false
set_option linter.all false
set_option maxRecDepth 100000
namespace L2
open PySem PySem.Spec PyProof.Rows
section
variable {X : Cx}
theorem compLoop_any {prog : Program} {w : World} {A : Around} {R : Result → Shared → Prop} {s : Shared} {elt target iter : Expr} {ifs : List Expr} {scope : Scope} {pos : Pos} {it acc : Value} {env : Env} (I : Nat → Shared → Prop)
    (turn : ∀ n s, I n s → wpAny (model prog w) A (pyNext it) (fun r s₁ => match r with
      | none => R (.ok .next) s₁
      | some v => wpAny (model prog w) A (letOwnedTupleGo target it v) (fun _ s₁' => wpAny (model prog w) A (assign target env v) (fun _ s₂ =>
          wpAny (model prog w) A (forIn ifs true fun c r => if r = true then do let ok ← isTrue c env (eval c env); pure (ForInStep.yield ok) else pure (ForInStep.yield r)) (fun ok s₃ =>
            if ok = true then wpAny (model prog w) A (eval elt env) (fun x s₄ =>
              wpAny (model prog w) A (call (.builtin "list.append") [acc, x]) (fun _ s₅ => ∃ m, m < n ∧ I m s₅) (fun _ _ => False) s₄) (fun _ _ => False) s₃
            else ∃ m, m < n ∧ I m s₃) (fun _ _ => False) s₂) (fun _ _ => False) s₁') (fun _ _ => False) s₁) (fun _ _ => False) s)
    (n : Nat) (h : I n s) :
    codeAny (model prog w) A (.compLoop (.ListComp elt [⟨target, iter, ifs, 0⟩] scope pos) 0 it acc env) R s := by
  refine codeAny_loop rfl I (fun n s hI => ?_) n h
  show wpAny _ A ((compTurn (.ListComp elt [⟨target, iter, ifs, 0⟩] scope pos) 0 it acc env).onRaise (fun x => do noteFrame x env; theTreesLotGoes x)) _ _ s
  refine wpAny_noted ?_
  rw [compTurn_list]
  refine wpAny_bind (wpAny_standAt (wpAny_bind (wpAny_mono (turn n s hI) (fun r s₁ h₁ => ?_) fun _ _ h' => h'.elim)))
  cases r with
  | none => exact wpAny_pure h₁
  | some v =>
    refine wpAny_bind (wpAny_mono h₁ (fun _ s₁' h₁' => ?_) fun _ _ h' => h'.elim)
    refine wpAny_bind (wpAny_mono h₁' (fun _ s₂ h₂ => wpAny_bind (wpAny_mono h₂ (fun ok s₃ h₃ => ?_) fun _ _ h' => h'.elim)) fun _ _ h' => h'.elim)
    cases ok with
    | false => exact wpAny_pure ⟨rfl, h₃⟩
    | true =>
      exact wpAny_bind (wpAny_bind (wpAny_mono h₃ (fun x s₄ h₄ => wpAny_bind (wpAny_mono h₄ (fun _ s₅ h₅ => wpAny_pure (wpAny_pure ⟨rfl, h₅⟩)) fun _ _ h' => h'.elim)) fun _ _ h' => h'.elim))
theorem comp_core {elt tg iter : Expr} {ifs : List Expr} {scope : Scope} {pos : Pos} {Nc : List Str} {k : Nat} {js : List Nat} {wi : TI} {g : TG} {tt : TT} {te : TE} (hc : X.calm = true) (S : CompScope X.env scope)
  (hjs : (Nc.drop k).map some = js.map (X.N[·]?)) (hfr : ∀ x ∈ Nc.drop k,scope.names.lookup x = some .free) (hk : k <= Nc.length) (hi : PI X tg iter wi)
  (hg : ∀ C s H ex,PG (compCx X scope Nc C s H ex) tg g) (gk : GOwn k g) (ht : ∀ C s H ex,PTs (compCx X scope Nc C s H ex) ifs tt) (he : ∀ C s H ex,PE (compCx X scope Nc C s H ex) elt te)
  {pins : List (Addr × Obj)} {s : Shared} {σ : St} {H : Hp} {Q : VK} (I : Inv X pins σ H s) (h : tLComp k js wi g tt te σ H Q) :
  wpAny (model X.prog X.w) X.A (eval iter X.env) (fun x s₁=>wpAny (model X.prog X.w) X.A (pyIter x) (fun itv s₂=>wpAny (model X.prog X.w) X.A (newList []) (fun acc s₃ =>
   wpAny (model X.prog X.w) X.A (newFunctionEnv scope X.env.globals (clOf X.env scope.names) [] X.env.qual none .none (some X.env)) (fun cenv s₄ =>
    codeAny (model X.prog X.w) X.A (.compStart (.ListComp elt [⟨tg,iter,ifs,0⟩] scope pos) 0 itv acc { cenv with scope:=relabel scope X.env })
     (fun r s'=>∃ fl D H' m,r = .ok fl/\acc = .ref D/\Inv X pins σ H' s'/\s'.heap.Ns cenv.locals m/\FpOk X pins H' cenv.locals/\Q (.ref D) H') s₄) X.xe s₃) X.xe s₂) X.xe s₁) X.xe s:=by
 refine thn (hi pins s σ H _ I h) fun v s1 h1=>thn h1 fun itv s2 h2=>?_
 obtain ⟨it,fp,tn,J,H2,e,I2,T,st2,f2,W,⟨m0,w0⟩,turn⟩:=h2
 subst e
 refine wpAny_newObj_type (wpAny_newFunctionEnv S.cell (by intro y hy;simp at hy) (fun h₁ hns₁ hsb₁=>?_) S.kind)
 dsimp only at hns₁ hsb₁ ⊢
 generalize hH3 : s2.heap.push { cls:=.type "list",dict:=none,data:=.seq ([] : List Value).toArray } = H3 at hns₁ hsb₁ ⊢
 have hC : H3.objs.size = s2.heap.objs.size + 1:=by rw [<- hH3,Heap.size_push]
 generalize eC : H3.objs.size = C at hns₁ hsb₁ hC ⊢
 generalize eD : s2.heap.objs.size = D at hC ⊢
 have hDC : D ≠ C:=by omega
 have hle : D <= C:=by omega
 have hlt' : D < C:=by omega
 have hltD : ∀ b o,s2.heap.get? b = some o->b < D:=fun b o e=>by rw [<- eD];exact Heap.lt_size e
 have keep : ∀ b o,s2.heap.get? b = some o->h₁.get? b = some o:=fun b o e=>hsb₁.extBut b o (Nat.ne_of_lt (Nat.lt_trans (hltD b o e) hlt')) (Heap.get?_push_of_some _ (hH3 ▸ Heap.get?_push_of_some _ e))
 have hD1 : ∃ nn,h₁.get? D = some { cls:=.type "list",data:=.seq (([] : List Value).toArray) nn } :=
  ⟨_,hsb₁.extBut _ _ hDC (Heap.get?_push_of_some _ (hH3 ▸ eD ▸ Heap.get?_push_size _ rfl))⟩
 have ltf : ∀ b ∈ fp,b < s2.heap.objs.size:=fun b hb=>by
  obtain ⟨o,e,_⟩:=T.obj 0 _ st2 b hb
  exact Heap.lt_size e
 have I4 : Inv (compCx X scope Nc C s2 H2 fp) [] (compSt k js σ) H2 { s2 with heap:=h₁,toks:=s2.toks + ([] : List (Str × Value)).length } :=
  inv_comp (s4:={ s2 with heap:=h₁,toks:=s2.toks + ([] : List (Str × Value)).length }) I2 hc S hjs hfr hk f2 ltf (by omega) hns₁ keep rfl rfl
 have frz : ∀ y ∈ scope.names,y.2 = .free->∃ c,X.env.cells.lookup y.1 = some c:=fun y hy e=>I2.ok.has y.1 (S.free y hy e)
 have Dcell : ∀ x c,(clOf X.env scope.names).lookup x = some c->c ≠ D:=fun x c e z=>by
  obtain ⟨v,q⟩:=I2.cell x c (clOf_sub frz e)
  have l:=q.lt
  rw [z,eD] at l
  exact Nat.lt_irrefl _ l
 have Dstk : D ∉ frs X.stack:=fun z=>by
  rcases List.mem_cons.mp (I2.stkSub D z) with z | z
  ·have l:=I2.lt
   rw [<- z,eD] at l
   exact Nat.lt_irrefl _ l
  ·exact I2.nofs (Nat.le_of_eq eD) z
 have Dfp : ∀ b ∈ fp,D ≠ b:=fun b hb z=>by have l:=ltf b hb;rw [<- z,eD] at l;exact Nat.lt_irrefl _ l
 have fpok : ∀ {H' : Hp} {o : Obj},(∀ b ∈ fp,H' b = none)->∀ b ∈ fp,FpOk (compCx X scope Nc C s2 H2 fp) [(D,o)] H' b:=fun {H' o} hn b hb=>by
  refine ⟨hn b hb,?_,?_,.inl hb,fun x c e=>(f2 b hb).2.2.2.2.1 x c (clOf_sub frz e),fun p hp=>?_⟩
  ·have l:=ltf b hb
   rw [eD] at l
   exact Nat.ne_of_lt (Nat.lt_trans l hlt')
  ·intro z
   rcases List.mem_cons.mp (I2.stkSub b z) with z | z
   ·exact (f2 b hb).2.1 z
   ·exact (f2 b hb).2.2.1 z
  ·have e : p = (D,o):=by simpa using hp
   subst e
   exact Dfp b hb
 have loop : codeAny (model X.prog X.w) X.A (.compLoop (.ListComp elt [⟨tg,iter,ifs,0⟩] scope pos) 0 (.ref it) (.ref D) (compEnvC scope (clOf X.env scope.names) C X.env))
   (fun r s'=>∃ fl D' H' m,r = .ok fl/\Value.ref D = .ref D'/\Inv X pins σ H' s'/\s'.heap.Ns C m/\FpOk X pins H' C/\Q (.ref D') H') { s2 with heap:=h₁,toks:=s2.toks + ([] : List (Str × Value)).length }:=by
  refine compLoop_any (fun n s'=>∃ (i : Nat) (xs : List V) (H' : Hp) (its : List Value) (nn : Nat),Inv (compCx X scope Nc C s2 H2 fp) [] (compSt k js σ) H' s'/\tn i s'.heap/\(∀ b ∈ fp,H' b = none)/\H' D = none /\
   s'.heap.get? D = some { cls:=.type "list",data:=.seq its.toArray nn }/\Vals xs its/\xs.length <= sizeLine/\W i n xs H') ?_ m0 ?_
  ·rintro n s3 ⟨i,xs,H3',its,nn,I3,st3,fr3,fD3,oD3,rv,hz,w3⟩
   have I3' : Inv (compCx X scope Nc C s2 H2 fp) [(D,{ cls:=.type "list",data:=.seq its.toArray nn })] (compSt k js σ) H3' s3:=I3.pins_of fun p hp=>by
    have e : p = (D,{ cls:=.type "list",data:=.seq its.toArray nn }):=by simpa using hp
    subst e
    refine ⟨oD3,fD3,hDC,Dstk,fun v z=>?_⟩
    cases z
   rcases turn i n xs H3' w3 with ⟨stop,qn⟩ | ⟨go,step⟩
   ·refine thn (T.done (compCx X scope Nc C s2 H2 fp) rfl rfl rfl rfl i _ s3 (compSt k js σ) H3' _ I3' (fpok fr3) st3 stop) fun r s4 ⟨hr,I5⟩=>?_
    subst hr
    obtain ⟨oD5,fD5,_⟩:=I5.pin (D,{ cls:=.type "list",data:=.seq its.toArray nn }) (by simp)
    obtain ⟨mC,nC,_⟩:=I5.loc
    have hu : Un (frs X.stack) fp H2 H3' s2.heap s4.heap:=I5.base
    have neD : ∀ b o,H3' b = some o->b ≠ D:=fun b o e=>ne_of_none e fD3
    have neDh : ∀ b o,s2.heap.get? b = some o->b ≠ D:=fun b o e=>Nat.ne_of_lt (hltD b o e)
    have hok' : HOk X.prog X.w (upd H3' D (.lst xs)) s4.heap:=fun b u e=>by
     by_cases hb : b = D
     ·subst hb
      rw [upd_same] at e
      cases e
      exact ⟨hz,its,nn,rv,oD5⟩
     ·rw [upd_ne hb] at e
      exact (I5.hok b u e).stay (fun c v _ q=>q) (fun c q=>by rw [upd_ne (neD c _ q)];exact q) fun c ys q=>by rw [upd_ne (neD c _ q)];exact q
    have hu' : Un (frs X.stack) fp H2 (upd H3' D (.lst xs)) s2.heap s4.heap:=⟨hu.keep,hu.slot,fun b o e n hx=>by rw [upd_ne (neDh b o e)];exact hu.free b o e n hx,hu.there,
     fun b ys e=>by rw [upd_ne (neD b _ (hu.tups b ys e))];exact hu.tups b ys e,fun b o u e=>by rw [upd_ne (neD b _ (hu.frzs b o u e))];exact hu.frzs b o u e,
     fun b ps e=>by obtain ⟨more,q⟩:=hu.tbls b ps e;exact ⟨more,by rw [upd_ne (neD b _ q)];exact q⟩⟩
    have IX : Inv X pins σ (upd H3' D (.lst xs)) s4:=I2.call' I5.os hu' hok' I5.bare fun b hb=>⟨(f2 b hb).2.2.2.1,(f2 b hb).2.1,(f2 b hb).2.2.2.2.1,(f2 b hb).2.2.2.2.2⟩
    refine ⟨_,D,_,mC,rfl,rfl,IX,nC,I2.fpOk (by omega) ?_,qn D fD3⟩
    rw [upd_ne (Ne.symm hDC)]
    exact I5.free
   ·refine thn (T.item (compCx X scope Nc C s2 H2 fp) rfl rfl rfl rfl i _ s3 (compSt k js σ) H3' _ I3' (fpok fr3) st3 go) fun r s4 ⟨u,hr,h4⟩=>?_
    subst hr
    refine thn h4 fun _ s5 ⟨x,H5,I5,r5,y5,st5,fr5⟩=>?_
    have I5':=I5.pinned (fpok fr5) (T.obj _ _ st5)
    have lenS : k <= (compSt k js σ).length:=by rw [compSt_len];omega
    refine thn (hg C s2 H2 fp _ s5 (compSt k js σ) H5 x u _ I5' r5 (gk _ _ _ _ lenS (step x H5 y5))) fun _ s6 ⟨σ6,H6,I6,q6,l6,a6⟩=>?_
    have weak6 : ∀ {H' : Hp} {s' : Shared} {ps : List (Addr × Obj)},Inv (compCx X scope Nc C s2 H2 fp) ps σ6 H' s'->Inv (compCx X scope Nc C s2 H2 fp) ps (compSt k js σ) H' s':=fun {H' s' ps} I'=>I'.weak l6.symm fun j v e=>by
     obtain ⟨t,j',rfl,_,_⟩:=comp_get e
     rw [a6 _ (Nat.le_add_right _ _)]
     exact e
    refine thn (ht C s2 H2 fp _ s6 σ6 H6 _ I6 q6) fun b s7 ⟨H7,I7,q7⟩=>?_
    have pinD : ∀ {H' : Hp} {s' : Shared},Inv (compCx X scope Nc C s2 H2 fp) ([(D,{ cls:=.type "list",data:=.seq its.toArray nn })] ++ pinsAt fp s5.heap) σ6 H' s'->s'.heap.get? D = some { cls:=.type "list",data:=.seq its.toArray nn }/\H' D = none:=fun {H' s'} I'=>by
     obtain ⟨e1,e2,_⟩:=I'.pin (D,{ cls:=.type "list",data:=.seq its.toArray nn }) (by simp)
     exact ⟨e1,e2⟩
    have pinF : ∀ {H' : Hp} {s' : Shared},Inv (compCx X scope Nc C s2 H2 fp) ([(D,{ cls:=.type "list",data:=.seq its.toArray nn })] ++ pinsAt fp s5.heap) σ6 H' s'->(∀ b ∈ fp,∀ o,s5.heap.get? b = some o->s'.heap.get? b = some o)/\∀ b ∈ fp,H' b = none:=fun {H' s'} I'=>by
     refine ⟨fun b hb o e=>(I'.pin (b,o) (List.mem_append_right _ (List.mem_append_right _ (mem_pinsAt hb e)))).1,fun b hb=>?_⟩
     obtain ⟨o,e,d⟩:=T.obj _ _ st5 b hb
     exact (I'.pin (b,o) (List.mem_append_right _ (List.mem_append_right _ (mem_pinsAt hb e)))).2.1
    cases b with
    | false =>
     obtain ⟨m',hm,w7⟩:=q7
     obtain ⟨d1,d2⟩:=pinD I7
     obtain ⟨p1,p2⟩:=pinF I7
     refine ⟨m',hm,i + 1,xs,H7,its,nn,weak6 (I7.pins_of fun p hp=>absurd (show p ∈ ([] : List (Addr × Obj)) from hp) (by simp)),T.keep _ _ _ st5 p1,p2,d2,d1,rv,hz,w7⟩
    | true =>
     refine thn (he C s2 H2 fp _ s7 σ6 H7 _ I7 q7) fun y s8 ⟨vv,H8,I8,r8,hz8,m',hm,w8⟩=>?_
     obtain ⟨d1,d2⟩:=pinD I8
     obtain ⟨p1,p2⟩:=pinF I8
     refine wpAny_list_append_plain (items:=its.toArray) ⟨nn,d1⟩ (fun h' ⟨nn',hp'⟩ hsb=>?_) (by have:=rv.length;rw [List.size_toArray];omega)
     have I8' : Inv (compCx X scope Nc C s2 H2 fp) [] (compSt k js σ) H8 s8:=weak6 (I8.pins_of fun p hp=>absurd (show p ∈ ([] : List (Addr × Obj)) from hp) (by simp))
     have I9 : Inv (compCx X scope Nc C s2 H2 fp) [] (compSt k js σ) H8 { s8 with heap:=h' }:=I8'.turned (it:=D) (t':=s8.toks) (fun b o hb e=>(hsb.2 b hb).trans e) d2 hDC (.inr (Nat.le_of_eq eD)) (fun x c e=>Dcell x c e) fun p hp=>absurd (show p ∈ ([] : List (Addr × Obj)) from hp) (by simp)
     refine ⟨m',hm,i + 1,xs ++ [vv],H8,its ++ [y],nn',I9,T.keep _ _ _ st5 (fun b hb o e=>(hsb.2 b (Ne.symm (Dfp b hb))).trans (p1 b hb o e)),p2,d2,?_,rv.append (.cons r8 .nil),?_,w8⟩
     ·rw [<- List.push_toArray]
      exact hp'
     ·rw [List.length_append,List.length_singleton]
      omega
  ·obtain ⟨nn,e⟩:=hD1
   exact ⟨0,[],H2,[],nn,I4,T.keep _ _ _ st2 (fun b _ o e=>keep b o e),fun b hb=>(f2 b hb).1,I2.hok.fresh (Nat.le_of_eq eD),e,.nil,Nat.zero_le _,w0⟩
 exact codeAny_compStart_list loop (wpAny_mono (T.self _ 0 _ _ (fun _ _=>False) (T.keep _ _ _ st2 fun b _ o e=>keep b o e) loop) (fun _ _ q=>q) fun _ _ z=>z.elim)
theorem pe_lcomp {elt tg iter : Expr} {ifs : List Expr} {scope : Scope} {pos : Pos} {Nc : List Str} {k : Nat} {js : List Nat} {wi : TI} {g : TG} {tt : TT} {te : TE} (hc : X.calm = true) (S : CompScope X.env scope)
  (hjs : (Nc.drop k).map some = js.map (X.N[·]?)) (hfr : ∀ x ∈ Nc.drop k,scope.names.lookup x = some .free) (hk : k <= Nc.length) (hi : PI X tg iter wi)
  (hg : ∀ C s H ex,PG (compCx X scope Nc C s H ex) tg g) (gk : GOwn k g) (ht : ∀ C s H ex,PTs (compCx X scope Nc C s H ex) ifs tt) (he : ∀ C s H ex,PE (compCx X scope Nc C s H ex) elt te)
  (hs : ∀ x,foldedSetIterable iter X.env x = pure x:=by intro _;rfl) : PE X (.ListComp elt [⟨tg,iter,ifs,0⟩] scope pos) (tLComp k js wi g tt te):=by
 intro pins s σ H Q I h
 rw [eval_ListComp]
 refine wpAny_comprehension_free (use:=none) rfl hs (closure_of fun y hy e=>I.ok.has y.1 (S.free y hy e)) S.kind S.loc (thn (comp_core hc S hjs hfr hk hi hg gk ht he I h) fun x s1 h1=>thn h1 fun itv s2 h2=>thn h2 fun acc s3 h3=>thn h3 fun cenv s4 h4=>codeAny_mono h4 fun r s' hr=>?_)
 obtain ⟨fl,D,H',m,rfl,rfl,I',nC,fC,q⟩:=hr
 refine ⟨m,nC,fun h' sb=>⟨.ref D,H',I'.turned (it:=cenv.locals) (t':=s'.toks) (fun b o hb e=>(sb.2 b hb).trans e) fC.1 fC.2.1 fC.2.2.2.1 fC.2.2.2.2.1 fC.2.2.2.2.2,rfl,q⟩⟩
theorem ps_setC {elt tg iter : Expr} {ifs : List Expr} {scope : Scope} {cpos pos pos' : Pos} {Nc : List Str} {k : Nat} {js : List Nat} {wi : TI} {g : TG} {tt : TT} {te : TE} {i : Nat} {x : Str} (hN : X.N.Nodup) (hxi : X.N[i]? = some x) (hx : Loc X.env.scope x) (hc : X.calm = true) (S : CompScope X.env scope)
    (hjs : (Nc.drop k).map some = js.map (X.N[·]?)) (hfr : ∀ x ∈ Nc.drop k, scope.names.lookup x = some .free) (hk : k ≤ Nc.length) (hi : PI X tg iter wi)
    (hg : ∀ C s H ex, PG (compCx X scope Nc C s H ex) tg g) (gk : GOwn k g) (ht : ∀ C s H ex, PTs (compCx X scope Nc C s H ex) ifs tt) (he : ∀ C s H ex, PE (compCx X scope Nc C s H ex) elt te)
    (hs : ∀ x, foldedSetIterable iter X.env x = pure x := by intro _; rfl) (hsw : swapsWith (.ListComp elt [⟨tg, iter, ifs, 0⟩] scope cpos) (some (.Name x pos')) pos.line X.env = pure true := by rfl)
    (hf : X.fn x = true ∨ X.env.scope.names.lookup x = some .local := by first | exact .inl rfl | exact .inr rfl | assumption) :
    PS X (.Assign [.Name x pos'] (.ListComp elt [⟨tg, iter, ifs, 0⟩] scope cpos) pos) (tAsg (tLComp k js wi g tt te) (gName i)) := by
  intro pins s σ H D I h
  rw [exec_Assign_Name_used _ _ _ _ hsw]
  refine wpAny_bind (wpAny_standAt (wpAny_bind ?_))
  show wpAny _ X.A (do let _ ← comprehension (.ListComp elt [⟨tg, iter, ifs, 0⟩] scope cpos) scope X.env _ (newList []) false (eval iter X.env) (some (assign (.Name x pos') X.env))) _ _ s
  refine wpAny_bind (wpAny_mono (wpAny_comprehension_free (use := some (assign (.Name x pos') X.env)) (Q := fun _ s' => SP X pins D .next s') rfl hs (closure_of fun y hy e => I.ok.has y.1 (S.free y hy e)) S.kind S.loc
    (thn (comp_core hc S hjs hfr hk hi hg gk ht he I h) fun xv s1 h1 => thn h1 fun itv s2 h2 => thn h2 fun acc s3 h3 => thn h3 fun cenv s4 h4 => codeAny_mono h4 fun r s' hr => ?_)) (fun _ s' hq => wpAny_pure (wpAny_pure hq)) fun _ _ e => e)
  obtain ⟨fl, Dl, H', m, rfl, rfl, I', nC, fC, q⟩ := hr
  show wpAny _ X.A (assign (.Name x pos') X.env (.ref Dl)) _ _ _
  refine wpAny_assign_Name (store_ok2 (v := .ref Dl) I' hN hxi hx rfl (fun s'' I'' ⟨a, sa, ha⟩ => ?_) hf)
  have na : cenv.locals ≠ a := by
    rcases ha with rfl | ha
    · exact fC.2.1
    · exact fun z => fC.2.2.2.2.1 x a ha z.symm
  refine ⟨m, nC.sameBut sa na, fun h' sb => ⟨_, H', I''.turned (it := cenv.locals) (t' := s''.toks) (fun b o hb e => (sb.2 b hb).trans e) fC.1 fC.2.1 fC.2.2.2.1 fC.2.2.2.2.1 fC.2.2.2.2.2, q⟩⟩
end
end L2
end

section
set_option Elab.async false
set_option linter.all false
set_option maxRecDepth 100000
namespace L2
open PySem PySem.Spec PyProof.Rows
abbrev genCx (X : Cx) (scope : Scope) (Nc : List Str) (C : Addr) (code : Value) (e : Expr) (it : Addr) (s₂ : Shared) (H₂ : Hp) (ex : List Addr) : Cx where
 prog:=X.prog
 w:=X.w
 K:=X.K
 mg:=X.mg
 base:=X.base
 A:=(X.A.in1.in1).over (.compLoop e 0 (.ref it) .none (genEnv scope (clOf X.env scope.names) C code builtinsNs X.env)) []
 N:=Nc
 s₀:=s₂
 H₀:=H₂
 env:=genEnv scope (clOf X.env scope.names) C code builtinsNs X.env
 outer:=X.stack
 stack:=genEnv scope (clOf X.env scope.names) C code builtinsNs X.env :: X.stack
 ex:=ex
 fn:=fun _=>false
 calm:=true
 pn:=[]
 xe:=fun _ _=>False
section
variable {X : Cx}
theorem Inv.setGens {pins : List (Addr × Obj)} {σ : St} {H : Hp} {s : Shared} {g' : Array GenState} (I : Inv X pins σ H s) (hg : GOk s.gens g') : Inv X pins σ H { s with gens:=g' } :=
 ⟨I.ok,I.os,⟨hg.1,Nat.le_trans I.bare.2 hg.2⟩,I.base,I.loc,I.cell,I.free,I.freeC,I.pin,I.hok,I.len⟩
theorem gok_set {gens : Array GenState} {g : Nat} {x : GenState} (h : AllBare gens) (hx : x.bare = true) : GOk gens (gens.setIfInBounds g x):=by
 refine ⟨fun y hy=>?_,by simp⟩
 rcases Array.mem_or_eq_of_mem_setIfInBounds hy with z | z
 ·exact h y z
 ·rw [z];exact hx
theorem genFrames {A : Around} {l : List Env} (h : A.frames = some l) {elt : Expr} {gens : List Comprehension} {scope : Scope} {pos : Pos} {it acc : Value} {env : Env} :
  ((A.in1.in1).over (.compLoop (.GeneratorExp elt gens scope pos) 0 it acc env) []).frames = some (env :: l):=by
 show pushEnvs [env] (pushEnvs [] A.frames) = _
 rw [h]
 rfl
structure GenScope (env : Env) (scope : Scope) : Prop where
 kind : scope.kind = .function
 co : scope.isCoroutine = false
 cell : ∀ y ∈ scope.names,y.2 ≠ .cell
 zero : scope.names.lookup (".0" : Str) = some .local
 free : ∀ y ∈ scope.names,y.2 = .free->env.scope.names.lookup y.1 = some .cell\/env.scope.names.lookup y.1 = some .free
theorem inv_gen {pins : List (Addr × Obj)} {σ : St} {H : Hp} {s s4 : Shared} {scope : Scope} {Nc : List Str} {k : Nat} {js : List Nat} {C it : Addr} {code : Value} {elt : Expr} {gens : List Comprehension} {pos : Pos} {fp : List Addr} {m0 : Str->Option Value} (I : Inv X pins σ H s) (hc : X.calm = true) (S : GenScope X.env scope)
  (hjs : (Nc.drop k).map some = js.map (X.N[·]?)) (hfr : ∀ x ∈ Nc.drop k,scope.names.lookup x = some .free) (hk : k <= Nc.length)
  (hfp : ∀ b ∈ fp,FpOk X pins H b) (hlt : ∀ b ∈ fp,b < s.heap.objs.size) (hC : s.heap.objs.size <= C) (hn : s4.heap.Ns C m0) (hkeep : ∀ b o,s.heap.get? b = some o->s4.heap.get? b = some o)
  (ho : s4.os = s.os) (hg : GOk s.gens s4.gens) : Inv (genCx X scope Nc C code (.GeneratorExp elt gens scope pos) it s H fp) [] (compSt k js σ) H s4:=by
 have fr : ∀ y ∈ scope.names,y.2 = .free->∃ c,X.env.cells.lookup y.1 = some c:=fun y hy e=>I.ok.has y.1 (S.free y hy e)
 have kinds : ∀ x,scope.names.lookup x = some .cell\/scope.names.lookup x = some .free->(x,NameKind.free) ∈ scope.names:=fun x hx=>by
  rcases hx with e | e
  ·exact absurd rfl (S.cell _ (PySem.mem_of_lookup e))
  ·exact PySem.mem_of_lookup e
 have lenJ : js.length = Nc.length - k:=by
  have:=congrArg List.length hjs
  simpa using this.symm
 refine ⟨⟨I.ok.mod,S.kind,I.ok.glob,rfl,hC,fun x y c h1 h2=>I.ok.inj x y c (clOf_sub fr h1) (clOf_sub fr h2),fun x hx=>clOf_has (kinds x hx),fun x c z=>(by cases z),fun _=>I.ok.hd hc,genFrames I.ok.frames,.inr ⟨rfl,rfl⟩,fun b hb=>⟨?_,fun x c e=>?_⟩,I.bs,Nat.le_trans I.ok.bsz I.sz,fun b o e hb=>?_,fun b hb z=>?_,I.stack,I.stkFree⟩,
  ho,hg,Un.kept hkeep,⟨_,hn,fun i x v e1 e2 e3=>?_⟩,fun x c e=>?_,I.hok.fresh hC,fun x c e=>I.freeC x c (clOf_sub fr e),fun p hp=>absurd (show p ∈ ([] : List (Addr × Obj)) from hp) (by simp),I.hok.kept hkeep,?_⟩
 ·exact Nat.ne_of_lt (Nat.lt_of_lt_of_le (hlt b hb) hC)
 ·exact (hfp b hb).2.2.2.2.1 x c (clOf_sub fr e)
 ·rcases (hfp b hb).2.2.2.1 with z | z
  ·exact I.ok.noex b o e z
  ·exact absurd (Nat.lt_of_lt_of_le (Heap.lt_size e) (Nat.le_trans I.ok.bsz z)) (Nat.lt_irrefl _)
 ·rcases List.mem_cons.mp (I.stkSub b z) with z | z
  ·exact (hfp b hb).2.1 z
  ·exact (hfp b hb).2.2.1 z
 ·obtain ⟨t,j,rfl,hj,hv⟩:=comp_get e2
  have ex : X.N[j]? = some x:=by
   have q:=congrArg (fun l=>l[t]?) hjs
   simp only [List.getElem?_map,List.getElem?_drop,hj,Option.map_some] at q
   have e1' : Nc[k + t]? = some x:=e1
   rw [e1'] at q
   exact (Option.some.inj q).symm
  have hx : scope.names.lookup x = some .free:=hfr x (by
   have : (Nc.drop k)[t]? = some x:=by rw [List.getElem?_drop];exact e1
   exact List.mem_of_getElem? this)
  have kx:=S.free (x,.free) (PySem.mem_of_lookup hx) rfl
  obtain ⟨m,_,hl⟩:=I.loc
  obtain ⟨u,r,l⟩:=hl j x v ex hv (.inr kx)
  obtain ⟨c',hc'⟩:=clOf_has (env:=X.env) (PySem.mem_of_lookup hx)
  refine ⟨u,r,.inr ⟨.inr hx,c',hc',?_⟩⟩
  rcases l with ⟨k1,_⟩ | ⟨_,c,hcc,z⟩
  ·have k1' : X.env.scope.names.lookup x = some .local:=k1
   have kx' : X.env.scope.names.lookup x = some .cell\/X.env.scope.names.lookup x = some .free:=kx
   rw [k1'] at kx'
   rcases kx' with z | z <;> cases z
  ·have e : c = c':=by
    have:=clOf_sub fr hc'
    rw [hcc] at this
    exact Option.some.inj this
   subst e
   exact z.keeps hkeep
 ·obtain ⟨v,z⟩:=I.cell x c (clOf_sub fr e)
  exact ⟨v,z.keeps hkeep⟩
 ·rw [compSt_len]
  show _ = Nc.length
  omega
def TabAt (H : Hp) (P : Addr) (ps : Array Value) : Prop:=H P = some (.tbl ps)/\TriplesOk ps.toList
theorem Inv.table {pins : List (Addr × Obj)} {σ : St} {H : Hp} {s : Shared} {P : Addr} {ps more : Array Value} {h' : Heap} {t' : Nat} (I : Inv X pins σ H s) (hP : H P = some (.tbl ps)) (hx : Heap.ExtBut P s.heap h') (hp : h'.get? P = some { cls:=.none,data:=.fields (ps ++ more) }) :
  Inv X pins σ (upd H P (.tbl (ps ++ more))) { s with heap:=h',toks:=t' }:=by
 have ne : ∀ b o,H b = some o->(∀ q,o ≠ .tbl q)->b ≠ P:=fun b o e n z=>by
  subst z
  rw [hP] at e
  exact n ps (Option.some.inj e).symm
 have ne0 : ∀ b,H b = none->b ≠ P:=fun b n z=>by subst z;rw [hP] at n;cases n
 refine I.un ⟨fun b o e n _ _=>hx b o (ne0 b n) e,fun b o e n _ _=>⟨o.slots,hx b o (ne0 b n) e⟩,fun b o e n _=>by rw [upd_ne (ne0 b n)];exact n,fun b o e _=>?_,fun b xs e=>by rw [upd_ne (ne b _ e (by intro q z;cases z))];exact e,
  fun b o u e=>by rw [upd_ne (ne b _ e (by intro q z;cases z))];exact e,fun b qs e=>?_⟩ fun b u e=>?_
 ·by_cases hb : b = P
  ·subst hb;exact ⟨_,hp⟩
  ·exact ⟨o,hx b o hb e⟩
 ·by_cases hb : b = P
  ·subst hb
   rw [hP] at e;cases e
   exact ⟨more,upd_same⟩
  ·exact ⟨#[],by rw [upd_ne hb,e];simp⟩
 ·by_cases hb : b = P
  ·subst hb
   rw [upd_same] at e;cases e
   exact hp
  ·rw [upd_ne hb] at e
   refine (I.hok b u e).stay (fun c v hc q=>hx c v ?_ q) (fun c q=>by rw [upd_ne (ne c _ q (by intro q z;cases z))];exact q) fun c ys q=>by rw [upd_ne (ne c _ q (by intro q z;cases z))];exact q
   rcases hc with z | z
   ·rw [z];exact hb
   ·exact ne c _ z (by intro q z;cases z)
theorem gen_code {pins : List (Addr × Obj)} {σ : St} {H : Hp} {s : Shared} {E : Value->Shared->Prop} {env : Env} {c P : Addr} {ps : Array Value} {pos : Pos} {qualname : Str} {scope : Scope} {Q : Value->Shared->Prop} (I : Inv X pins σ H s) (hc : env.code = .ref c) (hd : PySem.W.CodeHd X.base c P) (hP : TabAt H P ps)
  (hQ : ∀ code s' more,Inv X pins σ (upd H P (.tbl (ps ++ more))) s'->TriplesOk (ps ++ more).toList->s'.gens = s.gens->s'.os = s.os->s.heap.objs.size <= s'.heap.objs.size->Heap.ExtBut P s.heap s'.heap->Q code s') : wpAny (model X.prog X.w) X.A (genexprCode env pos qualname scope) Q E s:=by
 have hd' : PySem.W.CodeHd s.heap c P:=hd.keeps fun b o e=>(I.bs b o e).1
 have hop : s.heap.get? P = some (PySem.W.tabObj ps):=I.hok P _ hP.1
 have hcode:=hd'.code hop hP.2
 have htab:=hd'.tab hop
 cases hnf : codeAmong pos ps.toList with
 | none =>
  refine wpAny_genexprCodeX hc hcode htab hnf fun c' h' tk hx h1 h2 hc3 _ ht3 _=>?_
  refine hQ _ { s with heap:=h',toks:=tk } _ (I.table hP.1 hx ht3.2) ?_ rfl rfl (Nat.le_trans h1 (Nat.le_of_lt h2)) hx
  obtain ⟨_,_,_,_,_,_,_,_,_,_,_,_,_,_,_,_,_,_,_,tr,_⟩:=hc3
  exact tr
 | some cv =>
  obtain ⟨o,vs,file,tf,flags,tg,inF,text,tt,op,ho,hdd,h11,h2,h7,h9,h10,hop',hpd,htr,hne⟩:=id hcode
  unfold genexprCode codeAt
  rw [hc,if_neg (show ¬ ((Value.ref c == Value.none) = true) from Bool.false_ne_true)]
  refine wpAny_bind (wpAny_fieldsOf ho hdd ?_)
  rw [h11]
  refine wpAny_bind (wpAny_fieldsOf hop' hpd ?_)
  rw [hnf]
  refine wpAny_pure (hQ cv s #[] ?_ (by simpa using hP.2) rfl rfl (Nat.le_refl _) (Heap.ExtBut.refl _ _))
  have e : upd H P (.tbl (ps ++ #[])) = H:=by
   funext b
   by_cases hb : b = P
   ·subst hb;rw [upd_same,hP.1];simp
   ·rw [upd_ne hb]
  rw [e]
  exact I
end
end L2
end

section
set_option Elab.async false
set_option linter.all false
set_option maxRecDepth 100000
namespace L2
open PySem PySem.Spec PyProof.Rows
section
variable {Xg : Cx} {A : Around} {elt tg iter : Expr} {ifs : List Expr} {scope : Scope} {pos : Pos} {it : Addr} {J : It} {fp : List Addr} {tn : Nat->Heap->Prop} {g : TG} {tt : TT} {te : TE} {k : Nat} {σg : St} {pa : List (Addr × Obj)}
end
section
variable {prog : Program} {w : World} {A : Around} {a : Addr} {gi : Nat}
end
def BltMod (mg : Str->Option Value) (base : Heap) : Prop := ∃ bm ob,mg "__builtins__" = some (.ref bm)/\bm ≠ builtinsNs/\base.get? bm = some ob/\ob.cls = .type "module"/\ob.dict = some builtinsNs/\ob.data = .plain
section
variable {X : Cx}
end
end L2
end

section
set_option Elab.async false
set_option linter.all false
set_option maxRecDepth 100000
namespace L2
open PySem PySem.Spec PyProof.Rows
mutual
def IsD (ex : List Addr) (H : Hp) : PyData->V->Prop
 | .none,v=>v = .non
 | .bool b,v=>v = .bl b
 | .int i,v=>v = .int i
 | .str x,v=>v = .str x
 | .tuple ds,v=>∃ a vs,v = .ref a/\a ∉ ex/\H a = some (.tup vs)/\IsDs ex H ds vs
 | .list ds,v=>∃ a vs,v = .ref a/\a ∉ ex/\H a = some (.lst vs)/\IsDs ex H ds vs
 | .dict _,_=>False
def IsDs (ex : List Addr) (H : Hp) : List PyData->List V->Prop
 | [],vs=>vs = []
 | d :: ds,vs=>∃ v r,vs = v :: r/\IsD ex H d v/\IsDs ex H ds r
end
structure Ext (ex : List Addr) (H H' : Hp) : Prop where
 old : ∀ b o,b ∉ ex->H b = some o->(∀ ps,o ≠ .tbl ps)->H' b = some o
 tab : ∀ b ps,b ∉ ex->H b = some (.tbl ps)->∃ ps',H' b = some (.tbl ps')/\(TriplesOk ps.toList->TriplesOk ps'.toList)
theorem Ext.refl {ex : List Addr} {H : Hp} : Ext ex H H:=⟨fun _ _ _ h _=>h,fun _ ps _ h=>⟨ps,h,id⟩⟩
theorem Ext.trans {ex : List Addr} {H H1 H2 : Hp} (a : Ext ex H H1) (b : Ext ex H1 H2) : Ext ex H H2 :=
 ⟨fun c o hc h n=>b.old c o hc (a.old c o hc h n) n,fun c ps hc h=>by
  obtain ⟨p1,h1,t1⟩:=a.tab c ps hc h
  obtain ⟨p2,h2,t2⟩:=b.tab c p1 hc h1
  exact ⟨p2,h2,fun z=>t2 (t1 z)⟩⟩
theorem Ext.mono {ex ex' : List Addr} {H H' : Hp} (a : Ext ex H H') (h : ∀ b ∈ ex,b ∈ ex') : Ext ex' H H':=⟨fun c o hc=>a.old c o fun z=>hc (h c z),fun c ps hc=>a.tab c ps fun z=>hc (h c z)⟩
theorem Ext.free {ex : List Addr} {H H' : Hp} (a : Ext ex H H') {l : Addr} (hx : l ∉ ex) (h : H' l = none) : H l = none:=by
 cases q : H l with
 | none=>rfl
 | some o =>
  cases o with
  | tbl ps =>
   obtain ⟨p',h',_⟩:=a.tab l ps hx q
   rw [h] at h';cases h'
  | _=>rw [a.old l _ hx q (by intro ps z;cases z)] at h;cases h
theorem Ext.new {ex : List Addr} {H : Hp} {p : Addr} (h : H p = none) (o : HO) : Ext ex H (upd H p o) :=
 ⟨fun b u _ q _=>by rw [upd_ne (ne_of_none q h)];exact q,fun b ps _ q=>⟨ps,by rw [upd_ne (ne_of_none q h)];exact q,id⟩⟩
theorem Ext.put {ex : List Addr} {H : Hp} {p : Addr} (h : p ∈ ex) (o : HO) : Ext ex H (upd H p o) :=
 ⟨fun b u hb q _=>by rw [upd_ne (fun z : b = p=>hb (z ▸ h))];exact q,fun b ps hb q=>⟨ps,by rw [upd_ne (fun z : b = p=>hb (z ▸ h))];exact q,id⟩⟩
theorem Ext.tbl {ex : List Addr} {H : Hp} {p : Addr} {ps ps' : Array Value} (h : H p = some (.tbl ps)) (t : TriplesOk ps'.toList) : Ext ex H (upd H p (.tbl ps')):=by
 refine ⟨fun b u _ q n=>?_,fun b qs _ q=>?_⟩
 ·rw [upd_ne]
  ·exact q
  ·rintro rfl
   rw [h] at q
   exact n ps (Option.some.inj q).symm
 ·by_cases hb : b = p
  ·subst hb
   exact ⟨ps',upd_same,fun _=>t⟩
  ·exact ⟨qs,by rw [upd_ne hb];exact q,id⟩
theorem Ext.lst {ex : List Addr} {H H' : Hp} (a : Ext ex H H') {p : Addr} {xs : List V} (hp : p ∉ ex) (h : H p = some (.lst xs)) : H' p = some (.lst xs):=a.old p _ hp h (by intro ps z;cases z)
theorem Ext.tup {ex : List Addr} {H H' : Hp} (a : Ext ex H H') {p : Addr} {xs : List V} (hp : p ∉ ex) (h : H p = some (.tup xs)) : H' p = some (.tup xs):=a.old p _ hp h (by intro ps z;cases z)
def Tb (ts : List Addr) (H : Hp) : Prop := ∀ P ∈ ts,∃ ps,TabAt H P ps
theorem Ext.tb {ex ts : List Addr} {H H' : Hp} (a : Ext ex H H') (h : Tb ts H) (hx : ∀ P ∈ ts,P ∉ ex) : Tb ts H':=fun P hP=>by
 obtain ⟨ps,h1,h2⟩:=h P hP
 obtain ⟨ps',q1,q2⟩:=a.tab P ps (hx P hP) h1
 exact ⟨ps',q1,q2 h2⟩
mutual
theorem IsD.ext {ex : List Addr} {H H' : Hp} (e : Ext ex H H') : ∀ {d : PyData} {v : V},IsD ex H d v->IsD ex H' d v
 | .none,_,h=>h
 | .bool _,_,h=>h
 | .int _,_,h=>h
 | .str _,_,h=>h
 | .tuple ds,v,h=>by
  obtain ⟨a,vs,h1,h2,h3,h4⟩:=h
  exact ⟨a,vs,h1,h2,e.tup h2 h3,IsDs.ext e h4⟩
 | .list ds,v,h=>by
  obtain ⟨a,vs,h1,h2,h3,h4⟩:=h
  exact ⟨a,vs,h1,h2,e.lst h2 h3,IsDs.ext e h4⟩
 | .dict _,_,h=>h.elim
theorem IsDs.ext {ex : List Addr} {H H' : Hp} (e : Ext ex H H') : ∀ {ds : List PyData} {vs : List V},IsDs ex H ds vs->IsDs ex H' ds vs
 | [],_,h=>h
 | d :: ds,vs,h=>by
  obtain ⟨v,r,h1,h2,h3⟩:=h
  exact ⟨v,r,h1,IsD.ext e h2,IsDs.ext e h3⟩
end
mutual
theorem IsD.less {ex ex' : List Addr} {H : Hp} (e : ∀ b ∈ ex',b ∈ ex) : ∀ {d : PyData} {v : V},IsD ex H d v->IsD ex' H d v
 | .none,_,h=>h
 | .bool _,_,h=>h
 | .int _,_,h=>h
 | .str _,_,h=>h
 | .tuple ds,v,h=>by
  obtain ⟨a,vs,h1,h2,h3,h4⟩:=h
  exact ⟨a,vs,h1,fun z=>h2 (e a z),h3,IsDs.less e h4⟩
 | .list ds,v,h=>by
  obtain ⟨a,vs,h1,h2,h3,h4⟩:=h
  exact ⟨a,vs,h1,fun z=>h2 (e a z),h3,IsDs.less e h4⟩
 | .dict _,_,h=>h.elim
theorem IsDs.less {ex ex' : List Addr} {H : Hp} (e : ∀ b ∈ ex',b ∈ ex) : ∀ {ds : List PyData} {vs : List V},IsDs ex H ds vs->IsDs ex' H ds vs
 | [],_,h=>h
 | d :: ds,vs,h=>by
  obtain ⟨v,r,h1,h2,h3⟩:=h
  exact ⟨v,r,h1,IsD.less e h2,IsDs.less e h3⟩
end
theorem IsDs.get {ex : List Addr} {H : Hp} : ∀ {ds : List PyData} {vs : List V} {i : Nat} {d : PyData},IsDs ex H ds vs->ds[i]? = some d->∃ v,vs[i]? = some v/\IsD ex H d v
 | [],_,_,_,_,e=>by simp at e
 | d :: ds,vs,0,d',h,e=>by
  obtain ⟨v,r,rfl,h2,h3⟩:=h
  simp at e
  subst e
  exact ⟨v,rfl,h2⟩
 | d :: ds,vs,i + 1,d',h,e=>by
  obtain ⟨v,r,rfl,h2,h3⟩:=h
  obtain ⟨w,h4,h5⟩:=IsDs.get (i:=i) h3 (by simpa using e)
  exact ⟨w,by simpa using h4,h5⟩
theorem IsDs.length {ex : List Addr} {H : Hp} : ∀ {ds : List PyData} {vs : List V},IsDs ex H ds vs->vs.length = ds.length
 | [],_,h=>by cases h;rfl
 | d :: ds,vs,h=>by
  obtain ⟨v,r,rfl,h2,h3⟩:=h
  simp [IsDs.length h3]
theorem IsDs.append {ex : List Addr} {H : Hp} : ∀ {ds es : List PyData} {vs ws : List V},IsDs ex H ds vs->IsDs ex H es ws->IsDs ex H (ds ++ es) (vs ++ ws)
 | [],_,_,_,h,h'=>by cases h;exact h'
 | d :: ds,es,vs,ws,h,h'=>by
  obtain ⟨v,r,rfl,h2,h3⟩:=h
  exact ⟨v,r ++ ws,rfl,h2,IsDs.append h3 h'⟩
theorem IsDs.take {ex : List Addr} {H : Hp} : ∀ {ds : List PyData} {vs : List V} (n : Nat),IsDs ex H ds vs->IsDs ex H (ds.take n) (vs.take n)
 | [],_,n,h=>by cases h;simp [IsDs]
 | d :: ds,vs,0,h=>by simp [IsDs]
 | d :: ds,vs,n + 1,h=>by
  obtain ⟨v,r,rfl,h2,h3⟩:=h
  exact ⟨v,r.take n,rfl,h2,IsDs.take n h3⟩
theorem IsDs.drop {ex : List Addr} {H : Hp} : ∀ {ds : List PyData} {vs : List V} (n : Nat),IsDs ex H ds vs->IsDs ex H (ds.drop n) (vs.drop n)
 | [],_,n,h=>by cases h;simp [IsDs]
 | d :: ds,vs,0,h=>h
 | d :: ds,vs,n + 1,h=>by
  obtain ⟨v,r,rfl,h2,h3⟩:=h
  exact IsDs.drop n h3
theorem IsDs.strs {ex : List Addr} {H : Hp} : ∀ (xs : List Str),IsDs ex H (xs.map .str) (xs.map .str)
 | []=>rfl
 | x :: xs=>⟨_,_,rfl,rfl,IsDs.strs xs⟩
theorem IsDs.strs_of {ex : List Addr} {H : Hp} : ∀ {xs : List Str} {vs : List V},IsDs ex H (xs.map .str) vs->vs = xs.map .str
 | [],_,h=>h
 | x :: xs,vs,h=>by
  obtain ⟨v,r,rfl,h2,h3⟩:=h
  rw [IsDs.strs_of h3,show v = V.str x from h2]
  rfl
theorem IsDs.ints_of {ex : List Addr} {H : Hp} : ∀ {xs : List Int} {vs : List V},IsDs ex H (xs.map .int) vs->vs = xs.map .int
 | [],_,h=>h
 | x :: xs,vs,h=>by
  obtain ⟨v,r,rfl,h2,h3⟩:=h
  rw [IsDs.ints_of h3,show v = V.int x from h2]
  rfl
section
variable {X : Cx} {pins : List (Addr × Obj)} {σ : St} {H : Hp} {s : Shared} {ex : List Addr}
mutual
theorem IsD.reads (I : Inv X pins σ H s) : ∀ {d : PyData} {v : V} {u : Value},IsD ex H d v->RelV v u->∃ as,Reads s.heap u d as
 | .none,_,_,h,r=>by cases h;cases r;exact ⟨_,.none⟩
 | .bool b,_,_,h,r=>by cases h;cases r;exact ⟨_,.bool b⟩
 | .int i,_,_,h,r=>by cases h;obtain ⟨t,rfl⟩:=r;exact ⟨_,.int i t⟩
 | .str x,_,_,h,r=>by cases h;obtain ⟨t,rfl⟩:=r;exact ⟨_,.str x t⟩
 | .tuple ds,v,u,h,r=>by
  obtain ⟨a,vs,rfl,_,h3,h4⟩:=h
  cases r
  obtain ⟨_,its,rv,⟨ob,e1,e2,n,e3⟩,_⟩ : vs.length <= sizeLine/\∃ its : List Value,Vals vs its/\IsTup s.heap a its.toArray/\∃ o,s.heap.get? a = some o/\o.dict = none:=I.hok a _ h3
  obtain ⟨as,q⟩:=IsDs.reads I h4 rv
  exact ⟨as,reads_tuple_at e1 e2 e3 (by simpa using q)⟩
 | .list ds,v,u,h,r=>by
  obtain ⟨a,vs,rfl,_,h3,h4⟩:=h
  cases r
  obtain ⟨_,its,n,rv,e1⟩ : vs.length <= sizeLine/\∃ (its : List Value) (n : Nat),Vals vs its/\s.heap.get? a = some { cls:=.type "list",data:=.seq its.toArray n }:=I.hok a _ h3
  obtain ⟨as,q⟩:=IsDs.reads I h4 rv
  exact ⟨_,reads_list_at e1 rfl rfl (by simpa using q)⟩
 | .dict _,_,_,h,_=>h.elim
theorem IsDs.reads (I : Inv X pins σ H s) : ∀ {ds : List PyData} {vs : List V} {us : List Value},IsDs ex H ds vs->Vals vs us->∃ as,ReadsAll s.heap us ds as
 | [],_,_,h,r=>by cases h;cases r;exact ⟨_,.nil⟩
 | d :: ds,vs,us,h,r=>by
  obtain ⟨v,rs,rfl,h2,h3⟩:=h
  cases r with
  | cons r1 r2 =>
   obtain ⟨as,q1⟩:=IsD.reads I h2 r1
   obtain ⟨bs,q2⟩:=IsDs.reads I h3 r2
   exact ⟨_,.cons q1 q2⟩
end
end
section
variable {X : Cx}
open SeqAt (shaped)
def rNeD : R2:=fun x y H Q=>∃ dx dy,IsD [] H dx x/\IsD [] H dy y/\shaped dx = true/\shaped dy = true/\Q (.bl (!PyData.eqv dx dy)) H
theorem op_neD (hu : X.A.units + 64 < cLine) : OpR X (compareOp .NotEq) rNeD:=by
 intro pins s σ H x y v u Q I rx ry h
 obtain ⟨dx,dy,h1,h2,s1,s2,q⟩:=h
 obtain ⟨as,r1⟩:=h1.reads I rx
 obtain ⟨bs,r2⟩:=h2.reads I ry
 exact ne_dataH r1 r2 s1 s2 hu ⟨.bl _,H,I,rfl,q⟩
def rSlS : V->Option Int->Option Int->Hp->VK->Prop:=fun x lo hi H Q=>∃ z,x = .str z/\z.length <= sizeLine/\Q (.str (Txt.slice z lo hi)) H
theorem sl_str : SlR X rSlS:=by
 intro pins s σ H x v vl vu lo hi sl Q I rx hs pl pu h
 obtain ⟨z,rfl,hz,q⟩:=h
 obtain ⟨t,rfl⟩:=rx
 have fin : ∀ t' k,EP X pins σ Q (.str (Txt.slice z lo hi) t') { s with toks:=k }:=fun t' k=>⟨.str _,H,I.tok k,⟨_,rfl⟩,q⟩
 cases pl with
 | none =>
  cases pu with
  | none=>exact ⟨"str",_,F.slot_str_getitem.lookup,typeIs_str _ _ _,wpAny_getItem_str_slice (l:=none) (u:=none) (st:=none) hs rfl (post_val_or_str ⟨Nat.le_trans (Txt.slice_le z _ _) hz,fin⟩)⟩
  | int j t'=>exact ⟨"str",_,F.slot_str_getitem.lookup,typeIs_str _ _ _,wpAny_getItem_str_slice (l:=none) (u:=some (j,t')) (st:=none) hs rfl (post_val_or_str ⟨Nat.le_trans (Txt.slice_le z _ _) hz,fin⟩)⟩
 | int i t'' =>
  cases pu with
  | none=>exact ⟨"str",_,F.slot_str_getitem.lookup,typeIs_str _ _ _,wpAny_getItem_str_slice (l:=some (i,t'')) (u:=none) (st:=none) hs rfl (post_val_or_str ⟨Nat.le_trans (Txt.slice_le z _ _) hz,fin⟩)⟩
  | int j t'=>exact ⟨"str",_,F.slot_str_getitem.lookup,typeIs_str _ _ _,wpAny_getItem_str_slice (l:=some (i,t'')) (u:=some (j,t')) (st:=none) hs rfl (post_val_or_str ⟨Nat.le_trans (Txt.slice_le z _ _) hz,fin⟩)⟩
theorem strs_of : ∀ {ys : List Str} {us : List Value},Vals (ys.map V.str) us->StrsAre us ys
 | [],_,.nil=>.nil
 | y :: ys,_,.cons ⟨t,e⟩ r=>by subst e;exact .cons y t (strs_of r)
def rJoin (K : PySem.W.Frag) : V->List V->Hp->VK->Prop:=fun x vs H Q=>∃ z a ys,x = .str z/\vs = [.ref a]/\SqL K H a (ys.map V.str)/\(ys.map (·.length)).sum + ys.length * z.length <= 16777216/\Q (.str (Txt.join z ys)) H
theorem mt_join : MtR X "str.join" (rJoin X.K):=by
 intro pins s σ H x vs v us Q I rx rv h
 obtain ⟨z,a,ys,rfl,rfl,hq,hl,q⟩:=h
 obtain ⟨t,rfl⟩:=rx
 obtain ⟨u,rfl,ru⟩:=rv.one
 cases ru
 obtain ⟨its,r,pl,_⟩:=I.list hq
 exact join_list pl.isList (by simpa using strs_of r) hl fun t' k=>⟨.str _,H,I.tok k,⟨_,rfl⟩,q⟩
end
end L2
end

section
set_option Elab.async false
set_option linter.all false
set_option maxRecDepth 100000
namespace L2
open PySem PySem.Spec PyProof.Rows
def OnlyT (tabs : List Addr) (H : Hp) : Prop:=(∀ b,H b = none\/(∃ o xs,H b = some (.frz o (.lst xs)))\/(b ∈ tabs/\H b = some (.tbl #[])))/\∀ b ∈ tabs,H b = some (.tbl #[])
theorem law_callT {P : Program} {w : World} {K : PySem.W.Frag} {mg mb : Str->Option Value} {CX : CXT} {k : Nat} {fa a : Addr} {fd : FuncData} {x : Str} {sp : Sp} {s₁ : Shared} {vs : List Value} {ns : List Int} {tabs : List Addr}
  (KX : K.In s₁.heap) (hns : s₁.heap.Ns mainGlobals mg) (hb : s₁.heap.Ns builtinsNs mb) (hbb : ∀ x : Str,x ≠ "__name__"->mb x = bootBuiltins x) (hlim : s₁.heap.NoLimit) (hg : s₁.gens = #[]) (hbm : BltMod mg s₁.heap)
  (htab : ∀ p ∈ tabs,s₁.heap.get? p = some (PySem.W.tabObj #[])/\isCodeTable s₁.heap p/\K.lookup p = none)
  (ha : s₁.heap.get? a = some { cls:=.type "list",data:=.seq vs.toArray }) (hi : IntsAre vs ns) (hl : ns.length <= sizeLine) (hr : Room k callerA)
  (F : ∀ base : Heap,K.In base->base.Ns mainGlobals mg->BltMod mg base->FnOk P w K mg base CX k fa fd [x] sp) (hbind : ∀ (s : Shared) (u : Value),BindsTo s fd ⟨[u],[]⟩ [(x,u)])
  (hsp : ∀ H : Hp,OnlyT tabs H->SqL K H a (ns.map V.int)->sp [.ref a] H (fun v _=>v = .bl true) fun _ _ _=>False)
  (hCX : ∀ H e s',CX [] H s₁ (fun _ _ _=>False) e s'->False) :
  codeAny (model P w) callerA (.call (.ref fa) ⟨[.ref a],[]⟩) (fun r s'=>r = .ok (.ret (.bool true))/\OldK s₁.heap s'.heap/\s'.os = s₁.os/\AllBare s'.gens) s₁:=by
 have rv:=vals_ints hi
 have lenV:=hi.length
 have anT : a ∉ tabs:=fun z=>by
  have e:=(htab a z).1
  rw [ha] at e
  cases e
 have core : ∀ H : Hp,OnlyT tabs H->SqL K H a (ns.map V.int)->HOk P w H s₁.heap->(∀ b,H b ≠ none->b = a\/b ∈ tabs)->(H a ≠ none->K.lookup a = none) ->
   codeAny (model P w) callerA (.call (.ref fa) ⟨[.ref a],[]⟩) (fun r s'=>r = .ok (.ret (.bool true))/\OldK s₁.heap s'.heap/\s'.os = s₁.os/\AllBare s'.gens) s₁:=by
  intro H hO hS hok hA hK
  have base_of : ∀ {b : Addr} {o : Obj},s₁.heap.get? b = some o->H b = none->(hidT s₁.heap H).get? b = some o:=fun e n=>hidT_get e n
  have noT : ∀ {b : Addr} {o : Obj},s₁.heap.get? b = some o->(∀ (vs : Array Value) n,o.data ≠ .seq vs n)->(∀ vs : Array Value,o.data ≠ .fields vs)->H b = none:=fun {b o} e d1 d2=>by
   cases q : H b with
   | none=>rfl
   | some u =>
    rcases hA b (by rw [q];simp) with e' | e'
    ·subst e'
     rw [ha] at e;cases e
     exact absurd rfl (d1 _ _)
    ·rw [(htab b e').1] at e;cases e
     exact absurd rfl (d2 _)
  have nsK : ∀ {b : Addr} {m : Str->Option Value},s₁.heap.Ns b m->(hidT s₁.heap H).Ns b m:=fun {b m} ⟨o,es,ep,e,d,r⟩=>⟨o,es,ep,base_of e (noT e (by intro _ _ z;rw [d] at z;cases z) (by intro _ z;rw [d] at z;cases z)),d,r⟩
  have hKb : K.In (hidT s₁.heap H):=fun b o e=>base_of (KX b o e) (by
   cases q : H b with
   | none=>rfl
   | some u =>
    rcases hA b (by rw [q];simp) with e' | e'
    ·subst e'
     rw [hK (by rw [q];simp)] at e;cases e
    ·rw [(htab b e').2.2] at e;cases e)
  have hM : Mod K mg (hidT s₁.heap H):=⟨hKb,nsK hns,⟨mb,nsK hb,hbb⟩,let ⟨mc,h1,h2⟩:=hlim;⟨mc,nsK h1,h2⟩⟩
  have hB : BltMod mg (hidT s₁.heap H):=by
   obtain ⟨bm,ob,b1,b2,b3,b4,b5,b6⟩:=hbm
   exact ⟨bm,ob,b1,b2,base_of b3 (noT b3 (by intro _ _ z;rw [b6] at z;cases z) (by intro _ z;rw [b6] at z;cases z)),b4,b5,b6⟩
  have e0 : Env0 P w K mg (hidT s₁.heap H) callerA [] s₁ H:=⟨rfl,hM,fun b o e=>of_hidT e,Nat.le_of_eq (hidT_size _ _),trivial,fun b hb=>absurd (show b ∈ ([] : List Addr) from hb) (by simp),hok,.of_eq hg⟩
  refine codeAny_mono ((F _ hKb (nsK hns) hB).run callerA [] s₁ H ⟨[.ref a],[]⟩ [.ref a] [.ref a] _ _ hr e0 (hbind s₁ (.ref a)) (.cons rfl .nil) (hsp H hO hS)) fun r s' h=>?_
  cases r with
  | error e=>exact (hCX H e s' h).elim
  | ok fl =>
   cases fl with
   | next=>exact False.elim h
   | brk=>exact False.elim h
   | cont=>exact False.elim h
   | ret u =>
    obtain ⟨v,H',os,bare,un,hok',r',q⟩:=h
    have q' : v = .bl true:=q
    subst q'
    obtain rfl : u = Value.bool true:=r'
    have no : ∀ b : Addr,b ∉ frs []:=fun b z=>absurd (show b ∈ ([] : List Addr) from z) (by simp)
    refine ⟨rfl,⟨fun b o e=>?_,fun b o e=>un.there b o e (by simp)⟩,os,bare.1⟩
    rcases hO.1 b with z | ⟨ob,xs,z⟩ | ⟨zt,z⟩
    ·exact .inl (un.keep b o e z (no b) (by simp))
    ·have z2:=un.frzs b ob _ z
     obtain ⟨e1,_⟩:=hok b _ z
     obtain ⟨e2,_⟩:=hok' b _ z2
     rw [e] at e1;cases e1
     exact .inl e2
    ·obtain ⟨more,z2⟩:=un.tbls b _ z
     have e2 : s'.heap.get? b = some { cls:=.none,data:=.fields (#[] ++ more) }:=hok' b _ z2
     have e1:=(htab b zt).1
     rw [e] at e1;cases e1
     exact .inr (.inl ⟨(htab b zt).2.1,rfl,#[],more,rfl,e2⟩)
 have tabOk : ∀ b ∈ tabs,s₁.heap.get? b = some { cls:=.none,data:=.fields #[] }:=fun b hb=>(htab b hb).1
 cases hk : K.lookup a with
 | some o =>
  have e:=KX a o hk
  rw [ha] at e
  cases e
  refine core (fun b=>if b ∈ tabs then some (.tbl #[]) else none) ⟨fun b=>?_,fun b hb=>if_pos hb⟩ (.inr ⟨_,vs.toArray,_,hk,rfl,rfl,rfl,by rw [List.size_toArray,lenV];exact hl,by simpa using rv⟩) (fun b u z=>?_) (fun b z=>?_) (fun z=>absurd (if_neg anT) z)
  ·by_cases hb : b ∈ tabs
   ·exact .inr (.inr ⟨hb,if_pos hb⟩)
   ·exact .inl (if_neg hb)
  ·by_cases hb : b ∈ tabs
   ·have z':=(if_pos hb).symm.trans z
    cases z'
    exact tabOk b hb
   ·have z':=(if_neg hb).symm.trans z
    cases z'
  ·by_cases hb : b ∈ tabs
   ·exact .inr hb
   ·exact absurd (if_neg hb) z
 | none =>
  refine core (fun b=>if b = a then some (.frz { cls:=.type "list",data:=.seq vs.toArray } (.lst (ns.map V.int))) else if b ∈ tabs then some (.tbl #[]) else none) ⟨fun b=>?_,fun b hb=>?_⟩ (.inl (.inr ⟨{ cls:=.type "list",data:=.seq vs.toArray },if_pos rfl⟩)) (fun b u z=>?_) (fun b z=>?_) fun _=>hk
  ·by_cases hb : b = a
   ·exact .inr (.inl ⟨_,_,if_pos hb⟩)
   ·by_cases hb' : b ∈ tabs
    ·exact .inr (.inr ⟨hb',(if_neg hb).trans (if_pos hb')⟩)
    ·exact .inl ((if_neg hb).trans (if_neg hb'))
  ·have hne : b ≠ a:=fun z=>anT (z ▸ hb)
   exact (if_neg hne).trans (if_pos hb)
  ·by_cases hb : b = a
   ·have z':=(if_pos hb).symm.trans z
    cases z'
    subst hb
    exact ⟨ha,by rw [List.length_map];exact hl,vs,_,rv,ha⟩
   ·have z1 : (if b ∈ tabs then some (HO.tbl #[]) else none) = some u:=(if_neg hb).symm.trans z
    by_cases hb' : b ∈ tabs
    ·have z':=(if_pos hb').symm.trans z1
     cases z'
     exact tabOk b hb'
    ·have z':=(if_neg hb').symm.trans z1
     cases z'
  ·by_cases hb : b = a
   ·exact .inl hb
   ·by_cases hb' : b ∈ tabs
    ·exact .inr hb'
    ·exact absurd ((if_neg hb).trans (if_neg hb')) z
def tabsOf (K : PySem.W.Frag) (gn : List Str) : List Addr:=gn.filterMap fun x=>(PySem.W.tabIn K x).map (·.2)
theorem walk_ofT {l : PySem.W.OpenLaw} {n k : Nat} {q : Program} {loose : List Str} {XP : (Str->Option Value)->Heap->Prop} {YP : World->Heap->Prop} {d : DefRec} {K : Params->PySem.W.Frag} {CX : World->CXT} {sp : World->Sp} {x : Str} (gn : List Str)
  (hn : l.most = some n) (hn2 : n <= sizeLine) (hdf : d.params.defaults = []) (hr : Room k callerA)
  (hY : ∀ (w : World) (h : Heap),YP w h->(K w.params).In h)
  (hgn : ∀ y ∈ gn,((recsOf q).find? (fun e=>e.name == y)).isSome = true)
  (hT : ∀ (w : World) (h : Heap),(K w.params).In h->∀ y ∈ gn,∀ c P,PySem.W.tabIn (K w.params) y = some (c,P)->(K w.params).lookup P = none)
  (F : ∀ (w : World) (mg : Str->Option Value) (fa : Addr) (h : Heap),(K w.params).In h->h.Ns mainGlobals mg->mg d.name = some (.ref fa) ->
   ∃ fd : FuncData,(∀ (s : Shared) (u : Value),BindsTo s fd ⟨[u],[]⟩ [(x,u)]) /\
    ∀ base : Heap,(K w.params).In base->base.Ns mainGlobals mg->BltMod mg base->FnOk l.prog w (K w.params) mg base (CX w) k fa fd [x] (sp w))
  (hsp : ∀ (w : World) (H : Hp) (a : Addr) (ns : List Int),ns.length <= n->OnlyT (tabsOf (K w.params) gn) H->SqL (K w.params) H a (ns.map V.int)->sp w [.ref a] H (fun v _=>v = .bl true) fun _ _ _=>False)
  (hCX : ∀ (w : World) (H : Hp) (s : Shared) (e : Value) (s' : Shared),CX w [] H s (fun _ _ _=>False) e s'->False) :
  PySem.W.WalkO q loose XP YP l.row.toRowW d [] (fun f vs=>PySem.call f vs):=by
 refine Att.attach_call hn hdf fun w s₀ s₁ mg mb fa o pm cd doc a vs ns G Y ho hd hcd hmg hobj hints hlen hg=>?_
 have KX:=hY w _ Y
 obtain ⟨fd,hb,hF⟩:=F w mg fa _ KX G.T.g hmg
 refine law_callT (tabs:=tabsOf (K w.params) gn) KX G.T.g G.T.b G.T.builtins G.T.nolimit hg G.T.bmain (fun p hp=>?_) hobj hints (Nat.le_trans hlen hn2) hr hF hb (fun H hO hS=>hsp w H a ns hlen hO hS) fun H e s'=>hCX w H s₁ e s'
 obtain ⟨y,hy,e⟩:=List.mem_filterMap.mp hp
 cases et : PySem.W.tabIn (K w.params) y with
 | none=>rw [et] at e;cases e
 | some cP =>
  obtain ⟨c,P⟩:=cP
  rw [et] at e
  have e' : P = p:=Option.some.inj e
  subst e'
  obtain ⟨d',hd'⟩:=Option.isSome_iff_exists.mp (hgn y hy)
  obtain ⟨t1,t2⟩:=PySem.W.tab_of G.T KX hd' et
  exact ⟨t2,(t1.tab t2).isCodeTable,hT w _ KX y hy c P et⟩
end L2
end

section
set_option Elab.async false
set_option linter.all false
set_option maxRecDepth 100000
namespace L2
open PySem PySem.Spec PyProof.Rows
def Its (z : Str) : It:=⟨fun i _=>i < z.cps.size,fun i H x H'=>H' = H/\∃ c,z.cps[i]? = some c/\x = .str ⟨#[c]⟩,fun i _=>i = z.cps.size⟩
theorem turn_str {P : Program} {w : World} {K : PySem.W.Frag} {tg : Expr} (it : Addr) (z : Str) (t : Tok) (ty : String)
  (hty : ["enumerate","zip","dict_itemiterator","dict_reverseitemiterator","odict_iterator","itertools.zip_longest","itertools.pairwise"].contains ty = false)
  (W : ∀ A : Around,A.handled = none->Walks P w A it [it] [it] z.cps.size (SignAt z) (fun i h=>h.IsStrIter it ty z t i))
  (self : ∀ (A : Around) (i : Nat) (s : Shared) (Q : Value->Shared->Prop) (E : Value->Shared->Prop),s.heap.IsStrIter it ty z t i->Q (.ref it) s->wpAny (model P w) A (pyIter (.ref it)) Q E s) :
  Turn P w K tg (Its z) [it] it (fun i h=>h.IsStrIter it ty z t i) where
 mem:=by simp
 obj:=fun i h st b hb=>by
  have e : b = it:=by simpa using hb
  subst e
  obtain ⟨o,e,c,d⟩:=st
  exact ⟨o,e,fun v z=>by rw [d] at z;cases z⟩
 keep:=fun i h h' st k=>let ⟨o,ho,r⟩:=st;⟨o,k it (by simp) o ho,r⟩
 item:=by
  intro X hP hw hK hc i pins s σ H E I hf st hg
  subst hP hw hK
  obtain ⟨f0,f1,f2,f3,f4,f5⟩:=hf it (by simp)
  refine (W X.A (I.ok.hd hc)).item i s _ _ hg st fun v h' tk hv st' kk=>?_
  obtain ⟨c,u,hc',rfl⟩:=hv
  have I1 : Inv X pins σ H { s with heap:=h',toks:=tk }:=I.turned (fun b o hb e=>kk b o (by simpa using hb) e) f0 f1 f3 f4 f5
  obtain ⟨o,e,oc,d⟩:=id st'
  exact ⟨_,rfl,go_of (s:={ s with heap:=h',toks:=tk }) e oc d hty ⟨.str ⟨#[c]⟩,H,I1,⟨_,rfl⟩,⟨rfl,c,hc',rfl⟩,st',fun b hb=>(hf b hb).1⟩⟩
 done:=by
  intro X hP hw hK hc i pins s σ H E I hf st hg
  subst hP hw hK
  obtain ⟨f0,f1,f2,f3,f4,f5⟩:=hf it (by simp)
  obtain rfl : i = z.cps.size:=hg
  exact (W X.A (I.ok.hd hc)).done s _ _ st fun h' tk kk=>⟨rfl,I.turned (fun b o hb e=>kk b o (by simpa using hb) e) f0 f1 f3 f4 f5⟩
 self:=fun A i s Q E st h=>self A i s Q E st h
section
variable {X : Cx} {tg : Expr}
def iStr (tl : TE) : TI:=fun σ H R=>tl σ H fun x H1=>∃ z,x = .str z/\R (Its z) H1
theorem pi_str {l : Expr} {tl : TE} (hl : PE X l tl) : PI X tg l (iStr tl):=by
 intro pins s σ H R I h
 refine thn (hl pins s σ H _ I h) fun v s1 ⟨x,H1,I1,r1,q1⟩=>?_
 obtain ⟨z,e,q⟩:=q1
 subst e
 obtain ⟨t,rfl⟩:=r1
 have fin : ∀ (ty : String) (T : Turn X.prog X.w X.K tg (Its z) [s1.heap.objs.size] s1.heap.objs.size (fun i h=>h.IsStrIter s1.heap.objs.size ty z t i)),
   PIE X pins σ tg R (.ref s1.heap.objs.size) { s1 with heap:=s1.heap.push { cls:=.type ty,data:=.fields #[.str z t,.int 0 0] } }:=fun ty T=>by
  refine ⟨s1.heap.objs.size,[s1.heap.objs.size],_,_,H1,rfl,I1.kept (t':=s1.toks) fun b o e=>Heap.get?_push_of_some _ e,T,⟨_,Heap.get?_push_size _ rfl,rfl,rfl⟩,fun b hb=>?_,q⟩
  have e : b = s1.heap.objs.size:=by simpa using hb
  subst e
  exact I1.fpOk (Nat.le_refl _) (I1.hok.fresh (Nat.le_refl _))
 cases ha : z.cps.all (· < 128)
 ·exact wpAny_pyIter_wide ha (fin _ (turn_str _ z t _ (by decide) (fun A hA=>Walks.strWide hA _ z t) fun A i s Q E st h=>wpAny_pyIter_striter_wide st h))
 ·exact wpAny_pyIter_ascii ha (fin _ (turn_str _ z t _ (by decide) (fun A hA=>Walks.strAscii hA _ z t) fun A i s Q E st h=>wpAny_pyIter_striter_ascii st h))
end
structure Yields (J : It) (ok : Hp->Prop) (ys : List V) : Prop where
 go : ∀ i H,ok H->i < ys.length->J.go i H
 stop : ∀ H,ok H->J.stop ys.length H
 yld : ∀ i H x H',ok H->i < ys.length->J.yld i H x H'->H' = H/\ys[i]? = some x
theorem yields_range {lo : Int} {n : Nat} : Yields (Itr lo n) (fun _=>True) ((List.range n).map fun i=>V.int (lo + (i : Nat))) where
 go:=fun i H _ hi=>by show i < n;simpa using hi
 stop:=fun H _=>by show n <= _;simp
 yld:=fun i H x H' _ hi ⟨e,y⟩=>⟨e,by
  have hi' : i < n:=by simpa using hi
  subst y
  simp [hi']⟩
theorem yields_list {K : PySem.W.Frag} {a : Addr} {ys : List V} : Yields (Itl K a) (fun H=>SqL K H a ys) ys where
 go:=fun i H h hi=>⟨ys,ys[i],h,by simp [hi]⟩
 stop:=fun H h=>⟨ys,h,Nat.le_refl _⟩
 yld:=fun i H x H' h hi ⟨e,y⟩=>⟨e,y ys h⟩
theorem yields_tup {K : PySem.W.Frag} {a : Addr} {ys : List V} : Yields (Itt K a) (fun H=>SqT K H a ys) ys where
 go:=fun i H h hi=>⟨ys,ys[i],h,by simp [hi]⟩
 stop:=fun H h=>⟨ys,h,Nat.le_refl _⟩
 yld:=fun i H x H' h hi ⟨e,y⟩=>⟨e,y ys h⟩
def sgV (z : Str) : List V:=z.cps.toList.map fun c=>V.str ⟨#[c]⟩
theorem yields_str {z : Str} : Yields (Its z) (fun _=>True) (sgV z) where
 go:=fun i H _ hi=>by show i < z.cps.size;simpa [sgV] using hi
 stop:=fun H _=>by show _ = z.cps.size;simp [sgV]
 yld:=fun i H x H' _ hi ⟨e,c,hc,y⟩=>⟨e,by
  subst y
  have hc' : z.cps.toList[i]? = some c:=by simpa using hc
  simp only [sgV,List.getElem?_map,hc',Option.map_some]⟩
def Nx (n i : Nat) (p : Prop) : Prop := ∃ m',m' < n - i/\m' = n - (i + 1)/\i + 1 <= n/\p
theorem nx {n i : Nat} {p : Prop} (h : i < n) (q : p) : Nx n i p:=⟨n - (i + 1),by omega,rfl,h,q⟩
theorem lcomp_by {J : It} {ok : Hp->Prop} {ys : List V} {g : TG} {tt : TT} {te : TE} {σc : St} {H : Hp} {Q : VK} (Y : Yields J ok ys) (Pv : Nat->List V->Hp->Prop) (h0 : Pv 0 [] H) (hok : ∀ i xs H,Pv i xs H->ok H)
  (step : ∀ i x xs H,ys[i]? = some x->i < ys.length->Pv i xs H->g x σc H fun σ2 H2=>tt σ2 H2 fun b H3=>if b = true then te σ2 H3 fun v H4=>xs.length < sizeLine/\Nx ys.length i (Pv (i + 1) (xs ++ [v]) H4) else Nx ys.length i (Pv (i + 1) xs H3))
  (fin : ∀ xs H,Pv ys.length xs H->∀ p,H p = none->Q (.ref p) (upd H p (.lst xs))) :
  LComp J g tt te σc Q H:=by
 refine ⟨fun i m xs H=>m = ys.length - i/\i <= ys.length/\Pv i xs H,⟨ys.length,by simp,Nat.zero_le _,h0⟩,?_⟩
 rintro i m xs H ⟨rfl,hi,p⟩
 have o:=hok i xs H p
 by_cases hlt : i < ys.length
 ·refine .inr ⟨Y.go i H o hlt,fun x H' y=>?_⟩
  obtain ⟨e,hx⟩:=Y.yld i H x H' o hlt y
  subst e
  exact step i x xs _ hx hlt p
 ·have e : i = ys.length:=by omega
  subst e
  exact .inl ⟨Y.stop H o,fin xs H p⟩
theorem lcomp_by0 {J : It} {ok : Hp->Prop} {ys : List V} {g : TG} {te : TE} {σc : St} {H : Hp} {Q : VK} (Y : Yields J ok ys) (Pv : Nat->List V->Hp->Prop) (h0 : Pv 0 [] H) (hok : ∀ i xs H,Pv i xs H->ok H)
  (step : ∀ i x xs H,ys[i]? = some x->i < ys.length->Pv i xs H->g x σc H fun σ2 H2=>te σ2 H2 fun v H4=>xs.length < sizeLine/\Nx ys.length i (Pv (i + 1) (xs ++ [v]) H4))
  (fin : ∀ xs H,Pv ys.length xs H->∀ p,H p = none->Q (.ref p) (upd H p (.lst xs))) : LComp J g tYes te σc Q H:=by
 refine lcomp_by Y Pv h0 hok (fun i x xs H hx hi p=>?_) fin
 have e : (fun (σ2 : St) (H2 : Hp)=>tYes σ2 H2 fun b H3=>if b = true then te σ2 H3 fun v H4=>xs.length < sizeLine/\Nx ys.length i (Pv (i + 1) (xs ++ [v]) H4) else Nx ys.length i (Pv (i + 1) xs H3)) =
   fun σ2 H2=>te σ2 H2 fun v H4=>xs.length < sizeLine/\Nx ys.length i (Pv (i + 1) (xs ++ [v]) H4):=by
  funext σ2 H2
  unfold tYes
  dsimp only
  rw [if_pos rfl]
 rw [e]
 exact step i x xs H hx hi p
structure FunC (K : PySem.W.Frag) (x qual : Str) (st : Stmt) (f : Addr) (fd : FuncData) (c : Addr) : Prop where
 ex : ∃ (oc : Value) (od : Option Addr) (kV doc pm : Value) (an : Option Addr) (ct : Value) (osl : Array (Option Value)),
  fd = PySem.W.fnOf x qual (defArgs st) (defBody st) (defScope st) .none kV doc pm an (.ref c) ct/\K.lookup f = some ⟨oc,od,.func fd,osl⟩/\PySem.W.codeIn K (.ref c) qual = true
 kp : PySem.W.keepIn K (.ref f) = true
section
variable {P : Program} {w : World} {K : PySem.W.Frag} {mg : Str->Option Value} {base : Heap}
theorem FunC.fn {x qual : Str} {st : Stmt} {f : Addr} {fd : FuncData} {c : Addr} (F : FunC K x qual st f fd c) : Fun K x qual st f fd:=by
 obtain ⟨oc,od,kV,doc,pm,an,ct,osl,h⟩:=F.ex
 exact ⟨⟨oc,od,kV,doc,pm,an,.ref c,ct,osl,h⟩,F.kp⟩
theorem FunC.ok {x qual : Str} {st : Stmt} {f : Addr} {fd : FuncData} {c : Addr} {N ps : List Str} {k : Nat} {sp : Sp} (F : FunC K x qual st f fd c) (S : FnScope N ps (defScope st)) (len : ∀ vs H Q E,sp vs H Q E->vs.length = ps.length)
  (hbody : ∀ (A : Around) (outer : List Env) (s : Shared) (H : Hp) (vs : List V) (Q : VK) (E : XK),Room k (A.deeper (envOfC qual (defScope st) s.heap.objs.size f (.ref c)))->sp vs H Q E ->
   ∃ t,PSs (cxOf CX0 P w K mg base N qual (defScope st) f (.ref c) A outer s H E).nox (defBody st) t/\t { nx:=fun _ H'=>Q .non H',rt:=Q } (start N vs) H) : FnOk P w K mg base CX0 (k + 1) f fd ps sp:=by
 obtain ⟨oc,od,kV,doc,pm,an,ct,osl,rfl,lk,hcd⟩:=F.ex
 refine fn_of lk hcd S len fun A outer s H vs Q E hr hsp=>?_
 obtain ⟨t,h,q⟩:=hbody A outer s H vs Q E hr hsp
 exact ⟨t,h.nox,q⟩
end
end L2
end

section
set_option Elab.async false
set_option linter.all false
set_option maxRecDepth 100000
namespace L2
open PySem PySem.Spec PyProof.Rows
def CallOk (P : Program) (w : World) (K : PySem.W.Frag) (mg : Str->Option Value) (base : Heap) (x : Str) (k : Nat) (ps : List Str) (sp : Sp) : Prop :=
 ∃ f fd,FnOk P w K mg base CX0 k f fd ps sp/\mg x = some (.ref f)/\PySem.W.keepIn K (.ref f) = true/\Binds K fd ps []
section
variable {X : Cx} {x : Str} {k j : Nat} {ps : List Str} {sp : Sp} {e : Expr} {es : List Expr} {p pos : Pos} {t : TA}
theorem pe_cl (C : CallOk X.prog X.w X.K X.mg X.base x k ps sp) (hr : Room j X.A) (ha : PA X (e :: es) t) (hg : Gl X x:=by rfl) (hj : k <= j:=by decide) (hdb : (x == ("__debug__" : Str)) = false:=by decide)
  (he : starEach (e :: es) X.env = (false,eval e X.env) :: starEach es X.env:=by rfl) (hpl : (backTo pos (starEach es X.env)).any (·.1) = false:=by rfl) :
  PE X (.Call (.Name x p) (e :: es) [] pos) (tCall sp [] E0 t):=by
 obtain ⟨f,fd,F,hm,hk,hb⟩:=C
 exact pe_call F (hr.mono hj) hg hm hk hb .nil pass0 ha hdb he hpl
theorem pe_gl {v : V} (h : ∃ u,X.mg x = some u/\RelV v u) (hg : Gl X x:=by rfl) (hd : (x == ("__debug__" : Str)) = false:=by decide) : PE X (.Name x pos) (tC v):=by
 obtain ⟨u,hm,r⟩:=h
 exact pe_glob hg hm r hd
end
def plainE : Expr->Bool
 | .Starred _ _=>false
 | _=>true
theorem star_cons : ∀ (e : Expr) (rest : List Expr) (env : Env),plainE e = true->starEach (e :: rest) env = (false,eval e env) :: starEach rest env:=by
 intro e rest env h
 cases e <;> first | rfl | (cases h)
theorem pa_c {X : Cx} {e : Expr} {es : List Expr} {te : TE} {t : TA} (ha : PE X e te) (hr : PA X es t) (h : plainE e = true:=by rfl) : PA X (e :: es) (tCons te t):=pa_cons ha hr (star_cons e es X.env h)
theorem ixAt {N : List Str} {x : Str} (n : Nat) (h : N[n]? = some x:=by rfl) : N[n]? = some x:=h
theorem compN {N : List Str} (Nc : List Str) (k : Nat) (js : List Nat) (h : (Nc.drop k).map some = js.map (N[·]?):=by rfl) : (Nc.drop k).map some = js.map (N[·]?):=h
theorem boot_ttuple : bootBuiltins ("tuple" : Str) = some (.type "tuple"):=by decide +kernel
theorem boot_isi : bootBuiltins ("isinstance" : Str) = some (.builtin "isinstance"):=by decide +kernel
def tyD : PyData->String
 | .none=>"NoneType"
 | .bool _=>"bool"
 | .int _=>"int"
 | .str _=>"str"
 | .tuple _=>"tuple"
 | .list _=>"list"
 | .dict _=>"dict"
theorem IsD.ty {K : PySem.W.Frag} {ex : List Addr} {H : Hp} : ∀ {d : PyData} {v : V},IsD ex H d v->TyOf K H v (.type (tyD d))
 | .none,_,h=>by cases h;exact .non
 | .bool b,_,h=>by cases h;exact .bl b
 | .int i,_,h=>by cases h;exact .int i
 | .str x,_,h=>by cases h;exact .str x
 | .tuple ds,_,h=>by obtain ⟨a,vs,rfl,_,h3,_⟩:=h;exact .tup h3
 | .list ds,_,h=>by obtain ⟨a,vs,rfl,_,h3,_⟩:=h;exact .lst h3
 | .dict _,_,h=>h.elim
end L2
end

section
set_option Elab.async false
set_option linter.all false
set_option maxRecDepth 100000
namespace L2
open PySem PySem.Spec PyProof.Rows
section
variable {X : Cx}
end
end L2
end

section
set_option Elab.async false
set_option linter.all false
set_option maxRecDepth 100000
namespace L2
open PySem PySem.Spec PyProof.Rows HT
structure Zn where
 ex : List Addr
 p : Addr
 ts : List Addr
structure Cz (z : Zn) (H : Hp) : Prop where
 mem : z.p ∈ z.ex
 al : ∀ b ∈ z.ex,∃ xs,H b = some (.lst xs)
 held : ∃ n : Int,H z.p = some (.lst [.int n])
 tb : Tb z.ts H
structure Stp (z : Zn) (H H' : Hp) : Prop where
 ext : Ext [z.p] H H'
 cz : Cz z H'
theorem Cz.out {z : Zn} {H : Hp} (c : Cz z H) {P : Addr} (h : P ∈ z.ts) : P ∉ z.ex:=fun hm=>by
 obtain ⟨ps,h1,_⟩:=c.tb P h
 obtain ⟨xs,h2⟩:=c.al P hm
 rw [h1] at h2
 cases h2
theorem Cz.ext {z : Zn} {H H' : Hp} (c : Cz z H) (e : Ext [] H H') : Cz z H' :=
 ⟨c.mem,fun b hb=>let ⟨xs,h⟩:=c.al b hb;⟨xs,e.lst (by simp) h⟩,let ⟨n,h⟩:=c.held;⟨n,e.lst (by simp) h⟩,e.tb c.tb (by simp)⟩
theorem Cz.extp {z : Zn} {H H' : Hp} (c : Cz z H) (e : Ext [z.p] H H') (h : ∃ n : Int,H' z.p = some (.lst [.int n])) : Cz z H' :=
 ⟨c.mem,fun b hb=>by
  by_cases q : b = z.p
  ·subst q
   obtain ⟨n,h⟩:=h
   exact ⟨_,h⟩
  ·obtain ⟨xs,h⟩:=c.al b hb
   exact ⟨xs,e.lst (by simpa using q) h⟩,h,e.tb c.tb fun P hP q=>c.out hP (by rw [List.mem_singleton.mp q];exact c.mem)⟩
theorem Stp.refl {z : Zn} {H : Hp} (c : Cz z H) : Stp z H H:=⟨Ext.refl,c⟩
theorem Stp.trans {z : Zn} {H H1 H2 : Hp} (a : Stp z H H1) (b : Stp z H1 H2) : Stp z H H2:=⟨a.ext.trans b.ext,b.cz⟩
theorem Stp.of {z : Zn} {H H' : Hp} (c : Cz z H) (e : Ext [] H H') : Stp z H H':=⟨e.mono (by simp),c.ext e⟩
theorem Stp.ex {z : Zn} {H H' : Hp} (s : Stp z H H') : Ext z.ex H H':=s.ext.mono fun b hb=>by rw [List.mem_singleton.mp hb];exact s.cz.mem
theorem IsD.stp {z : Zn} {H H' : Hp} {d : PyData} {v : V} (h : IsD z.ex H d v) (s : Stp z H H') : IsD z.ex H' d v:=IsD.ext s.ex h
theorem IsDs.stp {z : Zn} {H H' : Hp} {d : List PyData} {v : List V} (h : IsDs z.ex H d v) (s : Stp z H H') : IsDs z.ex H' d v:=IsDs.ext s.ex h
theorem Cz.free {z : Zn} {H : Hp} (c : Cz z H) {q : Addr} (h : H q = none) : q ∉ z.ex:=fun hm=>by
 obtain ⟨xs,h2⟩:=c.al q hm
 rw [h] at h2
 cases h2
def NewD (z : Zn) (Q : VK) (d : PyData) (H : Hp) : Prop := ∀ v H',Stp z H H'->IsD z.ex H' d v->Q v H'
theorem NewD.tup {z : Zn} {Q : VK} {ds : List PyData} {xs : List V} {H : Hp} (k : NewD z Q (.tuple ds) H) (c : Cz z H) (h : IsDs z.ex H ds xs) {q : Addr} (hq : H q = none) : Q (.ref q) (upd H q (.tup xs)) :=
 have e : Ext [] H (upd H q (.tup xs)):=Ext.new hq _
 k _ _ (Stp.of c e) ⟨q,xs,rfl,c.free hq,upd_same,IsDs.ext (e.mono (by simp)) h⟩
theorem NewD.lst {z : Zn} {Q : VK} {ds : List PyData} {xs : List V} {H : Hp} (k : NewD z Q (.list ds) H) (c : Cz z H) (h : IsDs z.ex H ds xs) {q : Addr} (hq : H q = none) : Q (.ref q) (upd H q (.lst xs)) :=
 have e : Ext [] H (upd H q (.lst xs)):=Ext.new hq _
 k _ _ (Stp.of c e) ⟨q,xs,rfl,c.free hq,upd_same,IsDs.ext (e.mono (by simp)) h⟩
theorem NewD.same {z : Zn} {Q : VK} {d : PyData} {v : V} {H : Hp} (k : NewD z Q d H) (c : Cz z H) (h : IsD z.ex H d v) : Q v H:=k v H (Stp.refl c) h
theorem size1000 : 1000 <= sizeLine:=Nat.le_of_lt (small1000 (Nat.le_refl _))
section
variable {X : Cx} {es : List Expr} {t : TA} {pos : Pos}
def tTupD (t : TA) : TE:=fun σ H Q=>t σ H fun xs H1=>∃ (z : Zn) (ds : List PyData),IsDs z.ex H1 ds xs/\ds.length <= 1000/\Cz z H1/\NewD z Q (.tuple ds) H1
def tLstD (t : TA) : TE:=fun σ H Q=>t σ H fun xs H1=>∃ (z : Zn) (ds : List PyData),IsDs z.ex H1 ds xs/\ds.length <= 1000/\Cz z H1/\NewD z Q (.list ds) H1
theorem pe_tupD {x1} (h : PA X es t) : PE X (.Tuple es x1 pos) (tTupD t):=by
 intro pins s σ H Q I hq
 refine wpAny_Tuple_spliced (thn (h pos pins s σ H _ I hq) fun us s1 hz=>?_)
 obtain ⟨xs,H1,I1,r,z,ds,hd,hl,c,k⟩:=hz
 have hxs : xs.length <= sizeLine:=by rw [hd.length];exact Nat.le_trans hl size1000
 refine ⟨by rw [<- r.length];exact hxs,?_⟩
 have hf : H1 s1.heap.objs.size = none:=I1.hok.fresh (Nat.le_refl _)
 exact ⟨.ref s1.heap.objs.size,upd H1 s1.heap.objs.size (.tup xs),I1.laid (t':=s1.toks) (fun b u e=>Heap.get?_push_of_some _ e) (Nat.le_refl _) ⟨hxs,us,r,⟨_,Heap.get?_push_size _ rfl,rfl,_,rfl⟩,_,Heap.get?_push_size _ rfl,rfl⟩,rfl,k.tup c hd hf⟩
theorem pe_lstD (h : PA X es t) : PE X (.List es pos) (tLstD t):=by
 intro pins s σ H Q I hq
 refine wpAny_List_spliced (thn (h pos pins s σ H _ I hq) fun us s1 hz=>?_)
 obtain ⟨xs,H1,I1,r,z,ds,hd,hl,c,k⟩:=hz
 have hxs : xs.length <= sizeLine:=by rw [hd.length];exact Nat.le_trans hl size1000
 refine ⟨by rw [<- r.length];exact hxs,?_⟩
 have hf : H1 s1.heap.objs.size = none:=I1.hok.fresh (Nat.le_refl _)
 exact ⟨.ref s1.heap.objs.size,upd H1 s1.heap.objs.size (.lst xs),I1.laid (t':=s1.toks) (fun b u e=>Heap.get?_push_of_some _ e) (Nat.le_refl _) ⟨hxs,us,0,r,Heap.get?_push_size _ rfl⟩,rfl,k.lst c hd hf⟩
def rCatLD : R2:=fun x y H Q=>∃ (z : Zn) (ds es : List PyData),IsD z.ex H (.list ds) x/\IsD z.ex H (.list es) y/\ds.length + es.length <= 1000/\Cz z H/\NewD z Q (.list (ds ++ es)) H
theorem op_catLD : OpR X (binaryOp .Add) rCatLD:=by
 intro pins s σ H x y v u Q I rx ry h
 obtain ⟨z,ds,es,⟨a,xs,rfl,na,ha,hd⟩,⟨b,ys,rfl,nb,hb,he⟩,hl,c,k⟩:=h
 have l1:=hd.length
 have l2:=he.length
 have:=size1000
 exact op_cat pins s σ H (.ref a) (.ref b) v u Q I rx ry ⟨a,b,xs,ys,rfl,rfl,ha,hb,by omega,fun q hq=>k.lst c (IsDs.append hd he) hq⟩
def cutD (ds : List PyData) (lo hi : Option Int) : List PyData:=(ds.drop (HT.sIx ds.length 0 lo)).take (HT.sIx ds.length ds.length hi - HT.sIx ds.length 0 lo)
theorem IsDs.cut {ex : List Addr} {H : Hp} {ds : List PyData} {xs : List V} (lo hi : Option Int) (h : IsDs ex H ds xs) : IsDs ex H (cutD ds lo hi) (cutV xs lo hi):=by
 unfold cutD cutV
 rw [h.length]
 exact IsDs.take _ (IsDs.drop _ h)
def rSlLD : V->Option Int->Option Int->Hp->VK->Prop:=fun x lo hi H Q=>∃ (z : Zn) (ds : List PyData),IsD z.ex H (.list ds) x/\Cz z H/\NewD z Q (.list (cutD ds lo hi)) H
theorem sl_listD : SlR X rSlLD:=by
 intro pins s σ H x v vl vu lo hi sl Q I rx hs pl pu h
 obtain ⟨z,ds,⟨a,xs,rfl,na,ha,hd⟩,c,k⟩:=h
 exact sl_list pins s σ H (.ref a) v vl vu lo hi sl Q I rx hs pl pu ⟨a,xs,rfl,SqL.of ha,fun q hq=>k.lst c (IsDs.cut lo hi hd) hq⟩
theorem atI_pos {α : Type} {xs : List α} {i : Int} {v : α} (h0 : 0 <= i) (h : xs[i.toNat]? = some v) : atI xs i = some v:=by
 have:=atI_nat h
 rw [show ((i.toNat : Nat) : Int) = i by omega] at this
 exact this
theorem IxR.mono {r r' : R2} (h : IxR X r) (k : ∀ x y H Q,r' x y H Q->r x y H Q) : IxR X r':=by
 intro a1 a2 a3 a4 a5 a6 a7 a8 a9 a10 a11 a12 a13 a14 q
 exact h a1 a2 a3 a4 a5 a6 a7 a8 a9 a10 a11 a12 a13 a14 (k _ _ _ _ q)
def rIxD : R2:=fun x y H Q=>∃ (z : Zn) (ds : List PyData) (i : Int) (d : PyData),(IsD z.ex H (.tuple ds) x\/IsD z.ex H (.list ds) x)/\y = .int i/\0 <= i/\ds[i.toNat]? = some d/\∀ v,IsD z.ex H d v->Q v H
theorem ix_D : IxR X rIxD:=by
 have h1 : IxR X (fun x y H Q=>rIxL X.K x y H Q\/rIxT X.K x y H Q):=ix_list.or ix_tup
 refine IxR.mono h1 fun x y H Q h=>?_
 obtain ⟨z,ds,i,d,hd,rfl,h0,hg,q⟩:=h
 rcases hd with ⟨a,xs,rfl,na,ha,hd⟩ | ⟨a,xs,rfl,na,ha,hd⟩
 ·obtain ⟨v,hv,dv⟩:=hd.get hg
  exact .inr ⟨a,xs,i,v,rfl,rfl,SqT.of ha,atI_pos h0 hv,q v dv⟩
 ·obtain ⟨v,hv,dv⟩:=hd.get hg
  exact .inl ⟨a,xs,i,v,rfl,rfl,SqL.of ha,atI_pos h0 hv,q v dv⟩
end
mutual
theorem IsD.more {ex : List Addr} {H : Hp} {l : Addr} (h0 : H l = none) : ∀ {d : PyData} {v : V},IsD ex H d v->IsD (l :: ex) H d v
 | .none,_,h=>h
 | .bool _,_,h=>h
 | .int _,_,h=>h
 | .str _,_,h=>h
 | .tuple ds,v,h=>by
  obtain ⟨a,vs,h1,h2,h3,h4⟩:=h
  refine ⟨a,vs,h1,fun z=>?_,h3,IsDs.more h0 h4⟩
  rcases List.mem_cons.mp z with rfl | z
  ·rw [h0] at h3;cases h3
  ·exact h2 z
 | .list ds,v,h=>by
  obtain ⟨a,vs,h1,h2,h3,h4⟩:=h
  refine ⟨a,vs,h1,fun z=>?_,h3,IsDs.more h0 h4⟩
  rcases List.mem_cons.mp z with rfl | z
  ·rw [h0] at h3;cases h3
  ·exact h2 z
 | .dict _,_,h=>h.elim
theorem IsDs.more {ex : List Addr} {H : Hp} {l : Addr} (h0 : H l = none) : ∀ {ds : List PyData} {vs : List V},IsDs ex H ds vs->IsDs (l :: ex) H ds vs
 | [],_,h=>h
 | d :: ds,vs,h=>by
  obtain ⟨v,r,h1,h2,h3⟩:=h
  exact ⟨v,r,h1,IsD.more h0 h2,IsDs.more h0 h3⟩
end
def Zn.with (z : Zn) (l : Addr) : Zn:=⟨l :: z.ex,z.p,z.ts⟩
structure Stl (z : Zn) (l : Addr) (H H' : Hp) : Prop where
 ext : Ext [l,z.p] H H'
 cz : Cz (z.with l) H'
theorem Cz.with {z : Zn} {H : Hp} {l : Addr} {xs : List V} (c : Cz z H) (h0 : H l = none) : Cz (z.with l) (upd H l (.lst xs)):=by
 have c':=c.ext (Ext.new h0 (.lst xs))
 refine ⟨List.mem_cons_of_mem _ c.mem,fun b hb=>?_,c'.held,c'.tb⟩
 rcases List.mem_cons.mp hb with rfl | hb
 ·exact ⟨xs,upd_same⟩
 ·exact c'.al b hb
theorem Cz.less {z : Zn} {H : Hp} {l : Addr} (c : Cz (z.with l) H) (hp : z.p ∈ z.ex) : Cz z H:=⟨hp,fun b hb=>c.al b (List.mem_cons_of_mem _ hb),c.held,c.tb⟩
theorem Stl.back {z : Zn} {l : Addr} {H H' : Hp} (s : Stl z l H H') (h0 : H l = none) (hp : z.p ∈ z.ex) : Stp z H H':=by
 refine ⟨⟨fun b o hb h n=>s.ext.old b o (fun q=>?_) h n,fun b ps hb h=>s.ext.tab b ps (fun q=>?_) h⟩,s.cz.less hp⟩
 all_goals
  rcases List.mem_cons.mp q with rfl | q
  ·rw [h0] at h;cases h
  ·exact hb q
theorem Stl.new {z : Zn} {H : Hp} {l : Addr} {xs : List V} (c : Cz z H) (h0 : H l = none) : Stl z l H (upd H l (.lst xs)):=⟨Ext.new h0 _,c.with h0⟩
theorem Stl.stp {z : Zn} {l : Addr} {H H1 H2 : Hp} (a : Stl z l H H1) (b : Stp (z.with l) H1 H2) : Stl z l H H2:=⟨a.ext.trans (b.ext.mono fun q hq=>List.mem_cons_of_mem _ hq),b.cz⟩
theorem Stl.put {z : Zn} {l : Addr} {H H1 : Hp} {xs : List V} (a : Stl z l H H1) (hne : l ≠ z.p) : Stl z l H (upd H1 l (.lst xs)):=by
 have e : Ext [l,z.p] H1 (upd H1 l (.lst xs)):=Ext.put (by simp) _
 have c:=a.cz
 refine ⟨a.ext.trans e,c.mem,fun b hb=>?_,?_,(Ext.put (ex:=[l]) (by simp) _).tb c.tb fun P hP q=>c.out hP (by rw [List.mem_singleton.mp q];exact List.mem_cons_self)⟩
 ·by_cases q : b = l
  ·subst q
   exact ⟨xs,upd_same⟩
  ·obtain ⟨ys,h⟩:=c.al b hb
   exact ⟨ys,by rw [upd_ne q];exact h⟩
 ·obtain ⟨n,h⟩:=c.held
  exact ⟨n,by rw [upd_ne (show (z.with l).p ≠ l from fun q=>hne q.symm)];exact h⟩
theorem Stl.ex {z : Zn} {l : Addr} {H H' : Hp} (s : Stl z l H H') : Ext (z.with l).ex H H':=s.ext.mono fun b hb=>by
 rcases List.mem_cons.mp hb with rfl | hb
 ·exact List.mem_cons_self
 ·rw [List.mem_singleton.mp hb];exact s.cz.mem
theorem IsD.stl {z : Zn} {l : Addr} {H H' : Hp} {d : PyData} {v : V} (h : IsD (z.with l).ex H d v) (s : Stl z l H H') : IsD (z.with l).ex H' d v:=IsD.ext s.ex h
theorem IsDs.stl {z : Zn} {l : Addr} {H H' : Hp} {d : List PyData} {v : List V} (h : IsDs (z.with l).ex H d v) (s : Stl z l H H') : IsDs (z.with l).ex H' d v:=IsDs.ext s.ex h
theorem put_ext {l : Addr} {H : Hp} {ex : List Addr} {o : HO} (h : l ∈ ex) {ds : List PyData} {vs : List V} (hd : IsDs ex H ds vs) : IsDs ex (upd H l o) ds vs:=IsDs.ext (Ext.put h _) hd
end L2
end

section
set_option Elab.async false
set_option linter.all false
set_option maxRecDepth 100000
namespace L2
open PySem PySem.Spec PyProof.Rows
def tx (l : List Nat) : Str:=⟨l.toArray⟩
theorem tx_len (l : List Nat) : (tx l).length = l.length:=by show l.toArray.size = _;simp
theorem tx_append (a b : List Nat) : tx a ++ tx b = tx (a ++ b):=by
 show (⟨a.toArray ++ b.toArray⟩ : Str) = ⟨(a ++ b).toArray⟩
 simp
theorem tx_inj {a b : List Nat} (h : tx a = tx b) : a = b:=by
 have h2 : a.toArray = b.toArray:=congrArg Str.cps h
 simpa using h2
theorem tx_slice_to {l : List Nat} {i : Int} (h0 : 0 <= i) (h1 : i <= l.length) : Txt.slice (tx l) none (some i) = tx (l.take i.toNat):=by
 have h:=eq_of_beq (slice_closes_to (x:=tx l) (j:=i) ⟨h0,by simpa [tx] using h1⟩)
 rw [h]
 simp [tx]
theorem tx_slice_from {l : List Nat} {i : Int} (h0 : 0 <= i) (h1 : i <= l.length) : Txt.slice (tx l) (some i) none = tx (l.drop i.toNat):=by
 have h:=eq_of_beq (slice_closes_from (x:=tx l) (i:=i) ⟨h0,by simpa [tx] using h1⟩)
 rw [h]
 have e : ((tx l).cps.toList.drop i.toNat).take (((tx l).cps.toList.length : Int) - i).toNat = l.drop i.toNat:=by
  rw [List.take_of_length_le]
  ·simp [tx]
  ·simp [tx]
   omega
 rw [e]
 rfl
theorem tx_join : ∀ l : List Nat,Txt.join ("" : Str) (l.map fun c=>tx [c]) = tx l:=by
 intro l
 rw [show Txt.join ("" : Str) (l.map fun c=>tx [c]) = Str.join ("" : Str) (l.map fun c=>tx [c]) from PySem.StrLaws.glued_eq_join _ _]
 induction l with
 | nil=>rfl
 | cons c l ih =>
  cases l with
  | nil=>rfl
  | cons d r =>
   have e0 : ("" : Str) = tx []:=by decide +kernel
   show tx [c] ++ ("" : Str) ++ Str.join ("" : Str) ((d :: r).map fun c=>tx [c]) = _
   rw [ih,e0,tx_append,tx_append]
   rfl
theorem map_len1 (l : List Nat) : ((l.map fun c=>tx [c]).map (·.length)).sum = l.length:=by
 induction l with
 | nil=>rfl
 | cons c l ih =>
  rw [List.map_cons,List.map_cons,List.sum_cons,ih,tx_len]
  simp
  omega
theorem cut_to {ds : List PyData} {i : Int} (h : 0 <= i) : cutD ds none (some i) = ds.take i.toNat:=by
 unfold cutD
 show (ds.drop 0).take ((if i < 0 then _ else min i.toNat ds.length) - 0) = _
 rw [if_neg (by omega),List.drop_zero,Nat.sub_zero]
 by_cases q : i.toNat <= ds.length
 ·rw [Nat.min_eq_left q]
 ·rw [Nat.min_eq_right (by omega),List.take_length,List.take_of_length_le (by omega)]
end L2
end

section
set_option Elab.async false
set_option linter.all false
set_option maxRecDepth 100000
namespace L2
open PySem PySem.Spec PyProof.Rows
def fmtV : V->Option Str
 | .str x=>if x.length <= 1000 then some x else none
 | .int i=>if i.natAbs.log2 < 1920 then some (toString i : String) else none
 | _=>none
def tFmt (te : TE) : TE:=fun σ H Q=>te σ H fun v H1=>∃ x,fmtV v = some x/\Q (.str x) H1
abbrev TJ:=St->Hp->Str->(Str->Hp->Prop)->Prop
def tJ0 : TJ:=fun _ H acc Q=>acc.length <= sizeLine/\Q acc H
def tJ1 (te : TE) (r : TJ) : TJ:=fun σ H acc Q=>te σ H fun v H1=>∃ y,v = .str y/\(acc ++ y).length <= sizeLine/\r σ H1 (acc ++ y) Q
def PJ (X : Cx) (vs : List Expr) (t : TJ) : Prop := ∀ (pins : List (Addr × Obj)) (s : Shared) (σ : St) (H : Hp) (acc : Str) (Q : Str->Hp->Prop),Inv X pins σ H s->t σ H acc Q ->
 Joins (model X.prog X.w) X.A X.xe (evalEach vs X.env) acc (fun out s₁=>out.length <= sizeLine/\∃ H',Inv X pins σ H' s₁/\Q out H') s
section
variable {X : Cx} {e v₁ v₂ : Expr} {es rest : List Expr} {te : TE} {r : TJ} {pos : Pos}
theorem pj_nil : PJ X [] tJ0:=fun pins s σ H acc Q I h=>⟨h.1,H,I,h.2⟩
theorem pj_cons (he : PE X e te) (hr : PJ X es r) (h : evalEach (e :: es) X.env = eval e X.env :: evalEach es X.env:=by rfl) : PJ X (e :: es) (tJ1 te r):=fun pins s σ H acc Q I q=>by
 rw [h]
 refine thn (he pins s σ H _ I q) fun u s1 ⟨v,H1,I1,rv,y,ev,hl,q1⟩=>?_
 subst ev
 obtain ⟨tk,rfl⟩ : ∃ tk,u = Value.str y tk:=rv
 exact ⟨y,tk,rfl,hl,hr pins s1 σ H1 _ Q I1 q1⟩
def tJoin (r : TJ) : TE:=fun σ H Q=>r σ H Str.empty fun x H1=>Q (.str x) H1
theorem joins_mono {M : Model} {A : Around} {E : Value->Shared->Prop} {Q Q' : Str->Shared->Prop} (hq : ∀ out s,Q out s->Q' out s) : ∀ (l : List (Sem Value)) (acc : Str) (s : Shared),Joins M A E l acc Q s->Joins M A E l acc Q' s
 | [],acc,s,h=>hq _ _ h
 | _ :: l,acc,s,h=>thn h fun v s1 ⟨y,tk,ev,hl,z1⟩=>⟨y,tk,ev,hl,joins_mono hq l _ _ z1⟩
theorem pe_join (h : PJ X (v₁ :: v₂ :: rest) r) : PE X (.JoinedStr (v₁ :: v₂ :: rest) pos) (tJoin r):=fun pins s σ H Q I q =>
 wpAny_JoinedStr (joins_mono (fun out s1 ⟨hl,H',I',q'⟩=>⟨hl,V.str out,H',I'.tok _,⟨_,rfl⟩,q'⟩) _ _ _ (h pins s σ H Str.empty _ I q))
theorem pe_fmt (he : PE X e te) : PE X (.FormattedValue e (-1) none pos) (tFmt te):=fun pins s σ H Q I q=>by
 refine wpAny_FormattedValue_plain (thn (he pins s σ H _ I q) fun u s1 ⟨v,H1,I1,rv,x,ev,q1⟩=>?_)
 cases v with
 | str y =>
  obtain ⟨tk,rfl⟩ : ∃ tk,u = Value.str y tk:=rv
  have ev : (if y.length <= 1000 then some y else none) = some x:=ev
  split at ev
  ·rename_i hl
   cases ev
   refine wpAny_formatField_str ⟨V.str _,H1,I1,⟨_,rfl⟩,q1⟩ ⟨V.str _,H1,I1.tok _,⟨_,rfl⟩,q1⟩ (Nat.le_of_lt (small1000 hl))
  ·cases ev
 | int i =>
  obtain ⟨tk,rfl⟩ : ∃ tk,u = Value.int i tk:=rv
  have ev : (if i.natAbs.log2 < 1920 then some (Str.ofString (toString i)) else none) = some x:=ev
  split at ev
  ·rename_i hl
   cases ev
   exact wpAny_formatField_int hl ⟨V.str _,H1,I1.tok _,⟨_,rfl⟩,q1⟩
  ·cases ev
 | _=>cases ev
end
end L2
end

section
set_option Elab.async false
set_option linter.all false
set_option maxRecDepth 100000
namespace L2
open PySem PySem.Spec PyProof.Rows
open AutoSeq1 (wpAny_loadPart')
theorem Inv.turnedNew {X : Cx} {pins : List (Addr × Obj)} {σ : St} {H : Hp} {s : Shared} {h' : Heap} {t' : Nat} {fp : List Addr} {T : Addr} {xs : List V} {its : List Value} (I : Inv X pins σ H s) (hf : ∀ b ∈ fp,FpOk X pins H b) (k : ∀ b o,b ∉ fp->s.heap.get? b = some o->h'.get? b = some o)
  (hx : ∀ b ∈ fp,∃ o,h'.get? b = some o) (hT : s.heap.objs.size <= T) (ht : IsTup h' T its.toArray/\∃ o,h'.get? T = some o/\o.dict = none) (r : Vals xs its) (hl : xs.length <= sizeLine) : Inv X pins σ (upd H T (.tup xs)) { s with heap:=h',toks:=t' }:=by
 have fr : H T = none:=I.hok.fresh hT
 have nT : ∀ {b o},s.heap.get? b = some o->b ≠ T:=fun z y=>absurd (Heap.lt_size z) (Nat.not_lt.mpr (y ▸ hT))
 have kH : ∀ b u,H b = some u->upd H T (.tup xs) b = some u:=fun b u z=>by rw [upd_ne (fun y=>by rw [y,fr] at z;cases z)];exact z
 have nf : ∀ b u,H b = some u->b ∉ fp:=fun b u z y=>by rw [(hf b y).1] at z;cases z
 refine I.step (g':=s.gens) (d':=s.drawn) (ch:=fp) (fun b hb=>⟨(hf b hb).2.2.2.1,(hf b hb).2.1,(hf b hb).2.2.2.2.1,(hf b hb).2.2.2.2.2⟩) (fun b o _ _ hb z _=>k b o hb z) (fun b o _ _ hb z _=>⟨o.slots,k b o hb z⟩) (fun b o _ z n=>by rw [upd_ne (nT z)];exact n)
  (fun b o hb z=>⟨o,k b o hb z⟩) (fun b ys z=>kH b _ z) (fun b o u z=>kH b _ z) (fun b ps z=>⟨#[],by rw [kH b _ z];simp⟩) (fun m hn=>?_) (fun b u z=>?_) ⟨I.bare.1,Nat.le_refl _⟩
 ·obtain ⟨o,es,ep,ho,rr⟩:=hn
  exact ⟨o,es,ep,k _ o (fun y=>(hf _ y).2.1 rfl) ho,rr⟩
 ·by_cases hb : b = T
  ·subst hb
   rw [upd_same] at z
   cases z
   exact ⟨hl,its,r,ht⟩
  ·rw [upd_ne hb] at z
   refine (I.hok b u z).stay (fun c v hc y=>k c v (fun x=>?_) y) (fun c y=>kH c _ y) (fun c ys y=>kH c _ y)
   rcases hc with e | e
   ·rw [e] at x;exact nf b u z x
   ·exact nf c _ e x
section
variable {prog : Program} {w : World} {A : Around} {E : Value->Shared->Prop} {s : Shared}
theorem nextOf_titem {it l : Addr} {i : Nat} {items : Array Value} {x : Value} {Q : Value->Shared->Prop} (hit : s.heap.IsTupleIter it l i) (hl : s.heap.IsTuple l items) (hx : items[i]? = some x)
  (hQ : ∀ h',h'.IsTupleIter it l (i + 1)->Heap.SameBut it s.heap h'->Q x { s with heap:=h' }) : wpAny (model prog w) A (Builtin.SmallTypes.nextOf (.ref it)) Q E s:=by
 obtain ⟨o,ho,hc,hd⟩:=id hit
 obtain ⟨ol,hol,_,nl,hdl⟩:=hl
 unfold Builtin.SmallTypes.nextOf
 refine wpAny_bind (wpAny_callSpecial?_slot (name:=Str.ofString "__next__") hit.typeIs F.slot_tuple_iterator_next (wpAny_call_entry F.slot_tuple_iterator_next hit.typeIs F.entry_tuple_iterator_next ?_ (F.args_tuple_iterator_next_1 _)))
 show wpAny _ _ (field (.ref it) 0 >>= _) _ _ s
 refine wpAny_bind (wpAny_field ho hd (x:=.ref l) rfl ?_)
 show wpAny _ _ (if (Value.ref l == Value.none) = true then _ else _) _ _ s
 rw [if_neg (by simp)]
 show wpAny _ _ (field (.ref it) 1 >>= _) _ _ s
 refine wpAny_bind (wpAny_field ho hd (x:=.int i 0) rfl ?_)
 show wpAny _ _ (seqItems? (.ref l) >>= _) _ _ s
 refine wpAny_bind (wpAny_seqItems hol hdl ?_)
 simp only [Int.toNat_natCast,hx]
 refine wpAny_bind (wpAny_setField ho hd (by simp) (wpAny_pure ⟨x,rfl,wpAny_pure (hQ _ ⟨_,Heap.get?_update_self _ ho (Obj.isFreed_of_fields (Obj.data_mapFields hd _)),(Obj.cls_mapFields ..).trans hc,?_⟩ (Heap.SameBut.update ..))⟩))
 rw [Obj.data_mapFields hd];simp [rawInt]
theorem nextOf_tend {it l : Addr} {i : Nat} {items : Array Value} {Q : Value->Shared->Prop} (hh : A.handled = none) (hit : s.heap.IsTupleIter it l i) (hl : s.heap.IsTuple l items) (hx : items[i]? = none)
  (hE : ∀ h' e,Heap.ExtBut it s.heap h'->(∃ o,h'.get? e = some o/\o.cls = .type "StopIteration")->E (.ref e) { s with heap:=h' }) : wpAny (model prog w) A (Builtin.SmallTypes.nextOf (.ref it)) Q E s:=by
 obtain ⟨o,ho,hc,hd⟩:=id hit
 obtain ⟨ol,hol,_,nl,hdl⟩:=hl
 unfold Builtin.SmallTypes.nextOf
 refine wpAny_bind (wpAny_callSpecial?_slot (name:=Str.ofString "__next__") hit.typeIs F.slot_tuple_iterator_next (wpAny_call_entry F.slot_tuple_iterator_next hit.typeIs F.entry_tuple_iterator_next ?_ (F.args_tuple_iterator_next_1 _)))
 show wpAny _ _ (field (.ref it) 0 >>= _) _ _ s
 refine wpAny_bind (wpAny_field ho hd (x:=.ref l) rfl ?_)
 show wpAny _ _ (if (Value.ref l == Value.none) = true then _ else _) _ _ s
 rw [if_neg (by simp)]
 show wpAny _ _ (field (.ref it) 1 >>= _) _ _ s
 refine wpAny_bind (wpAny_field ho hd (x:=.int i 0) rfl ?_)
 show wpAny _ _ (seqItems? (.ref l) >>= _) _ _ s
 refine wpAny_bind (wpAny_seqItems hol hdl ?_)
 simp only [Int.toNat_natCast,hx]
 refine wpAny_bind (wpAny_rule (wpAny_bind (wpAny_setField ho hd (by simp) ?_)))
 show wpAny _ _ (newExc (.type "StopIteration") [] >>= _) _ _ _
 refine wpAny_bind ?_
 simp only [newExc,newTuple]
 refine wpAny_bind (wpAny_newObj_type (wpAny_bind (m:=firstArgMember _ _) (wpAny_of_eq (a:=Value.none) (by first | rfl | (simp only [firstArgMember];rfl)) (wpAny_newObj_type ?_ (by size_fits)))) (by size_fits))
 simp only [raiseNew]
 refine wpAny_bind (wpAny_handled ?_)
 rw [show A.in1.handled = none from hh]
 exact wpAny_bind (wpAny_pure (wpAny_throw (hE _ _ (((Heap.SameBut.update ..).extBut.push _).push _) ⟨_,Heap.get?_push_size _ rfl,rfl⟩)))
end
theorem _root_.PySem.Draws.tuple {prog : Program} {w : World} {A : Around} (hh : A.handled = none) (it l : Addr) (hne : l ≠ it) (items : Array Value) :
  Draws prog w A it [it,l] items.size (fun i v=>items[i]? = some v) (fun i h=>h.IsTupleIter it l i/\h.IsTuple l items) where
 live:=fun _ _ st=>let ⟨o,ho,_⟩:=st.1;⟨o,ho⟩
 frame:=fun _ _ _ st hk=>⟨st.1.at fun o e=>hk it (by simp) o e,st.2.at fun o e=>hk l (by simp) o e⟩
 item:=fun i s Q E hi st hQ=>nextOf_titem st.1 st.2 (x:=items[i]) (by simp [hi]) fun h' hit' hs'=>hQ _ h' s.toks (by simp [hi]) ⟨hit',st.2.extBut hs'.extBut hne⟩ hs'
 done:=fun s Q E st hE=>nextOf_tend hh st.1 st.2 (by simp) hE
section
variable {prog : Program} {w : World} {A : Around} {E : Value->Shared->Prop} {s : Shared}
end
section
variable {X : Cx} {elts : List Expr} {k : Nat} {tpos : Pos}
end
section
variable {prog : Program} {w : World} {A : Around} {E : Value->Shared->Prop} {s : Shared}
end
section
variable {X : Cx} {elts : List Expr} {k : Nat} {tpos : Pos}
end
end L2
end

section
set_option Elab.async false
set_option linter.all false
set_option maxRecDepth 100000
namespace L2
open PySem PySem.Spec PyProof.Rows PySem.Builtin PySem.Builtin.Str
section
variable {X : Cx}
end
end L2
end

section
set_option Elab.async false
set_option linter.all false
set_option maxRecDepth 100000
namespace L2
open PySem PySem.Spec PyProof.Rows
structure ZA (z TI TO i j : Addr) (fp gp : List Addr) : Prop where
 nd : [z,TI,TO,i,j].Nodup
 f : ∀ b ∈ fp,b ≠ z/\b ≠ TO/\b ≠ j/\b ≠ TI
 g : ∀ b ∈ gp,b ≠ z/\b ≠ TO/\b ≠ i/\b ≠ TI
theorem boot_zip : bootBuiltins ("zip" : Str) = some (.type "zip"):=by decide +kernel
section
variable {prog : Program} {w : World} {A : Around} {E : Value->Shared->Prop} {s : Shared} {z TI TO i j : Addr} {fp gp : List Addr} {n m k : Nat} {P R : Nat->Value->Prop} {St Su : Nat->Heap->Prop} {a b : Value}
theorem zip_turn {Q : Value->Shared->Prop} (Z : ZA z TI TO i j fp gp) (D : Draws prog w A i fp n P St) (G : Draws prog w A j gp m R Su) (hz : IsZip s.heap z TI TO .none) (hI : IsPair s.heap TI (.ref i) (.ref j)) (hO : IsPair s.heap TO a b) (h1 : St k s.heap) (h2 : Su k s.heap) (hk : k < n) (hm : k < m)
  (hQ : ∀ x y h' tk,P k x->R k y->IsZip h' z TI TO (rawInt s.heap.objs.size)->IsPair h' TI (.ref i) (.ref j)->IsPair h' TO x y->St (k + 1) h'->Su (k + 1) h'->IsPair h' s.heap.objs.size x y->(∀ c o,c ∉ [z,TO,i,j]->s.heap.get? c = some o->h'.get? c = some o)->Q (.ref s.heap.objs.size) { s with heap:=h',toks:=tk }) :
  wpAny (model prog w) A (Builtin.«zip.__next__» ⟨[.ref z],[]⟩) (fun fin s'=>∃ v,fin = .done (.ret v)/\Q v s') E s:=by
 have nd:=Z.nd
 simp only [List.nodup_cons,List.mem_cons,List.not_mem_nil,or_false,not_or,List.nodup_nil,and_true,not_false_eq_true] at nd
 obtain ⟨⟨nzI,nzO,nzi,nzj⟩,⟨nIO,nIi,nIj⟩,⟨nOi,nOj⟩,nij⟩:=nd
 obtain ⟨hp,g,d,t0,os⟩:=s
 show wpAny _ _ (field (.ref z) 2 >>= _) _ _ _
 refine wpAny_bind (wpAny_field hz rfl (x:=.bool false) rfl ?_)
 show wpAny _ _ (field (.ref z) 3 >>= _) _ _ _
 refine wpAny_bind (wpAny_field hz rfl (x:=.ref TI) rfl (wpAny_bind (wpAny_seqItems hI rfl ?_)))
 show wpAny _ _ (Builtin.SmallTypes.ownedTupleIsFree (.ref z) >>= _) _ _ _
 refine wpAny_bind ?_
 unfold Builtin.SmallTypes.ownedTupleIsFree
 refine wpAny_bind (wpAny_field hz rfl (x:=.none) rfl (wpAny_pure ?_))
 simp only [if_true]
 refine wpAny_bind (wpAny_rule (wpAny_bind (wpAny_field hz rfl (x:=.ref TO) rfl (wpAny_bind (wpAny_setField_rec hz (by simp) fun hA zA sA=>wpAny_bind ?_)))))
 replace zA : IsZip hA z TI TO .ellipsis:=zA
 replace sA : Heap.SameBut z hp hA:=sA
 simp only [List.zipIdx_cons,List.zipIdx_nil,List.forIn_cons,List.forIn_nil]
 refine wpAny_bind (wpAny_bind (wpAny_onRaise ?_))
 show wpAny _ _ (Builtin.SmallTypes.nextOf (.ref i) >>= _) _ _ _
 have h1A : St k hA:=D.frame _ _ _ h1 fun b hb o q=>(sA.2 b (Z.f b hb).1).trans q
 refine wpAny_bind (D.item k _ _ _ hk h1A fun x hB tB px h1B sB=>wpAny_pure ?_)
 replace sB : Heap.SameBut i hA hB:=sB
 have OB : IsPair hB TO a b:=(sB.2 _ nOi).trans ((sA.2 _ (Ne.symm nzO)).trans hO)
 refine wpAny_bind (wpAny_seqItems OB rfl (wpAny_bind (wpAny_updateSeq_pair (s:=⟨hB,g,d,tB,os⟩) OB fun hC OC sC=>wpAny_bind (wpAny_letGo (wpAny_pure ?_)))))
 replace OC : IsPair hC TO x b:=OC
 replace sC : Heap.SameBut TO hB hC:=sC
 refine wpAny_bind (wpAny_bind (wpAny_onRaise ?_))
 show wpAny _ _ (Builtin.SmallTypes.nextOf (.ref j) >>= _) _ _ _
 have h2C : Su k hC:=G.frame _ _ _ h2 fun b hb o q=>(sC.2 b (Z.g b hb).2.1).trans ((sB.2 b (Z.g b hb).2.2.1).trans ((sA.2 b (Z.g b hb).1).trans q))
 refine wpAny_bind (G.item k _ _ _ hm h2C fun y hD tD py h2D sD=>wpAny_pure ?_)
 replace sD : Heap.SameBut j hC hD:=sD
 have OD : IsPair hD TO x b:=(sD.2 _ nOj).trans OC
 refine wpAny_bind (wpAny_seqItems OD rfl (wpAny_bind (wpAny_updateSeq_pair (s:=⟨hD,g,d,tD,os⟩) OD fun hE OE sE=>wpAny_bind (wpAny_letGo (wpAny_pure (wpAny_pure ?_))))))
 replace OE : IsPair hE TO x y:=OE
 replace sE : Heap.SameBut TO hD hE:=sE
 refine wpAny_bind (wpAny_seqItems OE rfl (wpAny_bind (wpAny_newTuple ?_)))
 have sz : hE.objs.size = hp.objs.size:=by rw [sE.1,sD.1,sC.1,sB.1,sA.1]
 have zE : IsZip hE z TI TO .ellipsis:=(sE.2 _ nzO).trans ((sD.2 _ nzj).trans ((sC.2 _ nzO).trans ((sB.2 _ nzi).trans zA)))
 have kE : ∀ c o,c ∉ [z,TO,i,j]->hp.get? c = some o->hE.get? c = some o:=fun c o hc q=>by
  simp only [List.mem_cons,List.not_mem_nil,or_false,not_or] at hc
  exact (sE.2 _ hc.2.1).trans ((sD.2 _ hc.2.2.2).trans ((sC.2 _ hc.2.1).trans ((sB.2 _ hc.2.2.1).trans ((sA.2 _ hc.1).trans q))))
 have zlt : z < hE.objs.size:=Heap.lt_size zE
 have up1 : ∀ c o,hE.get? c = some o->(hE.push { cls:=.type "tuple",data:=.seq #[x,y] }).get? c = some o:=fun c o q=>Heap.get?_push_of_some _ q
 show wpAny _ _ (Builtin.SmallTypes.ownedTupleHandOut (.ref z) (.ref hE.objs.size) >>= _) _ _ _
 refine wpAny_bind ?_
 unfold Builtin.SmallTypes.ownedTupleHandOut
 refine wpAny_bind (wpAny_setField_rec (up1 _ _ zE) (by simp) fun hF zF sF=>?_)
 replace zF : IsZip hF z TI TO (rawInt hE.objs.size):=zF
 refine wpAny_setField_rec zF (by simp) fun hG zG sG=>?_
 replace zG : IsZip hG z TI TO (rawInt hE.objs.size):=zG
 have up : ∀ c o,c ≠ z->hE.get? c = some o->hG.get? c = some o:=fun c o hc q=>(sG.2 c hc).trans ((sF.2 c hc).trans (up1 c o q))
 have TG : IsPair hG hE.objs.size x y:=(sG.2 _ (Nat.ne_of_gt zlt)).trans ((sF.2 _ (Nat.ne_of_gt zlt)).trans (Heap.get?_push_size _ rfl))
 rw [sz] at zG TG
 refine wpAny_pure ⟨_,rfl,?_⟩
 show Q (.ref hE.objs.size) _
 rw [sz]
 have st1 : St (k + 1) hG:=D.frame _ _ _ h1B fun b hb o q=>up b o (Z.f b hb).1 ((sE.2 b (Z.f b hb).2.1).trans ((sD.2 b (Z.f b hb).2.2.1).trans ((sC.2 b (Z.f b hb).2.1).trans q)))
 have st2 : Su (k + 1) hG:=G.frame _ _ _ h2D fun b hb o q=>up b o (Z.g b hb).1 ((sE.2 b (Z.g b hb).2.1).trans q)
 refine hQ x y hG tD px py zG (up _ _ (Ne.symm nzI) (kE _ _ (by simp [Ne.symm nzI,nIO,nIi,nIj]) hI)) (up _ _ (Ne.symm nzO) OE) st1 st2 TG fun c o hc q=>up c o ?_ (kE c o hc q)
 intro h
 rw [h] at hc
 simp at hc
theorem zip_ends {Q : Option Value->Shared->Prop} (Z : ZA z TI TO i j fp gp) (D : Draws prog w A.in1 i fp n P St) (hz : IsZip s.heap z TI TO .none) (hI : IsPair s.heap TI (.ref i) (.ref j)) (h1 : St n s.heap)
  (hQ : ∀ h',(∀ c o,c ∉ [z,TO,i,j]->s.heap.get? c = some o->h'.get? c = some o)->Q none { s with heap:=h' }) : wpAny (model prog w) A (pyNext (.ref z)) Q E s:=by
 have nd:=Z.nd
 simp only [List.nodup_cons,List.mem_cons,List.not_mem_nil,or_false,not_or,List.nodup_nil,and_true,not_false_eq_true] at nd
 obtain ⟨⟨nzI,nzO,nzi,nzj⟩,⟨nIO,nIi,nIj⟩,⟨nOi,nOj⟩,nij⟩:=nd
 have hT : s.TypeIs (.ref z) "zip" := ⟨_,hz,rfl⟩
 obtain ⟨hp,g,d,t0,os⟩:=s
 unfold pyNext
 refine wpAny_bind (wpAny_attempt (wpAny_callSpecial?_slot (name:=Str.ofString "__next__") hT F.slot_zip_next (wpAny_call_entry F.slot_zip_next hT F.entry_zip_next ?_ (F.args_zip_next_1 _))))
 show wpAny _ _ (field (.ref z) 2 >>= _) _ _ _
 refine wpAny_bind (wpAny_field hz rfl (x:=.bool false) rfl ?_)
 show wpAny _ _ (field (.ref z) 3 >>= _) _ _ _
 refine wpAny_bind (wpAny_field hz rfl (x:=.ref TI) rfl (wpAny_bind (wpAny_seqItems hI rfl ?_)))
 show wpAny _ _ (Builtin.SmallTypes.ownedTupleIsFree (.ref z) >>= _) _ _ _
 refine wpAny_bind ?_
 unfold Builtin.SmallTypes.ownedTupleIsFree
 refine wpAny_bind (wpAny_field hz rfl (x:=.none) rfl (wpAny_pure ?_))
 simp only [if_true]
 refine wpAny_bind (wpAny_rule (wpAny_bind (wpAny_field hz rfl (x:=.ref TO) rfl (wpAny_bind (wpAny_setField_rec hz (by simp) fun hA zA sA=>wpAny_bind ?_)))))
 replace zA : IsZip hA z TI TO .ellipsis:=zA
 replace sA : Heap.SameBut z hp hA:=sA
 simp only [List.zipIdx_cons,List.zipIdx_nil,List.forIn_cons,List.forIn_nil]
 refine wpAny_bind (wpAny_bind (wpAny_onRaise ?_))
 show wpAny _ _ (Builtin.SmallTypes.nextOf (.ref i) >>= _) _ _ _
 have h1A : St n hA:=D.frame _ _ _ h1 fun b hb o q=>(sA.2 b (Z.f b hb).1).trans q
 refine wpAny_bind (D.done ⟨hA,g,d,t0,os⟩ _ _ h1A fun hB e sB ⟨oe,he,hce⟩=>?_)
 have zB : IsZip hB z TI TO .ellipsis:=sB _ _ nzi zA
 have nez : e ≠ z:=fun x=>by subst x;rw [zB] at he;cases he;simp at hce
 refine wpAny_setField_rec zB (by simp) fun hC _ sC=>?_
 replace sC : Heap.SameBut z hB hC:=sC
 refine wpAny_bind (wpAny_isInstance (T := "StopIteration") (b:=true) ⟨oe,(sC.2 _ nez).trans he,hce⟩ isSubtype_stop (wpAny_pure (hQ _ fun c o hc q=>?_)))
 simp only [List.mem_cons,List.not_mem_nil,or_false,not_or] at hc
 exact (sC.2 _ hc.1).trans (sB _ _ hc.2.2.1 ((sA.2 _ hc.1).trans q))
theorem pyNext_zip {Q : Option Value->Shared->Prop} (Z : ZA z TI TO i j fp gp) (D : Draws prog w A.in1 i fp n P St) (G : Draws prog w A.in1 j gp m R Su) (hz : IsZip s.heap z TI TO .none) (hI : IsPair s.heap TI (.ref i) (.ref j)) (hO : IsPair s.heap TO a b) (h1 : St k s.heap) (h2 : Su k s.heap) (hk : k < n) (hm : k < m)
  (hQ : ∀ x y h' tk,P k x->R k y->IsZip h' z TI TO (rawInt s.heap.objs.size)->IsPair h' TI (.ref i) (.ref j)->IsPair h' TO x y->St (k + 1) h'->Su (k + 1) h'->IsPair h' s.heap.objs.size x y->(∀ c o,c ∉ [z,TO,i,j]->s.heap.get? c = some o->h'.get? c = some o)->Q (some (.ref s.heap.objs.size)) { s with heap:=h',toks:=tk }) :
  wpAny (model prog w) A (pyNext (.ref z)) Q E s:=by
 have hT : s.TypeIs (.ref z) "zip" := ⟨_,hz,rfl⟩
 unfold pyNext
 exact wpAny_bind (wpAny_attempt (wpAny_callSpecial?_slot (name:=Str.ofString "__next__") hT F.slot_zip_next (wpAny_call_entry F.slot_zip_next hT F.entry_zip_next (zip_turn Z D G hz hI hO h1 h2 hk hm fun x y h' tk a1 a2 a3 a4 a5 a6 a7 a8 a9=>wpAny_pure (hQ x y h' tk a1 a2 a3 a4 a5 a6 a7 a8 a9)) (F.args_zip_next_1 _))))
end
end L2
end

section
set_option Elab.async false
set_option linter.all false
set_option maxRecDepth 100000
namespace L2
open PySem PySem.Spec PyProof.Rows
section
variable {prog : Program} {w : World} {A : Around} {E : Value->Shared->Prop} {s : Shared}
abbrev tiO (l : Addr) : Obj:={ cls:=.type "tuple_iterator",data:=.fields #[.ref l,.int 0 0] }
abbrev tpO (x y : Value) : Obj:={ cls:=.type "tuple",data:=.seq #[x,y] }
abbrev zpO (x y : Value) : Obj:={ cls:=.type "zip",data:=.fields #[.none,.bool false,.bool false,x,y] }
end
section
variable {X : Cx} {elts : List Expr} {q : Nat} {tpos : Pos}
end
end L2
end

section
set_option Elab.async false
set_option linter.all false
set_option maxRecDepth 100000
namespace L2
open PySem PySem.Spec PyProof.Rows
section
variable {X : Cx} {e : Expr} {es : List Expr} {te : TE} {t : TA} {p pos : Pos}
end
theorem pg_tupK {X : Cx} {K : PySem.W.Frag} {es : List Expr} {k : Nat} {t : TGs} {n : Nat} {pos : Pos} (hK : X.K = K) (hc : X.calm = true) (h : PGs X es t)
  (hn : (assignEach es X.env).length = n:=by rfl) (hst : (assignEach es X.env).findIdx? (·.1) = none:=by rfl) : PG X (.Tuple es k pos) (gTup K n t):=by
 subst hK
 exact pg_tup hc h hn hst
end L2
end

section
set_option Elab.async false
set_option linter.all false
set_option maxRecDepth 100000
namespace L2
open PySem PySem.Spec PyProof.Rows
end L2
end

section
set_option Elab.async false
set_option linter.all false
set_option maxRecDepth 100000
namespace L2
open PySem PySem.Spec PyProof.Rows
def TrX (h : Heap) (e : Addr) (o : Obj) (T : Addr) (fl : Value) : Prop :=
 ∃ vs oT ts,h.get? e = some { o with data:=.fields vs }/\(vs[1]? : Option Value) = some (.ref T)/\T ≠ e/\h.get? T = some oT/\oT.data = .fields ts/\(ts[3]? : Option Value) = some fl
structure Fk (ch fs : List Addr) (h h' : Heap) : Prop where
 keep : ∀ b o,b ∉ ch->b ∉ fs->h.get? b = some o->h'.get? b = some o
 slot : ∀ b o,b ∉ ch->h.get? b = some o->∃ sl,h'.get? b = some { o with slots:=sl }
 size : h.objs.size <= h'.objs.size
theorem Fk.of_same {a : Addr} {fs : List Addr} {h h' : Heap} (x : Heap.SameBut a h h') : Fk [a] fs h h' :=
 ⟨fun b o hb _ e=>(x.2 b (by simpa using hb)).trans e,fun b o hb e=>⟨o.slots,(x.2 b (by simpa using hb)).trans e⟩,Nat.le_of_eq x.1.symm⟩
theorem Fk.trans {ch ch' fs : List Addr} {h h1 h2 : Heap} (x : Fk ch fs h h1) (y : Fk ch' fs h1 h2) : Fk (ch ++ ch') fs h h2 :=
  ⟨fun b o hb hf e => y.keep b o (fun z => hb (by simp [z])) hf (x.keep b o (fun z => hb (by simp [z])) hf e),
   fun b o hb e => by
    obtain ⟨sl, e1⟩ := x.slot b o (fun z => hb (by simp [z])) e
    obtain ⟨sl2, e2⟩ := y.slot b _ (fun z => hb (by simp [z])) e1
    exact ⟨sl2, e2⟩, Nat.le_trans x.size y.size⟩
theorem Fk.mono {ch ch' fs : List Addr} {h h' : Heap} (x : Fk ch fs h h') (hc : ∀ b ∈ ch,b ∈ ch') : Fk ch' fs h h' :=
 ⟨fun b o hb hf e=>x.keep b o (fun z=>hb (hc b z)) hf e,fun b o hb e=>x.slot b o (fun z=>hb (hc b z)) e,x.size⟩
section
variable {M : Model} {A : Around} {E : Value->Shared->Prop} {s : Shared} {Q : Unit->Shared->Prop}
theorem setF {a : Addr} {o : Obj} {vs : Array Value} {i : Nat} {x : Value} (ho : s.heap.get? a = some { o with data:=.fields vs }) (hi : i < vs.size)
  (h : ∀ h',h'.get? a = some { o with data:=.fields (vs.setIfInBounds i x) }->Heap.SameBut a s.heap h'->Q () { s with heap:=h' }) : wpAny M A (setField (.ref a) i x) Q E s:=by
 refine wpAny_setField ho rfl hi (h _ ?_ (Heap.SameBut.update ..))
 exact Heap.get?_update_self _ ho rfl
variable {base : Heap} {env : Env} {outer : List Env} {L e T : Addr} {o : Obj} {vs : Array Value} {head fl : Value} {hadNext : Bool}
theorem entryX (hfr : A.frames = some (env :: outer)) (hl : s.heap.FunFrames base (env :: outer)) (hf : env.frame = some L) (he : s.heap.get? e = some { o with data := .fields vs }) (hsz : 1 < vs.size)
    (h : ∀ h' T, s.heap.objs.size ≤ T → TrX h' e o T (rawInt L) → Fk [e] (frs (env :: outer)) s.heap h' → Q () { s with heap := h' }) :
    wpAny M A (do let a ← frameOf env
                  let pl ← entryPlaceOf L hadNext
                  let b ← EntryCells.newEntry head a .none (rawInt L) .none pl
                  setField (.ref e) 1 b) Q E s := by
  have nfr : e ∉ frs (env :: outer) := fun z => by
    obtain ⟨_, ob, hob, nf⟩ := hl.mem z
    rw [he] at hob
    cases hob
    exact nf vs rfl
  refine wpAny_bind (wpAny_frameOf_fun hfr hl hf fun h1 ⟨z1, z2, z3⟩ => wpAny_bind (wpAny_entryPlaceOf fun pl hpl => ?_))
  unfold EntryCells.newEntry newFields
  refine wpAny_bind (wpAny_newObj_type ?_ (hpl.sizeOk5 _ _ _ _ _))
  have e1 : h1.get? e = some { o with data := .fields vs } := (z2 e nfr).trans he
  refine setF (o := o) (Heap.get?_push_of_some _ e1) hsz fun h2 e2 sb => h h2 h1.objs.size (Nat.le_of_eq z1.symm) ?_ ?_
  · have nT : h1.objs.size ≠ e := Nat.ne_of_gt (Heap.lt_size e1)
    refine ⟨_, _, _, e2, by simp [hsz], nT, (sb.2 _ nT).trans (Heap.get?_push_size h1 rfl), rfl, ?_⟩
    first | (simp; done) | (rcases hpl with rfl | ⟨_, _, _, _, _, _, _, rfl⟩ <;> simp)
  · refine ⟨fun b ob hb hfb eb => ?_, fun b ob hb eb => ?_, ?_⟩
    · exact (sb.2 b (by simpa using hb)).trans (Heap.get?_push_of_some _ ((z2 b hfb).trans eb))
    · obtain ⟨sl, q⟩ := z3 b ob eb
      exact ⟨sl, (sb.2 b (by simpa using hb)).trans (Heap.get?_push_of_some _ q)⟩
    · rw [sb.1, Heap.size_push, z1]
      exact Nat.le_succ _
theorem landX (ht : TrX s.heap e o T fl) {fs : List Addr} (h : ∀ h',TrX h' e o T .none->Fk [T] fs s.heap h'->Q () { s with heap:=h' }) : wpAny M A (setFlight (.ref e) none) Q E s:=by
 obtain ⟨vs,oT,ts,he,h1,nT,hT,hd,h3⟩:=ht
 unfold setFlight
 refine wpAny_bind (wpAny_field he rfl h1 ?_)
 rw [if_pos (show (Value.ref T != Value.none) = true by simp)]
 obtain ⟨c,d,dt,sl⟩:=oT
 have hd' : dt = .fields ts:=hd
 subst hd'
 have h3' : 3 < ts.size:=(Array.getElem?_eq_some_iff.mp h3).1
 refine setF (o:=⟨c,d,.fields ts,sl⟩) hT h3' fun h' e' sb=>h h' ⟨vs,_,_,(sb.2 e (Ne.symm nT)).trans he,h1,nT,e',rfl,by simp [h3']⟩ (.of_same sb)
theorem note0 (hfr : A.frames = some (env :: outer)) (hl : s.heap.FunFrames base (env :: outer)) (hf : env.frame = some L) (he : s.heap.get? e = some { o with data:=.fields vs }) (h1 : (vs[1]? : Option Value) = some .none)
  (h : ∀ h' T,s.heap.objs.size <= T->TrX h' e o T (rawInt L)->Fk [e] (frs (env :: outer)) s.heap h'->Q () { s with heap:=h' }) : wpAny M A (noteFrame (.ref e) env) Q E s:=by
 unfold noteFrame
 simp only [hf]
 refine wpAny_bind (wpAny_field he rfl h1 ?_)
 rw [if_neg (by decide)]
 exact entryX hfr hl hf he (Array.getElem?_eq_some_iff.mp h1).1 h
theorem noteT (hfr : A.frames = some (env :: outer)) (hl : s.heap.FunFrames base (env :: outer)) (hf : env.frame = some L) (ht : TrX s.heap e o T .none)
  (h : ∀ h' T',s.heap.objs.size <= T'->TrX h' e o T' (rawInt L)->Fk [T,e] (frs (env :: outer)) s.heap h'->Q () { s with heap:=h' }) : wpAny M A (noteFrame (.ref e) env) Q E s:=by
 obtain ⟨vs,oT,ts,he,h1,nT,hT,hd,h3⟩:=ht
 unfold noteFrame
 simp only [hf]
 refine wpAny_bind (wpAny_field he rfl h1 ?_)
 rw [if_pos (show (Value.ref T != Value.none) = true by simp)]
 refine wpAny_bind (wpAny_field hT hd h3 ?_)
 rw [if_neg (show ¬ ((Value.none == rawInt L) = true) by simp [rawInt])]
 obtain ⟨c,d,dt,sl⟩:=oT
 have hd' : dt = .fields ts:=hd
 subst hd'
 have nF : T ∉ frs (env :: outer):=fun z=>by
  obtain ⟨_,ob,hob,nf⟩:=hl.mem z
  rw [hT] at hob
  cases hob
  exact nf ts rfl
 refine wpAny_bind (setF (o:=⟨c,d,.fields ts,sl⟩) hT (Array.getElem?_eq_some_iff.mp h3).1 fun h2 e2 sb=>?_)
 have k2 : Fk [T] (frs (env :: outer)) s.heap h2:=.of_same sb
 refine entryX (s:={ s with heap:=h2 }) (o:=o) (vs:=vs) hfr (hl.of_keeps fun b ob hb nf=>⟨ob,(sb.2 b fun z=>by subst z;rw [hT] at hb;cases hb;exact nf ts rfl).trans hb,rfl⟩) hf ((sb.2 e (Ne.symm nT)).trans he) (Array.getElem?_eq_some_iff.mp h1).1 fun h3 T' z1 z2 z3=>h h3 T' (by rw [<- sb.1];exact z1) z2 (k2.trans z3)
theorem leave0 (hfr : A.frames = some (env :: outer)) (hl : s.heap.FunFrames base (env :: outer)) (hf : env.frame = some L) (he : s.heap.get? e = some { o with data:=.fields vs }) (h1 : (vs[1]? : Option Value) = some .none)
  (h : ∀ h' T,s.heap.objs.size <= T->TrX h' e o T .none->Fk [e] (frs (env :: outer)) s.heap h'->Q () { s with heap:=h' }) : wpAny M A (leaving env (.ref e)) Q E s:=by
 unfold leaving
 refine wpAny_bind (note0 hfr hl hf he h1 fun h' T z1 z2 z3=>landX (fs:=frs (env :: outer)) z2 fun h2 y1 y2=>h h2 T z1 y1 ?_)
 have nT : ∀ b ob,s.heap.get? b = some ob->b ≠ T:=fun b ob q z=>absurd (Heap.lt_size q) (Nat.not_lt.mpr (z ▸ z1))
 exact ⟨fun b ob hb hfb q=>y2.keep b ob (by simpa using nT b ob q) hfb (z3.keep b ob hb hfb q),fun b ob hb q=>by
  obtain ⟨sl,q1⟩:=z3.slot b ob hb q
  obtain ⟨sl2,q2⟩:=y2.slot b _ (by simpa using nT b ob q) q1
  exact ⟨sl2,q2⟩,Nat.le_trans z3.size y2.size⟩
theorem leaveT (hfr : A.frames = some (env :: outer)) (hl : s.heap.FunFrames base (env :: outer)) (hf : env.frame = some L) (ht : TrX s.heap e o T .none)
  (h : ∀ h' T',s.heap.objs.size <= T'->TrX h' e o T' .none->Fk [T,e] (frs (env :: outer)) s.heap h'->Q () { s with heap:=h' }) : wpAny M A (leaving env (.ref e)) Q E s:=by
 unfold leaving
 refine wpAny_bind (noteT hfr hl hf ht fun h' T' z1 z2 z3=>landX (fs:=frs (env :: outer)) z2 fun h2 y1 y2=>h h2 T' z1 y1 ?_)
 have nT : ∀ b ob,s.heap.get? b = some ob->b ≠ T':=fun b ob q z=>absurd (Heap.lt_size q) (Nat.not_lt.mpr (z ▸ z1))
 exact ⟨fun b ob hb hfb q=>y2.keep b ob (by simpa using nT b ob q) hfb (z3.keep b ob hb hfb q),fun b ob hb q=>by
  obtain ⟨sl,q1⟩:=z3.slot b ob hb q
  obtain ⟨sl2,q2⟩:=y2.slot b _ (by simpa using nT b ob q) q1
  exact ⟨sl2,q2⟩,Nat.le_trans z3.size y2.size⟩
end
def excObj (C : Addr) (d : Option Addr) (vs : Array Value) : Obj:={ cls:=.ref C,dict:=d,data:=.fields vs }
def excO (e C : Addr) (d : Option Addr) : HO:=.ext fun h=>∃ vs,h.get? e = some (excObj C d vs)
def excN (e C : Addr) (d : Option Addr) : HO:=.ext fun h=>∃ vs,h.get? e = some (excObj C d vs)/\(vs[1]? : Option Value) = some .none
section
variable {P : Program} {w : World} {H H' : Hp} {h h' : Heap} {e C : Addr} {d : Option Addr}
theorem excO.ok {vs : Array Value} (q : h.get? e = some (excObj C d vs)) : ObjOk P w H h e (excO e C d):=⟨⟨vs,q⟩,⟨_,q⟩,fun _ _ ⟨us,z⟩ k=>⟨us,k _ z⟩⟩
theorem excN.ok {vs : Array Value} (q : h.get? e = some (excObj C d vs)) (q1 : (vs[1]? : Option Value) = some .none) : ObjOk P w H h e (excN e C d):=⟨⟨vs,q,q1⟩,⟨_,q⟩,fun _ _ ⟨us,z,y⟩ k=>⟨us,k _ z,y⟩⟩
theorem HOk.exc (k : HOk P w H h) (q : H e = some (excO e C d)) : ∃ vs,h.get? e = some (excObj C d vs):=(k e _ q).1
theorem HOk.exn (k : HOk P w H h) (q : H e = some (excN e C d)) : ∃ vs,h.get? e = some (excObj C d vs)/\(vs[1]? : Option Value) = some .none:=(k e _ q).1
theorem HOk.fly {ch fs : List Addr} {u : HO} (k : HOk P w H h) (f : Fk ch fs h h') (hc : ∀ b ∈ ch,b = e\/H b = none) (hf : ∀ b ∈ fs,H b = none) (hm : Mut (H e)) (new : ObjOk P w (upd H e u) h' e u) : HOk P w (upd H e u) h':=fun b ob q=>by
 by_cases hb : b = e
 ·subst hb
  rw [upd_same] at q
  cases q
  exact new
 ·rw [upd_ne hb] at q
  refine (k b ob q).stay (fun c v hcb z=>f.keep c v (fun y=>?_) (fun y=>?_) z) (fun c z=>?_) (fun c xs z=>?_)
  ·rcases hc c y with rfl | n
   ·rcases hcb with rfl | n
    ·exact hb rfl
    ·rw [n] at hm;exact hm
   ·rcases hcb with rfl | n'
    ·rw [n] at q;cases q
    ·rw [n] at n';cases n'
  ·have n:=hf c y
   rcases hcb with rfl | n'
   ·rw [n] at q;cases q
   ·rw [n] at n';cases n'
  ·rw [upd_ne (fun y=>by subst y;rw [z] at hm;exact hm)];exact z
  ·rw [upd_ne (fun y=>by subst y;rw [z] at hm;exact hm)];exact z
end
end L2
end

section
set_option Elab.async false
set_option linter.all false
set_option maxRecDepth 100000
namespace L2
open PySem PySem.Spec PyProof.Rows
theorem upd_self {H : Hp} {a : Addr} {o : HO} (h : H a = some o) : upd H a o = H:=by
 funext b
 by_cases hb : b = a
 ·subst hb;rw [upd_same,h]
 ·rw [upd_ne hb]
def CXF (P : Program) (w : World) : CXT:=fun outer H s E ev s'=>∃ (e C : Addr) (d : Option Addr) (T : Addr) (H' : Hp),ev = .ref e/\s'.os = s.os/\GOk s.gens s'.gens/\Un (frs outer) [] H H' s.heap s'.heap/\HOk P w H' s'.heap /\
 s.heap.objs.size <= T/\H' T = none/\TrX s'.heap e (excObj C d #[]) T .none/\H' e = some (excO e C d)/\E (.ref e) d H'
theorem Un.fly {fs fs' ch : List Addr} {H H' : Hp} {h h1 h2 : Heap} {e : Addr} {u : HO} (x : Un fs [] H H' h h1) (f : Fk ch fs' h1 h2) (hm : Mut (H' e)) (he : ∃ o,h2.get? e = some o)
  (hc : ∀ b ∈ ch,b = e\/h.objs.size <= b) (hf : ∀ b ∈ fs',b ∈ fs\/h.objs.size <= b) : Un fs [] H (upd H' e u) h h2:=by
 have big : ∀ {b o},h.get? b = some o->¬ h.objs.size <= b:=fun q=>Nat.not_le.mpr (Heap.lt_size q)
 have ne : ∀ {b o},h.get? b = some o->H b = none->b ≠ e:=fun {b o} q n z=>by
  have:=x.free b o q n (by simp)
  rw [z] at this
  rw [this] at hm
  exact hm
 have nch : ∀ {b o},h.get? b = some o->b ≠ e->b ∉ ch:=fun {b o} q n z=>(hc b z).elim n (big q)
 refine ⟨fun b o q n hb _=>?_,fun b o q n hb _=>?_,fun b o q n _=>?_,fun b o q _=>?_,fun b xs q=>?_,fun b o v q=>?_,fun b ps q=>?_⟩
 ·exact f.keep b o (nch q (ne q n)) (fun z=>(hf b z).elim hb (big q)) (x.keep b o q n hb (by simp))
 ·obtain ⟨sl,q1⟩:=x.slot b o q n hb (by simp)
  obtain ⟨sl2,q2⟩:=f.slot b _ (nch q (ne q n)) q1
  exact ⟨sl2,q2⟩
 ·rw [upd_ne (ne q n)];exact x.free b o q n (by simp)
 ·by_cases hb : b = e
  ·rw [hb];exact he
  ·obtain ⟨o1,q1⟩:=x.there b o q (by simp)
   obtain ⟨sl2,q2⟩:=f.slot b _ (nch q hb) q1
   exact ⟨_,q2⟩
 ·have:=x.tups b xs q
  rw [upd_ne (fun z=>by rw [z] at this;rw [this] at hm;exact hm)];exact this
 ·have:=x.frzs b o v q
  rw [upd_ne (fun z=>by rw [z] at this;rw [this] at hm;exact hm)];exact this
 ·obtain ⟨more,this⟩:=x.tbls b ps q
  exact ⟨more,by rw [upd_ne (fun z=>by rw [z] at this;rw [this] at hm;exact hm)];exact this⟩
structure Fly (X : Cx) (pins : List (Addr × Obj)) (H : Hp) (s : Shared) (e C : Addr) (d : Option Addr) (T : Addr) : Prop where
 tr : TrX s.heap e (excObj C d #[]) T .none
 at_ : H e = some (excO e C d)
 big : X.s₀.heap.objs.size <= T
 free : H T = none
 loc : T ≠ X.env.locals
 cell : ∀ x c,X.env.cells.lookup x = some c->c ≠ T
 pin : ∀ p ∈ X.pn ++ pins,p.1 ≠ T
abbrev SK:=St->Addr->Addr->Option Addr->Hp->Prop
structure XeOk (X : Cx) (S : SK) : Prop where
 new : ∀ (pins : List (Addr × Obj)) (σ : St) (H : Hp) (s : Shared) (e C : Addr) (d : Option Addr),Inv X pins σ H s->H e = some (excN e C d)->S σ e C d (upd H e (excO e C d))->X.xe (.ref e) s
 fly : ∀ (pins : List (Addr × Obj)) (σ : St) (H : Hp) (s : Shared) (e C : Addr) (d : Option Addr) (T : Addr),Inv X pins σ H s->Fly X pins H s e C d T->S σ e C d H->X.xe (.ref e) s
section
variable {CX : CXT} {P : Program} {w : World} {K : PySem.W.Frag} {mg : Str->Option Value} {base : Heap} {N : List Str} {qual : Str} {scope : Scope} {f : Addr} {cdv : Value} {A : Around} {outer : List Env} {s₀ : Shared} {H₀ : Hp} {E : XK}
theorem xe_cx : XeOk (cxOf (CXF P w) P w K mg base N qual scope f cdv A outer s₀ H₀ E) (fun _ e _ d H=>E (.ref e) d H) where
 new:=fun pins σ H s e C d I he hS=>by
  obtain ⟨vs,q,q1⟩:=I.hok.exn he
  show wpAny _ _ (leaving _ _) _ _ _
  refine leave0 (base:=base) (o:=excObj C d #[]) (vs:=vs) I.ok.frames I.stack rfl q q1 fun h' T z1 z2 z3=>?_
  have hT : H T = none:=I.hok.fresh z1
  have hm : Mut (H e):=by rw [he];trivial
  obtain ⟨vs',_,_,q',_⟩:=id z2
  have neT : T ≠ e:=z2.elim fun _ ⟨_,_,_,_,n,_⟩=>n
  exact ⟨e,C,d,T,upd H e (excO e C d),rfl,I.os,I.bare,I.base.fly z3 hm ⟨_,q'⟩ (fun b hb=>.inl (by simpa using hb)) (fun b hb=>(List.mem_cons.mp (I.stkSub b hb)).elim (fun z=>.inr (z ▸ I.ok.above)) .inl),
   I.hok.fly z3 (fun b hb=>.inl (by simpa using hb)) I.stkFree hm (excO.ok q'),Nat.le_trans I.sz z1,by rw [upd_ne neT];exact hT,z2,upd_same,hS⟩
 fly:=fun pins σ H s e C d T I F hS=>by
  show wpAny _ _ (leaving _ _) _ _ _
  refine leaveT (base:=base) I.ok.frames I.stack rfl F.tr fun h' T' z1 z2 z3=>?_
  have hT : H T' = none:=I.hok.fresh z1
  have hm : Mut (H e):=by rw [F.at_];trivial
  obtain ⟨vs',_,_,q',_⟩:=id z2
  have u:=upd_self F.at_
  exact ⟨e,C,d,T',H,rfl,I.os,I.bare,u ▸ (I.base.fly (u:=excO e C d) z3 hm ⟨_,q'⟩ (fun b hb=>by
    rcases List.mem_cons.mp hb with rfl | hb
    ·exact .inr F.big
    ·exact .inl (by simpa using hb)) (fun b hb=>(List.mem_cons.mp (I.stkSub b hb)).elim (fun z=>.inr (z ▸ I.ok.above)) .inl)),
   u ▸ (I.hok.fly (u:=excO e C d) z3 (fun b hb=>by
    rcases List.mem_cons.mp hb with rfl | hb
    ·exact .inr F.free
    ·exact .inl (by simpa using hb)) I.stkFree hm (excO.ok q')),Nat.le_trans I.sz z1,hT,z2,F.at_,hS⟩
end
section
variable {X : Cx} {S : SK}
theorem XeOk.pass (hX : XeOk X S) {pins : List (Addr × Obj)} {σ : St} {H : Hp} {s : Shared} {ev : Value} {s' : Shared} (I : Inv X pins σ H s)
  (h : CXF X.prog X.w X.stack H s (fun v d H'=>∀ e C,v = .ref e->H' e = some (excO e C d)->S σ e C d H') ev s') : X.xe ev s':=by
 obtain ⟨e,C,d,T,H',rfl,os,g,un,hok,hT,hTn,tr,he,hE⟩:=h
 have I' : Inv X pins σ H' s':=I.call' (ch:=[]) os un hok g (by simp)
 refine hX.fly pins σ H' s' e C d T I' ⟨tr,he,Nat.le_trans I.sz hT,hTn,fun z=>?_,fun x c q z=>?_,fun p hp z=>?_⟩ (hE e C rfl he)
 ·exact absurd I.lt (Nat.not_lt.mpr (z ▸ hT))
 ·obtain ⟨v,o,ho,_⟩:=I.cell x c q
  exact absurd (Heap.lt_size ho) (Nat.not_lt.mpr (z ▸ hT))
 ·exact absurd (Heap.lt_size (I.pin p hp).1) (Nat.not_lt.mpr (z ▸ hT))
variable {k j : Nat} {f : Addr} {fd : FuncData} {ps : List Str} {sp : Sp} {x : Str} {p pos : Pos} {e : Expr} {es : List Expr} {t : TA}
def tCallX (sp : Sp) (S : SK) (t : TA) : TE:=fun σ H Q=>t σ H fun vs H1=>sp vs H1 Q fun v d H'=>∀ e C,v = .ref e->H' e = some (excO e C d)->S σ e C d H'
def CallOkX (P : Program) (w : World) (K : PySem.W.Frag) (mg : Str->Option Value) (base : Heap) (x : Str) (k : Nat) (ps : List Str) (sp : Sp) : Prop :=
 ∃ f fd,FnOk P w K mg base (CXF P w) k f fd ps sp/\mg x = some (.ref f)/\PySem.W.keepIn K (.ref f) = true/\Binds K fd ps []
theorem pe_clX (hX : XeOk X S) (C : CallOkX X.prog X.w X.K X.mg X.base x k ps sp) (hr : Room j X.A) (ha : PA X (e :: es) t) (hg : Gl X x:=by rfl) (hj : k <= j:=by decide) (hdb : (x == ("__debug__" : Str)) = false:=by decide)
  (he : starEach (e :: es) X.env = (false,eval e X.env) :: starEach es X.env:=by rfl) (hpl : (backTo pos (starEach es X.env)).any (·.1) = false:=by rfl) : PE X (.Call (.Name x p) (e :: es) [] pos) (tCallX sp S t):=by
 obtain ⟨f,fd,F,hm,hk,hb⟩:=C
 intro pins s σ H Q I h
 refine wpAny_Call_Name_kw (ld_glob I hg hm ?_ hdb)
 refine PySem.W.callWith_K (h₀:=X.base) I.ok.mod.kin hk (thn (ha pos pins s σ H _ I h) fun us s1 ⟨vs,H1,I1,r,q⟩=>⟨I1.kIn,?_⟩) he hpl
 have hl : us.length = ps.length:=by rw [<- r.length];exact F.len _ _ _ _ q
 have hb':=hb s1 us I1.kIn (by simpa using hl)
 rw [List.append_nil] at hb'
 refine wpAny_call (codeAny_mono (F.run X.A X.stack s1 H1 ⟨us,[]⟩ us vs Q _ (hr.mono hj) I1.env0 hb' r q) fun r s' hq=>?_)
 cases r with
 | error ev=>exact hX.pass I1 hq
 | ok fl =>
  cases fl with
  | ret u=>exact I1.after hq
  | next=>exact False.elim hq
  | brk=>exact False.elim hq
  | cont=>exact False.elim hq
end
section
variable {P : Program} {w : World} {K : PySem.W.Frag} {mg : Str->Option Value} {base : Heap}
theorem Fun.okX {x qual : Str} {st : Stmt} {f : Addr} {fd : FuncData} {N ps : List Str} {k : Nat} {sp : Sp} (F : Fun K x qual st f fd) (S : FnScope N ps (defScope st)) (len : ∀ vs H Q E,sp vs H Q E->vs.length = ps.length)
  (hbody : ∀ (cdv : Value) (A : Around) (outer : List Env) (s : Shared) (H : Hp) (vs : List V) (Q : VK) (E : XK),Room k (A.deeper (envOfC qual (defScope st) s.heap.objs.size f cdv))->sp vs H Q E ->
   ∃ t,PSs (cxOf (CXF P w) P w K mg base N qual (defScope st) f cdv A outer s H E) (defBody st) t/\t { nx:=fun _ H'=>Q .non H',rt:=Q } (start N vs) H) : FnOk P w K mg base (CXF P w) (k + 1) f fd ps sp:=by
 obtain ⟨oc,od,kV,doc,pm,an,cdv,ct,osl,rfl,lk,hcd⟩:=F.ex
 exact fn_of lk hcd S len fun A outer s H vs Q E hr hsp=>hbody cdv A outer s H vs Q E hr hsp
theorem CallOk.x {x : Str} {k : Nat} {ps : List Str} {sp : Sp} (C : CallOk P w K mg base x k ps sp) : CallOkX P w K mg base x k ps sp:=by
 obtain ⟨f,fd,F,r⟩:=C
 refine ⟨f,fd,⟨F.len,fun A outer s H args us vs Q E hr he hb hv hs=>codeAny_mono (F.run A outer s H args us vs Q E hr he hb hv hs) fun r s' q=>?_⟩,r⟩
 cases r with
 | error e=>exact q.elim
 | ok fl=>cases fl <;> exact q
end
end L2
end

section
set_option Elab.async false
set_option linter.all false
set_option maxRecDepth 100000
namespace L2
open PySem PySem.Spec PyProof.Rows
abbrev Cx.tr (X : Cx) (S : SK) (pins : List (Addr × Obj)) : Cx :=
 { X with pn:=X.pn ++ pins,xe:=fun ev s'=>∃ σ H e C d,ev = .ref e/\Inv X pins σ H s'/\(H e = some (excN e C d)\/∃ T,Fly X pins H s' e C d T)/\S σ e C d (upd H e (excO e C d)) }
abbrev Cx.hand (X : Cx) (e : Addr) : Cx:={ X with A:=X.A.mark (some (.ref e)),calm:=false,xe:=fun _ _=>False }
section
variable {X : Cx} {S : SK} {pins pins' : List (Addr × Obj)} {σ : St} {H : Hp} {s : Shared} {e : Addr}
theorem Inv.tr (I : Inv X pins σ H s) : Inv (X.tr S pins) [] σ H s :=
 ⟨⟨I.ok.mod,I.ok.kind,I.ok.glob,I.ok.blt,I.ok.above,I.ok.inj,I.ok.has,I.ok.cab,I.ok.hd,I.ok.frames,I.ok.stk,I.ok.exf,I.ok.bs,I.ok.bsz,I.ok.noex,I.ok.exfs,I.ok.funs,I.ok.frf⟩,I.os,I.bare,I.base,I.loc,I.cell,I.free,I.freeC,fun p hp=>I.pin p (by simpa using hp),I.hok,I.len⟩
theorem Inv.untr (I : Inv (X.tr S pins) pins' σ H s) : Inv X pins σ H s :=
 ⟨⟨I.ok.mod,I.ok.kind,I.ok.glob,I.ok.blt,I.ok.above,I.ok.inj,I.ok.has,I.ok.cab,I.ok.hd,I.ok.frames,I.ok.stk,I.ok.exf,I.ok.bs,I.ok.bsz,I.ok.noex,I.ok.exfs,I.ok.funs,I.ok.frf⟩,I.os,I.bare,I.base,I.loc,I.cell,I.free,I.freeC,fun p hp=>I.pin p (List.mem_append_left _ hp),I.hok,I.len⟩
theorem Inv.hand (I : Inv X pins σ H s) : Inv (X.hand e) pins σ H s :=
 ⟨⟨I.ok.mod,I.ok.kind,I.ok.glob,I.ok.blt,I.ok.above,I.ok.inj,I.ok.has,I.ok.cab,(fun z=>by cases z),I.ok.frames,I.ok.stk,I.ok.exf,I.ok.bs,I.ok.bsz,I.ok.noex,I.ok.exfs,I.ok.funs,I.ok.frf⟩,I.os,I.bare,I.base,I.loc,I.cell,I.free,I.freeC,I.pin,I.hok,I.len⟩
theorem Inv.unhand (ok : X.Ok) (I : Inv (X.hand e) pins σ H s) : Inv X pins σ H s :=
 ⟨ok,I.os,I.bare,I.base,I.loc,I.cell,I.free,I.freeC,I.pin,I.hok,I.len⟩
theorem SP.untr {D : Ends} {f : Flow} (h : SP (X.tr S pins) [] D f s) : SP X pins D f s:=by
 cases f with
 | next=>obtain ⟨σ',H',I,q⟩:=h;exact ⟨σ',H',I.untr,q⟩
 | brk=>obtain ⟨σ',H',I,q⟩:=h;exact ⟨σ',H',I.untr,q⟩
 | cont=>obtain ⟨σ',H',I,q⟩:=h;exact ⟨σ',H',I.untr,q⟩
 | ret u=>obtain ⟨v,σ',H',I,r,q⟩:=h;exact ⟨v,σ',H',I.untr,r,q⟩
theorem xe_tr : XeOk (X.tr S pins) S where
 new:=fun pins' σ H s e C d I he hS=>⟨σ,H,e,C,d,rfl,I.untr,.inl he,hS⟩
 fly:=fun pins' σ H s e C d T I F hS=>⟨σ,H,e,C,d,rfl,I.untr,.inr ⟨T,F.tr,F.at_,F.big,F.free,F.loc,F.cell,fun p hp=>F.pin p (List.mem_append_left _ hp)⟩,by rw [upd_self F.at_];exact hS⟩
theorem Inv.flew {ch : List Addr} {h' : Heap} {C : Addr} {d : Option Addr} {vs : Array Value} (I : Inv X pins σ H s) (f : Fk ch (frs X.stack) s.heap h') (hm : Mut (H e)) (q : h'.get? e = some (excObj C d vs))
  (hc : ∀ b ∈ ch,b = e\/(H b = none/\X.s₀.heap.objs.size <= b/\b ≠ X.env.locals/\(∀ x c,X.env.cells.lookup x = some c->c ≠ b)/\∀ p ∈ X.pn ++ pins,p.1 ≠ b)) :
  Inv X pins σ (upd H e (excO e C d)) { s with heap:=h' }:=by
 have nU : ∀ b,H b = none->b ≠ e:=fun b n z=>by rw [z] at n;rw [n] at hm;exact hm
 have nD : ∀ b,H b = none->b ∉ ch.filter (· != e)->b ∉ ch:=fun b n hb z=>hb (List.mem_filter.mpr ⟨z,by simpa using nU b n⟩)
 refine I.step (g':=s.gens) (d':=s.drawn) (t':=s.toks) (ch:=ch.filter (· != e)) (fun b hb=>?_) (fun b o hL hf hb q n=>f.keep b o (nD b n hb) (fun z=>(List.mem_cons.mp (I.stkSub b z)).elim hL hf) q)
  (fun b o _ _ hb q n=>f.slot b o (nD b n hb) q) (fun b o _ _ n=>by rw [upd_ne (nU b n)];exact n) (fun b o hb z=>?_) (fun b xs z=>?_) (fun b o u z=>?_) (fun b ps z=>?_) (fun m hn=>?_) (I.hok.fly f (fun b hb=>(hc b hb).imp id (·.1)) I.stkFree hm (excO.ok q)) ⟨I.bare.1,Nat.le_refl _⟩
 ·obtain ⟨h1,h2⟩:=List.mem_filter.mp hb
  rcases hc b h1 with z | ⟨_,h3,h4,h5,h6⟩
  ·rw [z] at h2;simp at h2
  ·exact ⟨.inr h3,h4,h5,h6⟩
 ·by_cases hbe : b = e
  ·exact ⟨_,hbe ▸ q⟩
  ·obtain ⟨sl,z1⟩:=f.slot b o (fun y=>hb (List.mem_filter.mpr ⟨y,by simpa using hbe⟩)) z
   exact ⟨_,z1⟩
 ·rw [upd_ne (fun y=>by rw [y] at z;rw [z] at hm;exact hm)];exact z
 ·rw [upd_ne (fun y=>by rw [y] at z;rw [z] at hm;exact hm)];exact z
 ·exact ⟨#[],by rw [upd_ne (fun y=>by rw [y] at z;rw [z] at hm;exact hm)];simpa using z⟩
 ·obtain ⟨o,es,ep,ho,r⟩:=hn
  have ny : X.env.locals ∉ ch:=fun y=>by
   rcases hc _ y with y | ⟨_,_,y,_⟩
   ·exact nU _ I.free y
   ·exact y rfl
  obtain ⟨sl,z⟩:=f.slot _ o ny ho
  exact ⟨_,es,ep,z,r⟩
end
section
variable {X : Cx} {body suite : List Stmt} {b₀ : Stmt} {x n : Str} {np pos hpos : Pos} {i : Nat} {D₀ : Addr} {tb : SK->TS} {ts : Addr->TS}
def tTry (K : PySem.W.Frag) (i : Nat) (D₀ : Addr) (tb : SK->TS) (ts : Addr->TS) : TS:=fun D σ H=>tb (fun σ' e C _ H'=>PySem.W.mroIn K C (.ref D₀) = some true /\
 ts e { nx:=fun σ2 H2=>D.nx (σ2.set i none) H2,rt:=D.rt,bk:=fun σ2 H2=>D.bk (σ2.set i none) H2,ct:=fun σ2 H2=>D.ct (σ2.set i none) H2 } (σ'.set i (some (.ref e))) H') D σ H
theorem unbind_ok {pins : List (Addr × Obj)} {σ : St} {H : Hp} {s : Shared} {M : Model} {A : Around} {E : Value->Shared->Prop} {Q : Unit->Shared->Prop} (I : Inv X pins σ H s) (hN : X.N.Nodup) (hi : X.N[i]? = some n) (hk : X.env.scope.names.lookup n = some .local)
  (h : ∀ s',Inv X pins (σ.set i none) H s'->Q () s') : wpAny M A (do bindName X.env n .none;unbindBehindTheSuite X.env n pos) Q E s:=by
 obtain ⟨m,hn,hl⟩:=id I.loc
 refine wpAny_nameGoes_keeps hk hn (by rw [I.ok.kind];rfl) fun h' v hn' sb=>h _ ?_
 obtain ⟨oL,_,_,hoL,_⟩:=id hn
 have keep : ∀ b o,b ≠ X.env.locals->s.heap.get? b = some o->h'.get? b = some o:=fun b o hb q=>(sb.2 b hb).trans q
 have hσ : ∀ (j : Nat) (w : V),(σ.set i none)[j]? = some (some w)->j ≠ i/\σ[j]? = some (some w):=fun j w q=>by
  by_cases hj : j = i
  ·subst hj
   rw [List.getElem?_set] at q
   simp only [if_true] at q
   split at q <;> cases q
  ·rw [List.getElem?_set_ne (Ne.symm hj)] at q
   exact ⟨hj,q⟩
 have I2 : Inv X pins (σ.set i none) H s:=I.weak (by simp) fun j w q=>(hσ j w q).2
 have hx : ∀ j y w,X.N[j]? = some y->(σ.set i none)[j]? = some (some w)->y ≠ n:=fun j y w h1 h2 z=>(hσ j w h2).1 (nodup_ix hN h1 (z ▸ hi))
 refine ⟨I.ok,I.os,I.bare,⟨fun b o q nn hb hx=>keep b o ?_ (I.base.keep b o q nn hb hx),fun b o q nn hb hx=>?_,I.base.free,fun b o q hx=>?_,I.base.tups,I.base.frzs,I.base.tbls⟩,⟨_,hn',fun j y w h1 h2 h3=>?_⟩,fun y c q=>?_,I.free,I.freeC,fun p hp=>?_,fun b ob q=>?_,I2.len⟩
 ·exact Nat.ne_of_lt (Nat.lt_of_lt_of_le (Heap.lt_size q) I.ok.above)
 ·obtain ⟨sl,q1⟩:=I.base.slot b o q nn hb hx
  exact ⟨sl,keep b _ (Nat.ne_of_lt (Nat.lt_of_lt_of_le (Heap.lt_size q) I.ok.above)) q1⟩
 ·obtain ⟨o',q1⟩:=I.base.there b o q hx
  exact ⟨o',keep b _ (Nat.ne_of_lt (Nat.lt_of_lt_of_le (Heap.lt_size q) I.ok.above)) q1⟩
 ·obtain ⟨u,r,l⟩:=hl j y w h1 (hσ j w h2).2 h3
  refine ⟨u,r,?_⟩
  rcases l with ⟨k,q⟩ | ⟨k,c,q,z⟩
  ·exact .inl ⟨k,by simp [hx j y w h1 h2,q]⟩
  ·exact .inr ⟨k,c,q,z.sameBut sb (I.cne y c q)⟩
 ·obtain ⟨v,z⟩:=I.cell y c q
  exact ⟨v,z.sameBut sb (I.cne y c q)⟩
 ·obtain ⟨q,nn,ne,nf,dd⟩:=I.pin p hp
  exact ⟨keep _ _ ne q,nn,ne,nf,dd⟩
 ·refine (I.hok b ob q).stay (fun c v hc z=>keep c v (fun y=>?_) z) (fun _ z=>z) fun _ _ z=>z
  subst y
  rcases hc with rfl | hc
  ·rw [I.free] at q;cases q
  ·rw [I.free] at hc;cases hc
def excClsIn (K : PySem.W.Frag) (D : Addr) : Bool:=(PySem.W.clsIn K D).isSome && PySem.W.instIn K (.ref D) (.type "tuple") == some false && PySem.W.mroIn K D (.type "BaseException") == some true
open PySem.W in
theorem exc_matches {M : Model} {A : Around} {E : Value->Shared->Prop} {s : Shared} {K : PySem.W.Frag} {D e C : Addr} {oe : Obj} {Q : Bool->Shared->Prop} (X : K.In s.heap) (hD : excClsIn K D = true) (he : s.heap.get? e = some oe) (hc : oe.cls = .ref C)
  (hs : PySem.W.mroIn K C (.ref D) = some true) (hq : Q true s) : wpAny M A (excMatches (.ref e) (.ref D)) Q E s:=by
 unfold excClsIn at hD
 rw [Bool.and_eq_true,Bool.and_eq_true,beq_iff_eq,beq_iff_eq] at hD
 obtain ⟨⟨h1,h2⟩,h3⟩:=hD
 obtain ⟨hh,g,dr,tk,os⟩:=s
 have L1:=looks_instIn (M:=M) X h2
 have L2:=looks_mroIn (M:=M) X h3
 have L3:=looks_mroIn (M:=M) X hs
 obtain ⟨oD,hD1,cdD,hD2⟩ : ∃ oD,hh.get? D = some oD/\∃ cd,oD.data = .cls cd:=by
  unfold clsIn at h1
  split at h1
  ·rename_i ho
   exact ⟨_,X _ _ ho,_,rfl⟩
  ·cases h1
 have T : Looks M hh (typeOf (.ref e)) (.ref C):=hc ▸ (Looks.ld he).andThen .now
 unfold excMatches isExcClass
 repeat (first | (with_reducible refine Looks.at L1 ?_) | (with_reducible refine Looks.at L2 ?_) | (with_reducible refine Looks.at L3 ?_) | (with_reducible refine Looks.at T ?_) | (with_reducible refine ks_wpAny_isType_cls hD1 hD2 ?_) | wp_step)
 all_goals exact hq
theorem ps_try (hb : ∀ pins S,PSs (X.tr S pins) body (tb S)) (hh : ∀ e,PSs (X.hand e) (b₀ :: suite) (ts e)) (hN : X.N.Nodup) (hi : X.N[i]? = some n) (hm : X.mg x = some (.ref D₀)) (hD : excClsIn X.K D₀ = true) (hk : X.env.scope.names.lookup n = some .local:=by rfl)
  (hg : Gl X x:=by rfl) (hs : X.stack = X.env :: X.outer:=by rfl) (hf : X.env.frame = some X.env.locals:=by rfl) (hdb : (x == ("__debug__" : Str)) = false:=by decide) :
  PS X (.Try body [.ExceptHandler (some (.Name x np)) (some n) (b₀ :: suite) hpos] [] [] pos) (tTry X.K i D₀ tb ts):=by
 intro pins s σ H D I h
 refine wpAny_Try_except (wpAny_mono (hb pins _ [] s σ H D I.tr h) (fun f s1 q=>?_) fun ev s1 q=>?_)
 ·cases f with
  | next=>exact wpAny_execs_nil q.untr
  | ret u=>exact q.untr
  | brk=>exact q.untr
  | cont=>exact q.untr
 obtain ⟨σ1,H1,e,C,d,rfl,I1,hfl,hsub,hS⟩:=q
 have fr : X.A.frames = some (X.env :: X.outer):=hs ▸ I1.ok.frames
 have new : ∀ {T : Addr},s1.heap.objs.size <= T->X.s₀.heap.objs.size <= T/\T ≠ X.env.locals/\(∀ x c,X.env.cells.lookup x = some c->c ≠ T)/\∀ p ∈ X.pn ++ pins,p.1 ≠ T:=fun {T} hT =>
  ⟨Nat.le_trans I1.sz hT,fun z=>absurd I1.lt (Nat.not_lt.mpr (z ▸ hT)),fun y c q z=>by
   obtain ⟨v,o,ho,_⟩:=I1.cell y c q
   exact absurd (Heap.lt_size ho) (Nat.not_lt.mpr (z ▸ hT)),fun p hp z=>absurd (Heap.lt_size (I1.pin p hp).1) (Nat.not_lt.mpr (z ▸ hT))⟩
 generalize hH2 : upd H1 e (excO e C d) = H2 at hS
 have a2 : H2 e = some (excO e C d):=by rw [<- hH2];exact upd_same
 have m2 : Mut (H2 e):=by rw [a2];trivial
 have noted : ∀ {Q : Unit->Shared->Prop} {E : Value->Shared->Prop},(∀ h' T,s1.heap.objs.size <= T->TrX h' e (excObj C d #[]) T (rawInt X.env.locals)->Inv X pins σ1 H2 { s1 with heap:=h' }->Q () { s1 with heap:=h' }) ->
   wpAny (model X.prog X.w) X.A (noteFrame (.ref e) X.env) Q E s1:=by
  intro Q E k
  rcases hfl with he | ⟨T,F⟩
  ·obtain ⟨vs,q,q1⟩:=I1.hok.exn he
   refine note0 (base:=X.base) (o:=excObj C d #[]) fr (hs ▸ I1.stack) hf q q1 fun h' T z1 z2 z3=>k h' T z1 z2 ?_
   obtain ⟨vs',_,_,q',_⟩:=id z2
   exact hH2 ▸ I1.flew (by rw [hs];exact z3) (by rw [he];trivial) q' fun b hb=>.inl (by simpa using hb)
  ·refine noteT (base:=X.base) fr (hs ▸ I1.stack) hf F.tr fun h' T' z1 z2 z3=>k h' T' z1 z2 ?_
   obtain ⟨vs',_,_,q',_⟩:=id z2
   refine hH2 ▸ I1.flew (by rw [hs];exact z3) (by rw [F.at_];trivial) q' fun b hb=>?_
   rcases List.mem_cons.mp hb with rfl | hb
   ·exact .inr ⟨F.free,F.big,F.loc,F.cell,F.pin⟩
   ·exact .inl (by simpa using hb)
 have land : ∀ {A : Around} {Q : Unit->Shared->Prop} {E : Value->Shared->Prop} {s2 : Shared} {T : Addr} {fl : Value},s1.heap.objs.size <= T->TrX s2.heap e (excObj C d #[]) T fl->Inv X pins σ1 H2 s2 ->
   (∀ h',TrX h' e (excObj C d #[]) T .none->Inv X pins σ1 H2 { s2 with heap:=h' }->Q () { s2 with heap:=h' })->wpAny (model X.prog X.w) A (setFlight (.ref e) none) Q E s2:=by
  intro A Q E s2 T fl z1 z2 I2 k
  refine landX (fs:=frs X.stack) z2 fun h' y1 y2=>k h' y1 ?_
  obtain ⟨vs',_,_,q',_⟩:=id y1
  have nT : T ≠ e:=y1.elim fun _ ⟨_,_,_,_,z,_⟩=>z
  have f2 : H2 T = none:=by rw [<- hH2,upd_ne nT];exact I1.hok.fresh z1
  have:=I2.flew (e:=e) (C:=C) (d:=d) (vs:=vs') y2 m2 q' fun b hb=>.inr (by rw [show b = T by simpa using hb];exact ⟨f2,new z1⟩)
  rwa [upd_self a2] at this
 refine noted fun h1 T z1 z2 I2=>land z1 z2 I2 fun h2 z3 I3=>?_
 refine wpAny_handleBy_cons (codeAny_handlers_test (ld_glob (X:=X.hand e) I3.hand hg hm ?_ hdb)) (by intro q;cases q)
 obtain ⟨vs3,q3⟩:=I3.hok.exc a2
 refine exc_matches I3.kIn hD q3 rfl hsub ?_
 refine codeAny_handlers_suite_as (land (A:=X.A.mark (some (.ref e))) z1 z3 I3 fun h4 z4 I4=>?_)
 refine store_ok (X:=X.hand e) I4.hand hN hi (.inl hk) (show RelV (.ref e) (.ref e) from rfl) (fun s5 I5=>?_) (.inr hk)
 refine wpAny_mono (hh e pins s5 _ H2 _ I5 hS) (fun f s6 q=>?_) fun _ _ z=>z.elim
 cases f with
 | next =>
  obtain ⟨σ6,H6,I6,q6⟩:=q
  exact unbind_ok (I6.unhand I1.ok) hN hi hk fun s7 I7=>⟨_,_,I7,q6⟩
 | brk =>
  obtain ⟨σ6,H6,I6,q6⟩:=q
  exact unbind_ok (I6.unhand I1.ok) hN hi hk fun s7 I7=>⟨_,_,I7,q6⟩
 | cont =>
  obtain ⟨σ6,H6,I6,q6⟩:=q
  exact unbind_ok (I6.unhand I1.ok) hN hi hk fun s7 I7=>⟨_,_,I7,q6⟩
 | ret u =>
  obtain ⟨v,σ6,H6,I6,r,q6⟩:=q
  exact unbind_ok (I6.unhand I1.ok) hN hi hk fun s7 I7=>⟨v,_,_,I7,r,q6⟩
end
end L2
end

section
set_option Elab.async false
set_option linter.all false
set_option maxRecDepth 100000
namespace L2
open PySem PySem.Spec PyProof.Rows
def raisesIn (K : PySem.W.Frag) (C : Addr) : Bool:=PySem.W.mroIn K C (.type "BaseException") == some true && PySem.W.typeIn K (.ref C) == some (.type "type")
def tRaise (K : PySem.W.Frag) (S : SK) (te : TE) : TS:=fun _ σ H=>te σ H fun v H1=>∃ e C d,v = .ref e/\H1 e = some (excN e C d)/\raisesIn K C = true/\S σ e C d (upd H1 e (excO e C d))
section
variable {X : Cx} {S : SK} {e : Expr} {te : TE} {pos : Pos}
open PySem.W in
theorem ps_raise (hX : XeOk X S) (he : PE X e te) (hc : X.calm = true := by rfl) : PS X (.Raise (some e) none pos) (tRaise X.K S te) := by
  intro pins s σ H D I h
  rw [arm_exec_Raise]
  show wpAny _ _ (do standAt pos; raiseStmt X.env (some (do let v ← eval e X.env; standAt pos; pure v)) none) _ _ _
  refine wpAny_bind (wpAny_standAt ?_)
  unfold raiseStmt
  refine wpAny_bind (wpAny_bind (thn (he pins s σ H _ I h) fun u s1 ⟨v, H1, I1, r, a, C, d, ev, a1, hr, q⟩ => wpAny_bind (wpAny_standAt (wpAny_pure ?_))))
  subst ev
  obtain rfl : u = Value.ref a := r
  obtain ⟨vs, o1, f1⟩ := I1.hok.exn a1
  have hE := hX.new pins σ H1 s1 a C d I1 a1 q
  have KX := I1.kIn
  obtain ⟨hh, g, dr, tk, os⟩ := s1
  unfold raisesIn at hr
  rw [Bool.and_eq_true, beq_iff_eq, beq_iff_eq] at hr
  have L1 := looks_mroIn (M := model X.prog X.w) KX hr.1
  have L2 := looks_typeIn (M := model X.prog X.w) KX hr.2
  have T : Looks (model X.prog X.w) hh (typeOf (.ref a)) (.ref C) := (Looks.ld o1).andThen .now
  have nc : ∀ c, (excObj C d vs).data ≠ .cls c := fun c z => by cases z
  have hcalm := I1.ok.hd hc
  refine wpAny_bind (wpAny_pure (wpAny_bind (wpAny_holding ?_)))
  unfold excFromValue isExcClass
  refine wpAny_bind (wpAny_bind (ks_wpAny_isType_inst o1 nc (wpAny_pure ?_)))
  show wpAny _ _ (isInstance (.ref a) _ >>= _) _ _ _
  unfold isInstance
  refine wpAny_bind (wpAny_bind (T.at (L1.at ?_)))
  refine wpAny_pure ?_
  refine wpAny_bind (ks_wpAny_isType_inst o1 nc ?_)
  show wpAny _ _ (raisedInstance (.ref a) >>= _) _ _ _
  unfold raisedInstance
  refine wpAny_bind (wpAny_bind (T.at (wpAny_bind (L2.at ?_))))
  refine wpAny_pure ?_
  unfold setFlight
  refine wpAny_bind (wpAny_bind (wpAny_field o1 rfl f1 ?_))
  rw [if_neg (by decide)]
  refine wpAny_pure ?_
  exact wpAny_raiseNew_none hcalm hE
end
abbrev veMro : List Value:=[.type "ValueError",.type "Exception",.type "BaseException",.type "object"]
def excMkIn (K : PySem.W.Frag) (C : Addr) : Bool:=match K.lookup C with
 | some ⟨.type "type",_,.cls cd,sl⟩=>(match cd.mro,sl.toList with
  | .ref C' :: bm,[_,_,_,_,some (.builtin n),_]=>C' == C && n == "ValueError.__new__" && !cd.hasDel && PySem.W.tailIn K veMro bm
  | _,_=>false)
 | _=>false
theorem excMk_of {K : PySem.W.Frag} {h : Heap} {C : Addr} (X : K.In h) (q : excMkIn K C = true) : ∃ nm qn N bs bm hdct sn sub ab col dd k0 k1 k2 k3 k5,
  h.get? C = some (excClassObj nm qn C N bs bm hdct sn sub ab col dd k0 k1 k2 k3 k5 "ValueError.__new__")/\OwnTail h veMro bm:=by
 unfold excMkIn at q
 split at q
 ·rename_i dd cd sl ho
  split at q
  ·rename_i C' bm k0 k1 k2 k3 n k5 hm hs
   simp only [Bool.and_eq_true,beq_iff_eq,Bool.not_eq_true'] at q
   obtain ⟨⟨⟨rfl,rfl⟩,hdel⟩,ht⟩:=q
   obtain ⟨nm,bs,mro,ns,qn,hd,sn,sub,ab,col,del⟩:=cd
   dsimp only at hm hdel
   subst hm hdel
   have hsl : sl = #[k0,k1,k2,k3,some (.builtin "ValueError.__new__"),k5]:=by
    obtain ⟨l⟩:=sl
    simp only at hs
    rw [hs]
   subst hsl
   exact ⟨nm,qn,ns,bs,bm,hd,sn,sub,ab,col,dd,k0,k1,k2,k3,k5,X _ _ ho,PySem.W.tail_of_in X ht⟩
  ·cases q
 ·cases q
structure MkX (K : PySem.W.Frag) (C f : Addr) : Prop where
 shape : excMkIn K C = true
 init : PySem.W.findIn K (.ref C) "__init__" = some (some (.ref f))
 fn : PySem.W.isFn K (.ref f) = true
 kp : PySem.W.keepIn K (.ref C) = true
section
variable {prog : Program} {w : World} {A : Around} {E : Value->Shared->Prop} {K : PySem.W.Frag} {C f : Addr} {s : Shared} {rest : List Value} {Q : Value->Shared->Prop}
open PySem.W in
theorem make_exc (X : K.In s.heap) (m : MkX K C f) (hl : rest.length <= sizeLine)
  (hq : ∀ h',(∀ b o,s.heap.get? b = some o->h'.get? b = some o)->h'.get? (s.heap.objs.size + 1) = some (excObj C none #[.ref s.heap.objs.size,.none,.none,.none,.bool false,.none]) ->
   wpAny (model prog w) (A.under (.builtin "type.__call__" ⟨.ref C :: rest,[]⟩)) (call (.ref f) (.ref (s.heap.objs.size + 1) :: rest)) (fun r s'=>r = .none/\Q (.ref (s.heap.objs.size + 1)) s') E { s with heap:=h' }) :
  wpAny (model prog w) A (call (.ref C) rest) Q E s:=by
 obtain ⟨nm,qn,N,bs,bm,hdct,sn,sub,ab,col,dd,k0,k1,k2,k3,k5,hC,T⟩:=excMk_of X m.shape
 have F:=PySem.F.excBase_ValueError
 obtain ⟨h,g,d,t,os⟩:=s
 have f1:=tc_lookup
 have f2:=tc_bind (.ref C)
 have hT : (⟨h,g,d,t,os⟩ : Shared).TypeIs (.ref C) "type" := ⟨_,hC,rfl⟩
 refine wpAny_call (codeAny_of_tree ?_)
 show wpAny _ _ (callAny (.ref C) _) _ _ _
 repeat (any_goals (first | assumption | (with_reducible refine wpAny_loadPart_at hC ?_) | wp_step))
 refine ⟨rfl,codeAny_call_builtin_at (Code.quiet_builtin _ (by decide +kernel)) entry_typeCall (wpAny_check_type_call_sub hC ?_)⟩
 repeat (first | (with_reducible refine wpAny_loadPart_at hC ?_) | (with_reducible refine wpAny_madeBy_exc hC ?_) | wp_step)
 refine codeAny_call_builtin_code (Code.quiet_builtin _ F.quiet) (wpAny_check_new_subT F T hC ?_)
 refine codeAny_exc_new_subT F T hC ?_ hl
 show wpAny _ _ _ _ _ _
 have kp : ∀ b o,h.get? b = some o->((h.push { cls:=.type "tuple",data:=.seq rest.toArray }).push { cls:=.ref C,data:=.fields #[.ref h.objs.size,.none,.none,.none,.bool false,.none] }).get? b = some o:=fun b o e=>Heap.get?_push_of_some _ (Heap.get?_push_of_some _ e)
 have get : ((h.push { cls:=.type "tuple",data:=.seq rest.toArray }).push { cls:=.ref C,data:=.fields #[.ref h.objs.size,.none,.none,.none,.bool false,.none] }).get? (h.objs.size + 1) = some (excObj C none #[.ref h.objs.size,.none,.none,.none,.bool false,.none]):=Heap.get?_push_at (by rw [Heap.size_push]) rfl
 have X1 : K.In ((h.push { cls:=.type "tuple",data:=.seq rest.toArray }).push { cls:=.ref C,data:=.fields #[.ref h.objs.size,.none,.none,.none,.bool false,.none] }):=X.keeps kp
 have hC1:=kp _ _ hC
 have hcC : (Value.ref C :: bm).contains (.ref C) = true:=by simp
 have T1 : Looks (model prog w) ((h.push { cls:=.type "tuple",data:=.seq rest.toArray }).push { cls:=.ref C,data:=.fields #[.ref h.objs.size,.none,.none,.none,.bool false,.none] }) (typeOf (.ref (h.objs.size + 1))) (.ref C):=(Looks.ld get).andThen .now
 have L1:=looks_findIn (M:=model prog w) X1 m.init
 have L2:=bind_fn (M:=model prog w) X1 (.ref (h.objs.size + 1)) (beq_iff_eq.mp m.fn)
 have hq1:=hq _ kp get
 unfold isInstance
 repeat (first | (with_reducible refine Looks.at T1 ?_) | (with_reducible refine wpAny_loadPart_at get ?_) | (with_reducible refine wpAny_isSubtype_exc hC1 ?_;rw [hcC]) | wp_step)
 show wpAny _ _ (isSubtype (.ref C) (.ref C)) _ _ _
 refine wpAny_isSubtype_exc hC1 ?_
 rw [hcC]
 repeat (first | (with_reducible refine Looks.at T1 ?_) | wp_step)
 show wpAny _ _ (typeLookup (.ref C) _) _ _ _
 refine Looks.at L1 ?_
 refine wpAny_holding (wpAny_bind ?_)
 refine Looks.at L2 ?_
 refine wpAny_bind (wpAny_mono hq1 (fun r s' hr=>?_) fun _ _ z=>z)
 obtain ⟨rfl,hQ⟩:=hr
 wp_walk
 exact hQ
end
def tMakeX (C : Addr) (sp : Sp) (t : TA) : TE:=fun σ H Q=>t σ H fun vs H1=>vs.length <= 1000/\∀ e,H1 e = none->sp (.ref e :: vs) (upd H1 e (excN e C none)) (fun v H2=>v = .non/\Q (.ref e) H2) E0
def MakeOk (P : Program) (w : World) (K : PySem.W.Frag) (mg : Str->Option Value) (base : Heap) (x : Str) (C : Addr) (k : Nat) (ps : List Str) (sp : Sp) : Prop :=
 ∃ f fd,MkX K C f/\FnOk P w K mg base CX0 k f fd ps sp/\mg x = some (.ref C)/\Binds K fd ps []
section
variable {X : Cx} {k j : Nat} {C : Addr} {ps : List Str} {sp : Sp} {x : Str} {p pos : Pos} {e : Expr} {es : List Expr} {t : TA}
theorem pe_makeX (M : MakeOk X.prog X.w X.K X.mg X.base x C k ps sp) (hr : Room j X.A) (ha : PA X (e :: es) t) (hg : Gl X x:=by rfl) (hj : k + 1 <= j:=by decide) (hdb : (x == ("__debug__" : Str)) = false:=by decide)
  (he : starEach (e :: es) X.env = (false,eval e X.env) :: starEach es X.env:=by rfl) (hpl : (backTo pos (starEach es X.env)).any (·.1) = false:=by rfl) : PE X (.Call (.Name x p) (e :: es) [] pos) (tMakeX C sp t):=by
 obtain ⟨f,fd,M,F,hm,hb⟩:=M
 intro pins s σ H Q I h
 refine wpAny_Call_Name_kw (ld_glob I hg hm ?_ hdb)
 refine PySem.W.callWith_K (h₀:=X.base) I.ok.mod.kin M.kp (thn (ha pos pins s σ H _ I h) fun us s1 ⟨vs,H1,I1,r,hl,q⟩=>⟨I1.kIn,?_⟩) he hpl
 show wpAny _ _ (call (.ref C) us) _ _ _
 refine make_exc I1.kIn M (by rw [<- r.length];exact Nat.le_of_lt (small1000 hl)) fun h' kp get=>?_
 have q:=q (s1.heap.objs.size + 1) (I1.hok.fresh (Nat.le_succ _))
 have I2 : Inv X pins σ (upd H1 (s1.heap.objs.size + 1) (excN (s1.heap.objs.size + 1) C none)) { s1 with heap:=h' }:=I1.laid (t':=s1.toks) kp (Nat.le_succ _) (excN.ok get rfl)
 have r2 : Vals (V.ref (s1.heap.objs.size + 1) :: vs) (Value.ref (s1.heap.objs.size + 1) :: us):=.cons rfl r
 have hl2 : (Value.ref (s1.heap.objs.size + 1) :: us).length = ps.length:=by rw [<- r2.length];exact F.len _ _ _ _ q
 have hb':=hb { s1 with heap:=h' } (Value.ref (s1.heap.objs.size + 1) :: us) I2.kIn (by rw [List.append_nil];exact hl2)
 rw [List.append_nil] at hb'
 refine wpAny_call (codeAny_mono (F.run _ X.stack _ _ ⟨_,[]⟩ _ _ _ E0 ((hr.mono hj).make C us []) (I2.env0.make C us []) hb' r2 q) fun r s' hq'=>?_)
 cases r with
 | error ev=>exact hq'.elim
 | ok fl =>
  cases fl with
  | ret u =>
   obtain ⟨v,H',I3,rv,ev,q3⟩:=I2.after hq'
   subst ev
   exact ⟨rv,⟨V.ref (s1.heap.objs.size + 1),H',I3,rfl,q3⟩⟩
  | next=>exact False.elim hq'
  | brk=>exact False.elim hq'
  | cont=>exact False.elim hq'
end
end L2
end

section
set_option Elab.async false
set_option linter.all false
set_option maxRecDepth 100000
namespace L2
open PySem PySem.Spec PyProof.Rows PySem.W
abbrev veInit : String := "ValueError.__init__"
theorem xw_slot : Slot "wrapper_descriptor" "__get__" "wrapper_descriptor.__get__" := .of (owner := "wrapper_descriptor") (n := "__get__") (by rw [typeLookup_type,builtinLookup_eq_fast];kernel_rfl) (by decide +kernel) (by decide +kernel) (by decide +kernel) (by first | exact .inl (by decide +kernel) | exact .inr (by decide +kernel)) (by rw [isSubtype_type];kernel_rfl)
theorem xw_entry : entryFor table "wrapper_descriptor.__get__" = some Builtin.«wrapper_descriptor.__get__» := entryFor_of_tree (by kernel_rfl)
theorem xw_args (a b c : Value) : argsOk "wrapper_descriptor.__get__" ⟨[a,b,c],[]⟩:=by unfold argsOk;kernel_rfl
theorem xw_type : typeOf (.builtin veInit) = pure (.type "wrapper_descriptor"):=by kernel_rfl
theorem xw_bound {M : Model} {A : Around} {E : Value->Shared->Prop} {hh : Heap} {g : Array GenState} {d : Drawn} {t : Nat} {os : OsState} {Q : Unit->Shared->Prop} {e C : Addr} {oe : Obj} {K : Frag} (b : Value) (X : K.In hh) (he : hh.get? e = some oe) (hc : oe.cls = .ref C)
  (hk : (clsIn K C).isSome = true) (hq : Q () ⟨hh,g,d,t,os⟩) : wpAny M A (checkBoundCall veInit ⟨[.ref e,b],[]⟩) Q E ⟨hh,g,d,t,os⟩:=by
 have F:=PySem.F.excBase_ValueError
 obtain ⟨cd,hcd⟩:=Option.isSome_iff_exists.mp hk
 have L:=looks_clsIn (M:=M) X hcd
 simp only [checkBoundCall,F.initRow,F.initKind]
 repeat (first | (with_reducible refine wpAny_loadPart_at he ?_;rw [hc]) | (with_reducible refine Looks.at L ?_) | (with_reducible refine wpAny_onRaise ?_) | wp_step)
 exact hq
abbrev mwObj (x : Addr) : Obj:={ cls:=.type "method-wrapper",data:=.fields #[.builtin veInit,.ref x] }
section
variable {prog : Program} {w : World} {A : Around} {E : Value->Shared->Prop} {h : Heap} {g : Array GenState} {d : Drawn} {t : Nat} {os : OsState} {so D x C : Addr} {ox : Obj} {l₀ l : List Value} {K : Frag}
theorem xw_get {Q : Fin->Shared->Prop} (X : K.In h) (hx : h.get? x = some ox) (hxc : ox.cls = .ref C) (hve : mroIn K C (.type "ValueError") = some true)
  (hq : Q (.done (.ret (.ref h.objs.size))) ⟨h.push (mwObj x),g,d,t,os⟩) :
  wpAny (model prog w) A (Builtin.«wrapper_descriptor.__get__» ⟨[.builtin veInit,.ref x,.ref C],[]⟩) Q E ⟨h,g,d,t,os⟩:=by
 have T : Looks (model prog w) h (typeOf (.ref x)) (.ref C):=hxc ▸ (Looks.ld hx).andThen .now
 have L1:=looks_mroIn (M:=model prog w) X hve
 unfold Builtin.«wrapper_descriptor.__get__»
 repeat (first | (with_reducible refine Looks.at T ?_) | (with_reducible refine Looks.at L1 ?_) | wp_step | dsimp only)
 rw [show (".".intercalate (veInit.cutAt '.').dropLast) = "ValueError" by decide +kernel]
 refine Looks.at L1 ?_
 repeat (first | (with_reducible refine wpAny_newObj_type ?_ (by size_fits)) | wp_step | dsimp only)
 exact hq
theorem xs_ga {tk : Tok} {Q : Fin → Shared → Prop} (hso : h.get? so = some (ks_superObj D x C)) (hno : Looks (model prog w) h (opaqueClassAbove (.ref C)) none)
    (hC : Looks (model prog w) h (mroOf (.ref C)) l₀) (hl : (l₀.dropWhile (· != .ref D)).drop 1 = l) (X : K.In h) (hf : alongIn K "__init__" l = some (some (.builtin veInit))) (hx : h.get? x = some ox) (hxc : ox.cls = .ref C) (hve : mroIn K C (.type "ValueError") = some true) (hxC : x ≠ C)
    (hq : Q (.done (.ret (.ref h.objs.size))) ⟨h.push (mwObj x), g, d, t, os⟩) :
    wpAny (model prog w) A (Builtin.«super.__getattribute__» ⟨[.ref so, .str "__init__" tk], []⟩) Q E ⟨h, g, d, t, os⟩ := by
  have hlk := xw_slot.lookup
  have hne : (Value.ref x == Value.ref C) = false := by simp [hxC]
  have hT : (⟨h, g, d, t, os⟩ : Shared).TypeIs (.builtin veInit) "wrapper_descriptor" := xw_type
  have dt : (ks_superObj D x C).data = .fields #[.ref D, .ref x, .ref C] := rfl
  have f0 : (#[.ref D, .ref x, .ref C] : Array Value)[0]? = some (.ref D) := rfl
  have f1 : (#[.ref D, .ref x, .ref C] : Array Value)[1]? = some (.ref x) := rfl
  have f2 : (#[.ref D, .ref x, .ref C] : Array Value)[2]? = some (.ref C) := rfl
  unfold Builtin.«super.__getattribute__»
  repeat (first
    | (with_reducible refine wpAny_field hso dt f0 ?_) | (with_reducible refine wpAny_field hso dt f1 ?_) | (with_reducible refine wpAny_field hso dt f2 ?_)
    | (with_reducible refine ks_wpAny_notOpaque hno ?_) | (with_reducible refine Looks.at hC ?_; rw [hl])
    | (refine ks_forIn_along X (fun _ _ => rfl) rfl ?_ hf)
    | (with_reducible refine wpAny_typeOf hT ?_)
    | (with_reducible refine wpAny_call_entry xw_slot hT xw_entry (xw_get X hx hxc hve ?_) (xw_args _ _ _))
    | (with_reducible refine ⟨_, rfl, ?_⟩)
    | (simp only [hne, Bool.false_eq_true, if_false])
    | wp_step | dsimp only)
  all_goals exact hq
theorem xs_method {pl : Sem Bool} {Q : Value × List Value → Shared → Prop} (hso : h.get? so = some (ks_superObj D x C)) (hno : Looks (model prog w) h (opaqueClassAbove (.ref C)) none)
    (hC : Looks (model prog w) h (mroOf (.ref C)) l₀) (hl : (l₀.dropWhile (· != .ref D)).drop 1 = l) (X : K.In h) (hf : alongIn K "__init__" l = some (some (.builtin veInit))) (hx : h.get? x = some ox) (hxc : ox.cls = .ref C) (hve : mroIn K C (.type "ValueError") = some true) (hxC : x ≠ C)
    (hq : Q (.ref h.objs.size, []) ⟨h.push (mwObj x), g, d, t + 1, os⟩) : wpAny (model prog w) A (getMethod (.ref so) "__init__" pl) Q E ⟨h, g, d, t, os⟩ := by
  have hT : ∀ t', (⟨h, g, d, t', os⟩ : Shared).TypeIs (.ref so) "super" := fun _ => ⟨_, hso, rfl⟩
  unfold getMethod
  refine wpAny_bind (wpAny_specialOf (hT _) PySem.F.ks_slot_super_ga.lookup ?_)
  show wpAny _ _ (if (Manifest.canonical "super.__getattribute__" != "object.__getattribute__") = true then _ else _) _ _ _
  rw [if_pos PySem.F.ks_canon_super_ga]
  unfold getAttr getAttrBy
  refine wpAny_bind (wpAny_bind (wpAny_mkText (wpAny_holding (wpAny_bind (wpAny_typeOf (hT _) (wpAny_bind (wpAny_of_eq PySem.F.ks_slot_super_ga.lookup ?_)))))))
  show wpAny _ _ (getAttrByItsOwn (.ref so) (.str "__init__" t) (.type "super") (.builtin "super.__getattribute__") true false) _ _ _
  unfold getAttrByItsOwn hookBefore; unfold callGetattribute boundAndCalled
  refine wpAny_bind (wpAny_of_eq (show (if onTheHeap (.type "super") then typeLookup (.type "super") "__getattr__" else pure none) = pure none from rfl) (wpAny_bind (wpAny_attempt (wpAny_holding ?_))))
  show wpAny _ _ (bindSpecial (.builtin "super.__getattribute__") (.ref so) >>= _) _ _ _
  refine wpAny_bind (wpAny_of_eq (PySem.F.ks_slot_super_ga.bind _) ?_)
  refine wpAny_mono (Q := fun v s' => v = .ref h.objs.size ∧ s' = ⟨h.push (mwObj x), g, d, t + 1, os⟩) (E := fun _ _ => False)
    (wpAny_call_entry PySem.F.ks_slot_super_ga (hT _) PySem.F.ks_entry_super_ga (xs_ga hso hno hC hl X hf hx hxc hve hxC ⟨_, rfl, rfl, rfl⟩) (PySem.F.ks_gaArgs_super _ _)) (fun v s' hv => ?_) fun _ _ z => z.elim
  obtain ⟨rfl, rfl⟩ := hv
  exact wpAny_pure (wpAny_pure hq)
theorem mw_call {s : Shared} {mw e : Addr} {x0 : Value} {dx : Option Addr} {vs : Array Value} {u : Value} {Q : Value->Shared->Prop} (X : K.In s.heap) (hk : (clsIn K C).isSome = true) (hm : s.heap.get? mw = some (mwObj e)) (he : s.heap.get? e = some (excObj C dx vs)) (h0 : (vs[0]? : Option Value) = some x0)
  (hq : ∀ h',(∀ b o,b ≠ e->s.heap.get? b = some o->h'.get? b = some o)->h'.get? e = some (excObj C dx (vs.setIfInBounds 0 (.ref s.heap.objs.size)))->Q .none { s with heap:=h' }) : wpAny (model prog w) A (call (.ref mw) [u]) Q E s:=by
 have F:=PySem.F.excBase_ValueError
 obtain ⟨hh,g,d,tk,os⟩:=s
 refine wpAny_call (codeAny_of_tree ?_)
 show wpAny _ A.in1 (callAny (.ref mw) ⟨[u],[]⟩) _ _ _
 simp only [callAny]
 refine wpAny_bind (wpAny_load hm ?_)
 show wpAny _ _ (checkBoundCall veInit ⟨[.ref e,u],[]⟩ >>= fun _=>_) _ _ _
 refine wpAny_bind (xw_bound u X he rfl hk ?_)
 refine wpAny_bind (wpAny_pure (wpAny_pure ⟨Code.quiet_builtin _ (by decide +kernel),codeAny_builtin F.initEntry ?_⟩))
 unfold Builtin.«BaseException.__init__»
 dsimp only
 rw [if_neg (by simp)]
 unfold newTuple Builtin.BaseException.bexcPut
 have he1:=Heap.get?_push_of_some (h:=hh) { cls:=.type "tuple",data:=.seq #[u] } he
 refine wpAny_bind (wpAny_newObj_type (wpAny_bind (wpAny_bind (wpAny_field he1 rfl h0 (wpAny_bind ?_)))) (by show 1 <= sizeLine;decide))
 refine setF (o:=excObj C dx #[]) he1 (Array.getElem?_eq_some_iff.mp h0).1 fun h' e' sb=>?_
 have fin:=hq h' (fun b o hb q=>(sb.2 b hb).trans (Heap.get?_push_of_some _ q)) e'
 cases x0 <;> first | exact wpAny_letGo (wpAny_pure fin) | exact wpAny_pure (wpAny_pure fin)
end
end L2
end

section
set_option Elab.async false
set_option linter.all false
set_option maxRecDepth 100000
namespace L2
open PySem PySem.Spec PyProof.Rows PySem.W
theorem lookup_nodup {α β : Type} [BEq α] [LawfulBEq α] : ∀ {l : List (α × β)} {k : α} {v : β},(l.map (·.1)).Nodup->(k,v) ∈ l->l.lookup k = some v
 | [],_,_,_,h=>nomatch h
 | (a,b) :: l,k,v,nd,h=>by
  rw [List.map_cons,List.nodup_cons] at nd
  rw [List.lookup_cons]
  rcases List.mem_cons.mp h with h | h
  ·cases h;simp
  ·have : (k == a) = false:=beq_eq_false_iff_ne.mpr fun z=>nd.1 (z ▸ List.mem_map_of_mem (f:=(·.1)) h)
   rw [this]
   exact lookup_nodup nd.2 h
structure InScope (ps : List Str) (sc : Scope) : Prop where
 kind : sc.kind = .function
 co : sc.isCoroutine = false
 gen : sc.isGenerator = false
 nd : ps.Nodup
 loc : ∀ x ∈ ps,sc.names.lookup x = some .local
 cell : ∀ x ∈ sc.names,x.2 ≠ .cell
 free : ∀ x ∈ sc.names,x.2 = .free->x.1 = "__class__"
def cxI (P : Program) (w : World) (K : PySem.W.Frag) (mg : Str->Option Value) (base : Heap) (N : List Str) (qual : Str) (scope : Scope) (f : Addr) (cd : Value) (cc : Addr) (A : Around) (outer : List Env) (s : Shared) (H : Hp) : Cx where
 prog:=P
 w:=w
 K:=K
 mg:=mg
 base:=base
 A:=A.deeper (ksEnv qual scope s.heap.objs.size f cd cc)
 N:=N
 s₀:=s
 H₀:=H
 env:=ksEnv qual scope s.heap.objs.size f cd cc
 outer:=outer
 stack:=ksEnv qual scope s.heap.objs.size f cd cc :: outer
 ex:=[]
 calm:=true
 fn:=fun x=>x != "__class__"
 pn:=[]
 xe:=fun _ _=>False
section
variable {P : Program} {w : World} {K : PySem.W.Frag} {mg : Str->Option Value} {base : Heap} {k : Nat} {f cc C cda : Addr} {name qual : Str} {params : Arguments} {body : List Stmt} {scope : Scope} {kV doc pm ct oc cl : Value} {an od cld : Option Addr}
 {osl csl : Array (Option Value)} {ps : List Str} {sp : Sp}
theorem init_of (lk : K.lookup f = some ⟨oc,od,.func (ksFn name qual params body scope .none kV doc pm an (.ref cda) ct cc),osl⟩) (hcd : PySem.W.codeIn K (.ref cda) qual = true) (lc : K.lookup cc = some ⟨cl,cld,.cell (some (.ref C)),csl⟩)
  (S : InScope ps scope) (len : ∀ vs H Q E,sp vs H Q E->vs.length = ps.length)
  (hbody : ∀ (A : Around) (outer : List Env) (s s1 : Shared) (H : Hp) (vs : List V) (Q : VK) (E : XK),Room k (A.deeper (ksEnv qual scope s.heap.objs.size f (.ref cda) cc))->sp vs H Q E ->
   Inv (cxI P w K mg base ps qual scope f (.ref cda) cc A outer s H) [] (vs.map some) H s1 ->
   PySem.wpAt (model P w) (A.deeper (ksEnv qual scope s.heap.objs.size f (.ref cda) cc)) (.func body (ksEnv qual scope s.heap.objs.size f (.ref cda) cc)) (execs body (ksEnv qual scope s.heap.objs.size f (.ref cda) cc))
    (SP (cxI P w K mg base ps qual scope f (.ref cda) cc A outer s H) [] { nx:=fun _ H'=>Q .non H',rt:=Q }) (fun _ _=>False) s1) :
  FnOk P w K mg base CX0 (k + 1) f (ksFn name qual params body scope .none kV doc pm an (.ref cda) ct cc) ps sp:=by
 refine ⟨len,fun A outer s H args us vs Q E hr e0 hb r hsp=>?_⟩
 have hl:=len _ _ _ _ hsp
 have hlu : us.length = ps.length:=r.length ▸ hl
 have kb : ∀ b o,base.get? b = some o->s.heap.get? b = some o:=fun b o e=>(e0.bs b o e).1
 have KX : K.In s.heap:=e0.mod.kin.keeps kb
 have lim : s.heap.NoLimit:=e0.mod.nolimit.keeps kb
 refine ks_codeAny_call_defAt (fd:=ksFn name qual params body scope .none kV doc pm an (.ref cda) ct cc) (body:=body) (binds:=ps.zip us) hr.depth (KX _ _ lk) rfl lim (PySem.W.codeRec_of KX hcd) rfl hb S.cell (fun y hy=>S.loc _ (List.of_mem_zip hy).1) (fun h₀ hns hk=>?_) S.co S.gen S.kind
 have ndz : ((ps.zip us).reverse.map (·.1)).Nodup:=by
  rw [List.map_reverse,List.map_fst_zip (by rw [hlu];exact Nat.le_refl _)]
  exact List.pairwise_reverse.mpr (S.nd.imp fun z y=>z y.symm)
 have I : Inv (cxI P w K mg base ps qual scope f (.ref cda) cc A outer s H) [] (vs.map some) H { s with heap:=h₀,toks:=s.toks + (ps.zip us).length }:=by
  have cellL : ∀ y c,(ksEnv qual scope s.heap.objs.size f (.ref cda) cc).cells.lookup y = some c->y = "__class__"/\c = cc:=fun y c q=>by
   have q' : List.lookup y [(("__class__" : Str),cc)] = some c:=q
   rw [List.lookup_cons] at q'
   split at q'
   ·rename_i z
    exact ⟨by simpa using z,(Option.some.inj q').symm⟩
   ·cases q'
  have noA : ∀ b : Addr,b ∉ (cxI P w K mg base ps qual scope f (.ref cda) cc A outer s H).ex:=fun b z=>absurd (show b ∈ ([] : List Addr) from z) (by simp)
  have cb:=e0.mod.kin cc _ lc
  refine ⟨⟨e0.mod,S.kind,rfl,rfl,Nat.le_refl _,fun y z c h1 h2=>(cellL y c h1).1.trans (cellL z c h2).1.symm,fun y hy=>?_,fun y c h1 h2=>?_,fun _=>hr.hd,Around.frames_deeper e0.frames,.inr ⟨rfl,rfl⟩,fun b z=>absurd z (noA b),e0.bs,e0.bsz,fun b _ _=>noA b,fun b z=>absurd z (noA b),e0.funs,e0.frf⟩,
   rfl,⟨e0.bare,Nat.le_refl _⟩,Un.kept hk,⟨_,hns,fun i y v h1 h2 h3=>?_⟩,fun y c h=>?_,e0.hok.fresh (Nat.le_refl _),fun y c h=>?_,fun p hp=>absurd (show p ∈ ([] : List (Addr × Obj)) from hp) (by simp),e0.hok.kept hk,(List.length_map _).trans hl⟩
  ·have hy : scope.names.lookup y = some .cell\/scope.names.lookup y = some .free:=hy
   rcases hy with hy | hy
   ·exact absurd rfl (S.cell _ (PySem.mem_of_lookup hy))
   ·have e:=S.free _ (PySem.mem_of_lookup hy) rfl
    exact ⟨cc,by show List.lookup y [(("__class__" : Str),cc)] = some cc;rw [show y = "__class__" from e];rfl⟩
  ·have h1' : (y != "__class__") = true:=h1
   rw [(cellL y c h2).1] at h1'
   simp at h1'
  ·have h2' : (vs.map some)[i]? = some (some v):=h2
   rw [List.getElem?_map] at h2'
   obtain ⟨v',hv,e⟩:=Option.map_eq_some_iff.mp h2'
   cases e
   obtain ⟨u,hu,rv⟩:=r.get hv
   have h1' : ps[i]? = some y:=h1
   refine ⟨u,rv,.inl ⟨S.loc y (List.mem_of_getElem? h1'),?_⟩⟩
   exact lookup_nodup ndz (List.mem_reverse.mpr (List.mem_iff_getElem?.mpr ⟨i,by rw [List.getElem?_zip_eq_some];exact ⟨h1',hu⟩⟩))
  ·rw [(cellL y c h).2]
   exact ⟨_,_,hk _ _ (kb _ _ cb),rfl⟩
  ·rw [(cellL y c h).2]
   exact (e0.bs _ _ cb).2
 refine ks_wpAt_mono (hbody A outer s _ H vs Q E (hr.deeper _) hsp I) (fun fl s' hs=>?_) (fun _ _ (z : False)=>z.elim)
 have fin : ∀ {σ' : St} {H' : Hp} {v : V} {u : Value},Inv (cxI P w K mg base ps qual scope f (.ref cda) cc A outer s H) [] σ' H' s'->RelV v u->Q v H'->CE outer P w H s Q u s' :=
  fun {σ' H' v u} J rv q=>⟨v,H',J.os,J.bare,J.base,J.hok,rv,q⟩
 cases fl with
 | ret u =>
  obtain ⟨v,σ',H',J,rv,q⟩:=hs
  exact fin J rv q
 | next =>
  obtain ⟨σ',H',J,q⟩:=hs
  exact fin (v:=V.non) (u:=Value.none) J rfl q
 | brk =>
  obtain ⟨_,_,_,q⟩:=hs
  exact False.elim q
 | cont =>
  obtain ⟨_,_,_,q⟩:=hs
  exact False.elim q
end
end L2
end

section
set_option Elab.async false
set_option linter.all false
set_option maxRecDepth 100000
namespace L2
open PySem PySem.Spec PyProof.Rows PySem.W
def excAll (K : Frag) (C : Addr) : Bool:=(clsIn K C).isSome && mroIn K C (.ref C) == some true && mroIn K C (.type "ValueError") == some true && ks_superIn K C C "__init__" == some (some (.builtin veInit)) && nsIn K cStatics "thirdparty.any" == some none
section
variable {P : Program} {w : World} {K : PySem.W.Frag} {mg : Str->Option Value} {base : Heap} {f cc C cda e : Addr} {qual : Str} {scope : Scope} {ps : List Str} {A : Around} {outer : List Env} {s₀ s : Shared} {H₀ H : Hp} {σ : St} {body : List Stmt} {arg : Expr} {t : TA} {p0 p1 p2 p3 p4 : Pos}
 {fd : FuncData} {ar : Arg} {vs : Array Value} {file : Str} {tf : Tok} {oc ccl cl : Value} {od cdd cld : Option Addr} {osl ccs csl : Array (Option Value)} {D : Ends}
theorem super_stmt (lk : K.lookup f = some ⟨oc,od,.func fd,osl⟩) (hp : (fd.params.posonlyargs ++ fd.params.args).head? = some ar) (hi : ps[0]? = some ar.arg)
  (lcode : K.lookup cda = some ⟨ccl,cdd,.fields vs,ccs⟩) (hvs : (vs[2]? : Option Value) = some (.str file tf)) (hfile : ((P.main.file : Str) == file) = true) (lc : K.lookup cc = some ⟨cl,cld,.cell (some (.ref C)),csl⟩)
  (hsup : mg "super" = none) (htop : (P.main.scope.names.lookup ("super" : Str)).isSome = false) (hks : scope.names.lookup ("super" : Str) = some .globalImplicit) (hkc : scope.names.lookup ("__class__" : Str) = some .free) (hka : scope.names.lookup ar.arg = some .local)
  (xc : excAll K C = true) (ha : PA (cxI P w K mg base ps qual scope f (.ref cda) cc A outer s₀ H₀) [arg] t)
  (I : Inv (cxI P w K mg base ps qual scope f (.ref cda) cc A outer s₀ H₀) [] σ H s) (h0 : σ[0]? = some (some (.ref e))) (he : H e = some (excN e C none))
  (q : t σ H fun us H1=>us.length = 1/\H1 e = some (excN e C none)/\D.nx σ H1)
  {pl : Sem Bool} (hev : eval (.Call (.Attribute (.Call (.Name "super" p0) [] [] p1) "__init__" p2) [arg] [] p3) (ksEnv qual scope s₀.heap.objs.size f (.ref cda) cc) = (do
   let ov <- attributeBase (.Call (.Name "super" p0) [] [] p1) "__init__" (ksEnv qual scope s₀.heap.objs.size f (.ref cda) cc) (eval (.Call (.Name "super" p0) [] [] p1) (ksEnv qual scope s₀.heap.objs.size f (.ref cda) cc))
   standAt p2.atName
   let (gm,fst) <- holding [ov] (getMethod ov "__init__" pl)
   callWith p3 gm fst (backTo p3 (starEach [arg] (ksEnv qual scope s₀.heap.objs.size f (.ref cda) cc))) [])) (hsw : swapsWith (.Call (.Attribute (.Call (.Name "super" p0) [] [] p1) "__init__" p2) [arg] [] p3) none p4.line (ksEnv qual scope s₀.heap.objs.size f (.ref cda) cc) = pure false)
  (hpl : starEach [arg] (ksEnv qual scope s₀.heap.objs.size f (.ref cda) cc) = [(false,eval arg (ksEnv qual scope s₀.heap.objs.size f (.ref cda) cc))]) :
  PySem.wpAt (model P w) (A.deeper (ksEnv qual scope s₀.heap.objs.size f (.ref cda) cc)) (.func body (ksEnv qual scope s₀.heap.objs.size f (.ref cda) cc))
   (exec (.Expr (.Call (.Attribute (.Call (.Name "super" p0) [] [] p1) "__init__" p2) [arg] [] p3) p4) (ksEnv qual scope s₀.heap.objs.size f (.ref cda) cc))
   (SP (cxI P w K mg base ps qual scope f (.ref cda) cc A outer s₀ H₀) [] D) (fun _ _=>False) s:=by
 unfold excAll at xc
 simp only [Bool.and_eq_true,beq_iff_eq] at xc
 obtain ⟨⟨⟨⟨x1,x2⟩,x3⟩,x4⟩,x5⟩:=xc
 obtain ⟨cd,hcd⟩:=Option.isSome_iff_exists.mp x1
 have KX : K.In s.heap:=I.kIn
 have kind : scope.kind = .function:=I.ok.kind
 obtain ⟨m,hns,hl⟩:=id I.loc
 obtain ⟨u,ru,lu⟩:=hl 0 _ _ hi h0 (.inl hka)
 have hm : m ar.arg = some (.ref e):=by
  obtain rfl : u = .ref e:=ru
  rcases lu with ⟨_,z⟩ | ⟨z,_⟩
  ·exact z
  ·have z' : scope.names.lookup ar.arg = some .cell\/scope.names.lookup ar.arg = some .free:=z
   rw [hka] at z'
   rcases z' with z' | z' <;> cases z'
 obtain ⟨ve,oe,fe⟩:=I.hok.exn he
 obtain ⟨oD,hD1,hD2⟩ : ∃ oD,s.heap.get? C = some oD/\oD.data = .cls cd:=by
  unfold clsIn at hcd
  split at hcd
  ·rename_i ho
   cases hcd
   exact ⟨_,KX _ _ ho,rfl⟩
  ·cases hcd
 have neC : e ≠ C:=fun z=>by
  rw [z] at oe
  rw [hD1] at oe
  cases oe
  cases hD2
 obtain ⟨mb,hb1,hb2⟩:=I.mod.blt
 have bk:=I.bk
 refine ks_wpAt_Expr_any (ks_wpAt_MethodCall (ks_wpAt_super_base (env:=ksEnv qual scope s₀.heap.objs.size f (.ref cda) cc) hks hkc (by decide) rfl (KX _ _ lk) rfl hp rfl (KX _ _ lcode) rfl hvs hfile htop ?_) hev) (by simp [interactive,kind]) hsw
 refine ks_loadName_global kind hks (PySem.Calls.loadGlobal_builtin (env:=ksEnv qual scope s₀.heap.objs.size f (.ref cda) cc) (I.mod.glob.keeps bk) hsup (hb1.keeps bk) ((hb2 _ (by decide)).trans (by decide +kernel)) ⟨rfl,?_⟩)
 refine wpAny_loadName_free kind hkc rfl ⟨_,KX _ _ lc,rfl⟩ ?_
 refine wpAny_loadName_local kind hka hns hm ?_
 obtain ⟨hh,g,dr,tk,os⟩:=s
 refine ks_wpAny_isType_cls hD1 hD2 ⟨rfl,?_⟩
 refine ks_wpAny_call_super hD1 hD2 oe rfl (fun c z=>by cases z) (looks_mroIn KX x2) fun h1 so k1=>?_
 have I1:=I.kept (t':=tk) k1
 have X1 : K.In h1:=I1.kIn
 have L1 : Looks (model P w) h1 (mroOf (.ref C)) cd.mro:=(looks_clsIn X1 hcd).andThen .now
 have hsp : alongIn K "__init__" ((cd.mro.dropWhile (· != .ref C)).drop 1) = some (some (.builtin veInit)):=by
  unfold ks_superIn at x4
  rw [hcd] at x4
  exact x4
 refine xs_method so (looks_opaque X1 x5) L1 rfl X1 hsp (k1 _ _ oe) rfl x3 neC ?_
 have I2:=I1.kept (h':=h1.push (mwObj e)) (t':=tk + 1) fun b o z=>Heap.get?_push_of_some _ z
 have mwg : (h1.push (mwObj e)).get? h1.objs.size = some (mwObj e):=Heap.get?_push_size _ rfl
 have I3:=I2.pins_of (pins':=[(h1.objs.size,mwObj e)]) fun p hp=>by
  rw [show p = (h1.objs.size,mwObj e) by simpa using hp]
  exact ⟨mwg,I1.hok.fresh (Nat.le_refl _),fun z=>absurd I1.lt (by rw [<- z];exact Nat.lt_irrefl _),I1.nofs (Nat.le_refl _),fun v z=>by cases z⟩
 show wpAny _ _ (callWith p3 (.ref h1.objs.size) [] (backTo p3 (starEach [arg] _)) []) _ _ _
 refine callWith_of (P:=fun hp=>hp.get? h1.objs.size = some (mwObj e)) (by rw [hpl];rfl) (fun hp z=>⟨.machine,.inr (.inl rfl),(Looks.ld (part:=none) z).andThen .now⟩) ?_
 have hpa:=ha p3 [(h1.objs.size,mwObj e)] _ σ H _ I3 q
 rw [show starEach [arg] (cxI P w K mg base ps qual scope f (.ref cda) cc A outer s₀ H₀).env = _ from hpl] at hpa
 rw [hpl]
 refine PySem.Calls.evalArgs_plain (wpAny_mono hpa (fun us s4 ⟨vs4,H4,I4,r4,hl4,he4,hn4⟩=>?_) (fun _ _ (z : False)=>z.elim))
 have pin4:=(I4.pin (h1.objs.size,mwObj e) (by simp)).1
 refine ⟨pin4,?_⟩
 obtain ⟨ve4,oe4,fe4⟩:=I4.hok.exn he4
 have sz : 1 < ve4.size:=(Array.getElem?_eq_some_iff.mp fe4).1
 match us,r4 with
 | [u4],_ =>
  refine mw_call I4.kIn x1 pin4 oe4 (Array.getElem?_eq_getElem (Nat.lt_of_succ_lt sz)) fun h5 k5 e5=>?_
  have I5:=I4.write (x:=e) (e:=e) (h':=h5) (t':=s4.toks) (o:=excN e C none) (by rw [he4];trivial) (.inl rfl) k5 ⟨_,e5⟩ (excN.ok e5 (by rw [Array.getElem?_setIfInBounds_ne (by decide)];exact fe4))
  rw [upd_self he4] at I5
  exact ⟨σ,H4,I5.pins_of (fun p hp=>absurd hp (by simp)),hn4⟩
 | [],.nil=>exact absurd hl4 (by simp)
 | _ :: _ :: _,.cons _ (.cons _ _)=>exact absurd hl4 (by simp)
end
end L2
end

section
set_option Elab.async false
set_option linter.all false
set_option maxRecDepth 100000
namespace L2
open PySem PySem.Spec PyProof.Rows PySem.W
def onlyVE : List Value->Bool
 | .ref _ :: r=>onlyVE r
 | l=>l == veMro
theorem refuse_ve (self : Value) : ∀ {l : List Value},onlyVE l = true->refuseLoop self "__setattr__" l = pure ()
 | .ref c :: r,e=>by rw [refuseLoop_ref];exact refuse_ve self (l:=r) e
 | [],e=>by cases e
 | .type n :: r,e=>by rw [show (Value.type n :: r) = veMro from beq_iff_eq.mp e];exact PySem.F.store_ValueError.passes self
 | .none :: r,e=>by cases (beq_iff_eq.mp (show ((Value.none :: r) == veMro) = true from e))
 | .bool _ :: r,e=>by cases (beq_iff_eq.mp (show ((Value.bool _ :: r) == veMro) = true from e))
 | .int _ _ :: r,e=>by cases (beq_iff_eq.mp (show ((Value.int _ _ :: r) == veMro) = true from e))
 | .float _ _ :: r,e=>by cases (beq_iff_eq.mp (show ((Value.float _ _ :: r) == veMro) = true from e))
 | .str _ _ :: r,e=>by cases (beq_iff_eq.mp (show ((Value.str _ _ :: r) == veMro) = true from e))
 | .bytes _ _ :: r,e=>by cases (beq_iff_eq.mp (show ((Value.bytes _ _ :: r) == veMro) = true from e))
 | .builtin _ :: r,e=>by cases (beq_iff_eq.mp (show ((Value.builtin _ :: r) == veMro) = true from e))
 | .ellipsis :: r,e=>by cases (beq_iff_eq.mp (show ((Value.ellipsis :: r) == veMro) = true from e))
 | .notImplemented :: r,e=>by cases (beq_iff_eq.mp (show ((Value.notImplemented :: r) == veMro) = true from e))
theorem ve_has : ∀ {l : List Value},onlyVE l = true->l.contains (.type "object") = true
 | .ref c :: r,e=>by rw [List.contains_cons,ve_has (l:=r) e,Bool.or_true]
 | [],e=>by cases e
 | .type n :: r,e=>by rw [show (Value.type n :: r) = veMro from beq_iff_eq.mp e];rfl
 | .none :: r,e=>by cases (beq_iff_eq.mp (show ((Value.none :: r) == veMro) = true from e))
 | .bool _ :: r,e=>by cases (beq_iff_eq.mp (show ((Value.bool _ :: r) == veMro) = true from e))
 | .int _ _ :: r,e=>by cases (beq_iff_eq.mp (show ((Value.int _ _ :: r) == veMro) = true from e))
 | .float _ _ :: r,e=>by cases (beq_iff_eq.mp (show ((Value.float _ _ :: r) == veMro) = true from e))
 | .str _ _ :: r,e=>by cases (beq_iff_eq.mp (show ((Value.str _ _ :: r) == veMro) = true from e))
 | .bytes _ _ :: r,e=>by cases (beq_iff_eq.mp (show ((Value.bytes _ _ :: r) == veMro) = true from e))
 | .builtin _ :: r,e=>by cases (beq_iff_eq.mp (show ((Value.builtin _ :: r) == veMro) = true from e))
 | .ellipsis :: r,e=>by cases (beq_iff_eq.mp (show ((Value.ellipsis :: r) == veMro) = true from e))
 | .notImplemented :: r,e=>by cases (beq_iff_eq.mp (show ((Value.notImplemented :: r) == veMro) = true from e))
def attrIn (K : Frag) (C : Addr) (f : Str) : Bool := findIn K (.ref C) "__setattr__" == some (some (.builtin "object.__setattr__")) && findIn K (.ref C) "__getattribute__" == some (some (.builtin "BaseException.__getattribute__")) && findIn K (.ref C) "__getattr__" == some none &&
  findIn K (.ref C) f == some none && (clsIn K C).any (fun cd => onlyVE cd.mro && cd.hasDict) && mroIn K C (.type "BaseException") == some true
section
variable {prog : Program} {w : World} {A : Around} {E : Value->Shared->Prop} {s : Shared} {K : Frag} {e C : Addr} {vs : Array Value} {f : Str} {v : Value}
theorem store_open {dx : Option Addr} {od : Option Obj} {Q : Unit->Shared->Prop} (X : K.In s.heap) (J : InstAt s.heap e (excObj C dx vs) C od) (hk : attrIn K C f = true)
  (h : ∀ (b : Bool) (tk : Tok),wpAny (model prog w) A.in1 (Builtin.ObjectAttr.storeInOwnDict (.ref e) (.ref C) (.str f tk) f v b) (fun fin s'=>fin = .done (.ret .none)/\Q () s') (fun _ _=>False) { s with toks:=s.toks + 1 }) :
  wpAny (model prog w) A (setAttr (.ref e) f v) Q E s:=by
 unfold attrIn at hk
 simp only [Bool.and_eq_true,beq_iff_eq] at hk
 obtain ⟨⟨⟨⟨⟨k1,k2⟩,k3⟩,k4⟩,k5⟩,k6⟩:=hk
 obtain ⟨cd,hc,ho⟩:=any_some k5
 rw [Bool.and_eq_true] at ho
 have SF:=PySem.F.store_ValueError
 have ne : cd.mro.isEmpty = false:=by cases q : cd.mro with | nil=>rw [q] at ho;cases ho.1 | cons _ _=>rfl
 have X1 : K.In ({ s with toks:=s.toks + 1 } : Shared).heap:=X
 have J1 : InstAt ({ s with toks:=s.toks + 1 } : Shared).heap e (excObj C dx vs) C od:=J
 have sub : Looks (model prog w) s.heap (isInstance (.ref e) (.type "object")) true:=J.type.andThen (looks_mroIn X (by unfold mroIn;rw [hc,Option.bind_some,if_neg (by rw [ne];decide),ve_has ho.1]))
 have hm : Looks (model prog w) s.heap (mroOf (.ref C)) cd.mro:=(looks_clsIn X hc).andThen .now
 refine set_plain X J k1 (codeAny_call_builtin SF.slot.plain SF.entry (@check_slot (model prog w) _ _ { s with toks:=s.toks + 1 } "object.__setattr__" "object" "__setattr__" (.ref e) [.str f s.toks,v] [] _ SF.kind SF.split sub (SF.args _ _ _) ?_))
 rw [osa_eq,refuse_eq]
 refine wpAny_bind (wpAny_bind (J1.type.here (wpAny_bind (Looks.here (s:={ s with toks:=s.toks + 1 }) hm ?_))))
 rw [refuse_ve _ ho.1]
 refine wpAny_pure (wpAny_bind (J1.type.here (wpAny_bind ((looks_findIn X1 k4).here (wpAny_bind (Looks.here (s:={ s with toks:=s.toks + 1 }) (r:=none) .now ?_))))))
 refine wpAny_mono (h false s.toks) (fun fin s' z=>?_) (fun _ _ (z : False)=>z.elim)
 obtain ⟨rfl,z⟩:=z
 exact z
theorem store_first {Q : Unit->Shared->Prop} (X : K.In s.heap) (he : s.heap.get? e = some (excObj C none vs)) (hk : attrIn K C f = true)
  (h : ∀ h' tk,h'.get? e = some (excObj C (some s.heap.objs.size) vs)->h'.Ns1 s.heap.objs.size (fun y=>if y = f then some v else none)->(∀ b o,b ≠ e->s.heap.get? b = some o->h'.get? b = some o)->Q () { s with heap:=h',toks:=tk }) :
  wpAny (model prog w) A (setAttr (.ref e) f v) Q E s:=by
 have J : InstAt s.heap e (excObj C none vs) C none:=⟨he,rfl,rfl,trivial⟩
 refine store_open X J hk fun b tk=>?_
 unfold attrIn at hk
 simp only [Bool.and_eq_true,beq_iff_eq] at hk
 obtain ⟨cd,hc,ho⟩:=any_some hk.1.2
 rw [Bool.and_eq_true] at ho
 obtain ⟨hh,g,dr,t,os⟩:=s
 have L:=looks_clsIn (M:=model prog w) X hc
 have hxs : e ≠ hh.objs.size:=Nat.ne_of_lt (Heap.lt_size he)
 have he1 : (hh.push { cls:=.type "dict",data:=.dict #[] }).get? e = some (excObj C none vs):=Heap.get?_push_of_some _ he
 refine wpAny_bind (wpAny_pure (wpAny_bind (wpAny_bind (wpAny_loadPart he (wpAny_bind (L.at ?_))))))
 rw [ho.2]
 refine wpAny_bind (wpAny_alloc' (wpAny_bind (wpAny_update' he1 (wpAny_pure ?_))))
 have gd : ((hh.push { cls:=.type "dict",data:=.dict #[] }).update e fun o=>{ cls:=o.cls,dict:=some hh.objs.size,data:=o.data,slots:=o.slots }).get? hh.objs.size = some { cls:=.type "dict",data:=.dict #[] } :=
  (Heap.get?_update_ne _ _ _ _ hxs.symm).trans (Heap.get?_push_at rfl rfl)
 have ge : ((hh.push { cls:=.type "dict",data:=.dict #[] }).update e fun o=>{ cls:=o.cls,dict:=some hh.objs.size,data:=o.data,slots:=o.slots }).get? e = some (excObj C (some hh.objs.size) vs):=Heap.get?_update_self _ he1 rfl
 have nd : ((hh.push { cls:=.type "dict",data:=.dict #[] }).update e fun o=>{ cls:=o.cls,dict:=some hh.objs.size,data:=o.data,slots:=o.slots }).Ns hh.objs.size (fun _=>none):=⟨_,#[],_,gd,rfl,fun z hz=>absurd hz (by simp),fun _=>rfl⟩
 show wpAny _ _ (Builtin.ObjectAttr.storeInDict hh.objs.size (.str f tk) f v) _ _ _
 refine wpAny_bind (wpAny_pure (wpAny_bind (wpAny_nsSet1 (Heap.Ns1.of_empty nd) fun h' hn sb=>?_)))
 obtain ⟨oD,esD,epD,hoD,hdD,hcD⟩:=hn.count (PySem.Within.cons f v PySem.Within.nil)
 refine wpAny_bind (wpAny_lookBehind hoD (by rw [hdD];exact pastItsLine_dict (Nat.le_trans hcD (by rw [List.length_cons,List.length_nil,sizeLine_eq];omega))) (wpAny_pure ⟨rfl,h h' _ ((sb.2 e hxs).trans ge) hn fun b o hb q=>?_⟩))
 exact (sb.2 b (Nat.ne_of_lt (Heap.lt_size q))).trans ((Heap.get?_update_ne _ _ _ _ hb).trans (Heap.get?_push_of_some _ q))
theorem store_next {d : Addr} {mA : Str->Option Value} {ns : List Str} {Q : Unit->Shared->Prop} (X : K.In s.heap) (he : s.heap.get? e = some (excObj C (some d) vs)) (hn : s.heap.Ns1 d mA) (hw : PySem.Within mA ns) (hs : ns.length <= 1000) (hk : attrIn K C f = true)
  (h : ∀ h' tk,h'.Ns1 d (fun y=>if y = f then some v else mA y)->Heap.SameBut d s.heap h'->Q () { s with heap:=h',toks:=tk }) : wpAny (model prog w) A (setAttr (.ref e) f v) Q E s:=by
 obtain ⟨od,hod,hl⟩:=lookIn_ns hn
 have J : InstAt s.heap e (excObj C (some d) vs) C (some od):=⟨he,rfl,rfl,hod⟩
 refine store_open X J hk fun b tk=>?_
 unfold attrIn at hk
 simp only [Bool.and_eq_true,beq_iff_eq] at hk
 obtain ⟨cd,hc,ho⟩:=any_some hk.1.2
 rw [Bool.and_eq_true] at ho
 obtain ⟨hh,g,dr,t,os⟩:=s
 have L:=looks_clsIn (M:=model prog w) X hc
 refine wpAny_bind (wpAny_pure (wpAny_bind (wpAny_bind (wpAny_loadPart he (wpAny_bind (L.at ?_))))))
 rw [ho.2]
 refine wpAny_pure (a:=some d) ?_
 show wpAny _ _ (Builtin.ObjectAttr.storeInDict d (.str f tk) f v) _ _ _
 refine wpAny_bind (wpAny_pure (wpAny_bind (wpAny_nsSet1 (s:=⟨hh,g,dr,t + 1,os⟩) hn fun h' hn' sb=>?_)))
 obtain ⟨oD,esD,epD,hoD,hdD,hcD⟩:=hn'.count (PySem.Within.cons f v hw)
 exact wpAny_bind (wpAny_lookBehind hoD (by rw [hdD];exact pastItsLine_dict (Nat.le_trans hcD (by rw [List.length_cons,sizeLine_eq];omega))) (wpAny_pure ⟨rfl,h h' _ hn' sb⟩))
theorem load_exc {d : Addr} {mA : Str → Option Value} {expr : Bool} {Q : Value → Shared → Prop} (X : K.In s.heap) (he : s.heap.get? e = some (excObj C (some d) vs)) (hn : s.heap.Ns1 d mA) (hk : attrIn K C f = true) (hv : mA f = some v) (hh' : handedIn v = true)
    (hq : Q v { s with toks := s.toks + 1 }) : wpAny (model prog w) A (getAttr (.ref e) f expr) Q E s := by
  obtain ⟨od, hod, hl⟩ := lookIn_ns hn
  have J : InstAt s.heap e (excObj C (some d) vs) C (some od) := ⟨he, rfl, rfl, hod⟩
  unfold attrIn at hk
  simp only [Bool.and_eq_true, beq_iff_eq] at hk
  obtain ⟨⟨⟨⟨⟨k1, k2⟩, k3⟩, k4⟩, k5⟩, k6⟩ := hk
  obtain ⟨cd, hc, ho⟩ := any_some k5
  rw [Bool.and_eq_true] at ho
  have hfo : findObj K C (some od) f = some (.value v) := findObj_own (by unfold hasDictIn; rw [hc]; exact ho.2) k4 rfl (by rw [hl, hv])
  obtain ⟨hh, g, dr, t, os⟩ := s
  have T := J.type (M := model prog w)
  have L1 := looks_findIn (M := model prog w) X k2
  have L2 := looks_findIn (M := model prog w) X k3
  have L3 := looks_find (M := model prog w) X J hfo
  have FB := PySem.F.attr_ValueError
  have f3 := FB.ga.bind (.ref e)
  have hx0 : (expr && onTheHeap (Value.builtin "BaseException.__getattribute__")) = false := by cases expr <;> rfl
  unfold getAttr getAttrBy
  refine wpAny_bind (wpAny_mkText (wpAny_holding (wpAny_bind (T.at (wpAny_bind (L1.at ?_))))))
  show wpAny _ _ (getAttrByItsOwn (.ref e) (.str f t) (.ref C) (.builtin "BaseException.__getattribute__") true expr) _ _ _
  unfold getAttrByItsOwn hookBefore; unfold callGetattribute boundAndCalled
  refine wpAny_bind (L2.at (wpAny_bind (wpAny_attempt (wpAny_holding ?_))))
  rw [hx0]
  show wpAny _ _ (bindSpecial (.builtin "BaseException.__getattribute__") (.ref e) >>= _) _ _ _
  refine wpAny_bind (wpAny_of_eq f3 ?_)
  refine wpAny_mono (Q := fun u s' => u = v ∧ s' = ⟨hh, g, dr, t + 1, os⟩) (E := fun _ _ => False) (wpAny_call (codeAny_call_builtin FB.ga.plain PySem.F.entry_bexc_ga (@check_slot (model prog w) _ _ ⟨hh, g, dr, t + 1, os⟩ "BaseException.__getattribute__" "BaseException" "__getattribute__" (.ref e) [.str f t] [] _ (by decide +kernel) (by decide +kernel)
    (T.andThen (looks_mroIn X k6)) (PySem.F.args_bexc_ga _ _) ?_))) (fun u s' hu => ?_) fun _ _ z => z.elim
  · unfold Builtin.«object.__getattribute__»
    repeat (first | (with_reducible refine Looks.at T ?_) | (with_reducible refine Looks.at L3 ?_) | wp_step)
    all_goals exact ⟨rfl, rfl⟩
  · obtain ⟨rfl, rfl⟩ := hu
    show wpAny _ _ (handedOut u) _ _ _
    rw [handedOut_of hh']
    exact wpAny_pure hq
end
def tXFld (K : Frag) (ta : TE) (f : Str) : TE:=fun σ H Q=>ta σ H fun x H1=>∃ e C d fs v,x = .ref e/\H1 e = some (excO e C (some d))/\H1 d = some (.xd fs)/\attrIn K C f = true/\fs.lookup f = some v/\Q v H1
def sXFld (K : Frag) (ta tv : TE) (f : Str) : TS := fun D σ H => tv σ H fun y H1 => ta σ H1 fun x H2 => ∃ e C, x = .ref e ∧ attrIn K C f = true ∧
  ((H2 e = some (excN e C none) ∧ ∀ d, H2 d = none → D.nx σ (upd (upd H2 d (.xd [(f, y)])) e (excN e C (some d)))) ∨
   ∃ d fs, H2 e = some (excN e C (some d)) ∧ H2 d = some (.xd fs) ∧ fs.length < 1000 ∧ D.nx σ (upd H2 d (.xd (putF f y fs))))
section
variable {X : Cx} {o value : Expr} {f : Str} {pos pos' : Pos} {ta tv : TE}
theorem pe_xfld (he : PE X o ta) (hb : attributeBase o f X.env (eval o X.env) = eval o X.env:=by rfl) : PE X (.Attribute o f pos) (tXFld X.K ta f):=by
 intro pins s σ H Q I h
 refine attr_of hb (thn (he pins s σ H _ I h) fun u s1 ⟨x,H1,I1,rx,e,C,d,fs,v,ex,e1,e2,k,l,q⟩=>?_)
 subst ex
 obtain rfl : u = Value.ref e:=rx
 obtain ⟨vs,oe⟩:=I1.hok.exc e1
 obtain ⟨mA,hn,r⟩:=I1.hok d _ e2
 obtain ⟨y,hy,ry⟩ : ∃ y,mA f = some y/\RelV v y:=by
  have:=r f
  rw [l] at this
  cases z : mA f with
  | none=>rw [z] at this;exact this.elim
  | some y=>rw [z] at this;exact ⟨y,rfl,this⟩
 exact load_exc I1.kIn oe hn k hy (handed_of ry) ⟨v,H1,I1.tok _,ry,q⟩
theorem Inv.firstX {pins : List (Addr × Obj)} {σ : St} {H : Hp} {s : Shared} {h' : Heap} {t' : Nat} {e C : Addr} {vs : Array Value} {fs : List (Str × V)} {mA : Str->Option Value} (I : Inv X pins σ H s) (he : H e = some (excN e C none)) (q : h'.get? e = some (excObj C (some s.heap.objs.size) vs)) (q1 : (vs[1]? : Option Value) = some .none)
  (hn : h'.Ns1 s.heap.objs.size mA) (r : ∀ f,RelO (fs.lookup f) (mA f)) (k : ∀ b o,b ≠ e->s.heap.get? b = some o->h'.get? b = some o) :
  Inv X pins σ (upd (upd H s.heap.objs.size (.xd fs)) e (excN e C (some s.heap.objs.size))) { s with heap:=h',toks:=t' }:=by
 obtain ⟨_,oe,_⟩:=I.hok.exn he
 have ne : s.heap.objs.size ≠ e:=Nat.ne_of_gt (Heap.lt_size oe)
 have nd : ∀ {b o},s.heap.get? b = some o->b ≠ s.heap.objs.size:=fun z=>Nat.ne_of_lt (Heap.lt_size z)
 have fr : H s.heap.objs.size = none:=I.hok.fresh (Nat.le_refl _)
 have kH : ∀ b u,H b = some u->b ≠ e->upd (upd H s.heap.objs.size (.xd fs)) e (excN e C (some s.heap.objs.size)) b = some u:=fun b u z n=>by
  rw [upd_ne n,upd_ne (fun y=>by rw [y,fr] at z;cases z)];exact z
 have tn : ∀ b u,H b = some u->u ≠ excN e C none->b ≠ e:=fun b u z n y=>by rw [y,he] at z;exact n (Option.some.inj z).symm
 refine I.un ⟨fun b o z n _ _=>k b o (fun y=>by rw [y,he] at n;cases n) z,fun b o z n _ _=>⟨o.slots,k b o (fun y=>by rw [y,he] at n;cases n) z⟩,fun b o z n _=>?_,fun b o z _=>?_,fun b xs z=>kH b _ z (tn b _ z fun y=>by cases y),fun b o u z=>kH b _ z (tn b _ z fun y=>by cases y),fun b ps z=>⟨#[],by rw [kH b _ z (tn b _ z fun y=>by cases y)];simp⟩⟩ fun b u z=>?_
 ·rw [upd_ne (fun y=>by rw [y,he] at n;cases n),upd_ne (nd z)];exact n
 ·by_cases hb : b = e
  ·exact ⟨_,hb ▸ q⟩
  ·exact ⟨o,k b o hb z⟩
 ·by_cases hb : b = e
  ·subst hb
   rw [upd_same] at z
   cases z
   exact excN.ok q q1
  ·rw [upd_ne hb] at z
   by_cases hd : b = s.heap.objs.size
   ·subst hd
    rw [upd_same] at z
    cases z
    exact ⟨mA,hn,r⟩
   ·rw [upd_ne hd] at z
    refine (I.hok b u z).stay (fun c v hc y=>k c v (fun x=>?_) y) (fun c y=>kH c _ y (tn c _ y fun x=>by cases x)) (fun c xs y=>kH c _ y (tn c _ y fun x=>by cases x))
    subst x
    rcases hc with x | x
    ·exact hb x.symm
    ·rw [he] at x;cases x
theorem Inv.nextX {pins : List (Addr × Obj)} {σ : St} {H : Hp} {s : Shared} {h' : Heap} {t' : Nat} {d : Addr} {fs fs' : List (Str × V)} {mA : Str->Option Value} (I : Inv X pins σ H s) (he : H d = some (.xd fs)) (sb : Heap.SameBut d s.heap h') (hn : h'.Ns1 d mA) (r : ∀ f,RelO (fs'.lookup f) (mA f)) :
  Inv X pins σ (upd H d (.xd fs')) { s with heap:=h',toks:=t' }:=by
 have k : ∀ b o,b ≠ d->s.heap.get? b = some o->h'.get? b = some o:=fun b o n z=>(sb.2 b n).trans z
 have tn : ∀ b u,H b = some u->u ≠ .xd fs->b ≠ d:=fun b u z n y=>by rw [y,he] at z;exact n (Option.some.inj z).symm
 have kH : ∀ b u,H b = some u->b ≠ d->upd H d (.xd fs') b = some u:=fun b u z n=>by rw [upd_ne n];exact z
 refine I.un ⟨fun b o z n _ _=>k b o (fun y=>by rw [y,he] at n;cases n) z,fun b o z n _ _=>⟨o.slots,k b o (fun y=>by rw [y,he] at n;cases n) z⟩,fun b o z n _=>by rw [upd_ne (fun y=>by rw [y,he] at n;cases n)];exact n,fun b o z _=>?_,fun b xs z=>kH b _ z (tn b _ z fun y=>by cases y),fun b o u z=>kH b _ z (tn b _ z fun y=>by cases y),fun b ps z=>⟨#[],by rw [kH b _ z (tn b _ z fun y=>by cases y)];simp⟩⟩ fun b u z=>?_
 ·by_cases hb : b = d
  ·obtain ⟨o,_,_,z,_⟩:=hn
   exact ⟨_,hb ▸ z⟩
  ·exact ⟨o,k b o hb z⟩
 ·by_cases hb : b = d
  ·subst hb
   rw [upd_same] at z
   cases z
   exact ⟨mA,hn,r⟩
  ·rw [upd_ne hb] at z
   refine (I.hok b u z).stay (fun c v hc y=>k c v (fun x=>?_) y) (fun c y=>kH c _ y (tn c _ y fun x=>by cases x)) (fun c xs y=>kH c _ y (tn c _ y fun x=>by cases x))
   subst x
   rcases hc with x | x
   ·exact hb x.symm
   ·rw [he] at x;cases x
theorem ps_xfld (ha : PE X o ta) (hv : PE X value tv) (hs : swapsWith value (some (.Attribute o f pos')) pos.line X.env = pure false:=by rfl) : PS X (.Assign [.Attribute o f pos'] value pos) (sXFld X.K ta tv f):=by
 intro pins s σ H D I h
 refine plainObj_wpAny_Assign_Attribute (thn (hv pins s σ H _ I h) fun u s1 ⟨y,H1,I1,ry,q⟩=>thn (ha pins s1 σ H1 _ I1 q) fun ov s2 ⟨x,H2,I2,rx,e,C,ex,k,q2⟩=>?_) hs
 subst ex
 obtain rfl : ov = Value.ref e:=rx
 rcases q2 with ⟨e1,q2⟩ | ⟨d,fs,e1,e2,hl,q2⟩
 ·obtain ⟨vs,oe,f1⟩:=I2.hok.exn e1
  refine store_first I2.kIn oe k fun h' tk z1 z2 z3=>⟨σ,_,I2.firstX e1 z1 f1 z2 (fun g=>?_) z3,q2 _ (I2.hok.fresh (Nat.le_refl _))⟩
  show RelO (List.lookup g [(f,y)]) (if g = f then some u else none)
  rw [List.lookup_cons]
  by_cases hg : g = f
  ·rw [if_pos hg,show (g == f) = true by simp [hg]];exact ry
  ·rw [if_neg hg,show (g == f) = false by simp [hg]];trivial
 ·obtain ⟨vs,oe,f1⟩:=I2.hok.exn e1
  obtain ⟨mA,hn,r⟩:=I2.hok d _ e2
  refine store_next (ns:=fs.map (·.1)) I2.kIn oe hn (fun g hg=>?_) (by rw [List.length_map];exact Nat.le_of_lt hl) k fun h' tk z1 z2=>⟨σ,_,I2.nextX e2 z2 z1 (fun g=>?_),q2⟩
  ·have:=r g
   cases z : fs.lookup g with
   | none=>rw [z] at this;cases z' : mA g with | none=>exact absurd z' hg | some _=>rw [z'] at this;exact this.elim
   | some v=>exact List.mem_map.mpr ⟨(g,v),PySem.mem_of_lookup z,rfl⟩
  ·rw [lookup_putF]
   by_cases hg : g = f
   ·rw [if_pos hg,if_pos hg];exact ry
   ·rw [if_neg hg,if_neg hg];exact r g
end
end L2
end

section
set_option Elab.async false
set_option linter.all false
set_option maxRecDepth 100000
namespace L2
open PySem PySem.Spec PyProof.Rows PySem.W
def kindIn (K : Frag) (C : Addr) : Bool := findIn K (.ref C) "__getattribute__" == some (some (.builtin "BaseException.__getattribute__")) && findIn K (.ref C) "__getattr__" == some none && findIn K (.ref C) "__class__" == some (some (.builtin "object.__class__")) &&
  specialIn K (.builtin "object.__class__") "__get__" == some (some (.builtin "getset_descriptor.__get__")) && takesIn K (.builtin "object.__class__") == some true && mroIn K C (.type "object") == some true && mroIn K C (.type "BaseException") == some true && (clsIn K C).isSome
section
variable {K : Frag} {e C d : Addr}
theorem kitx_exc (hk : kindIn K C = true) : KitX K (.ref e) (.ref C) (fun h => ∃ vs od, InstAt h e (excObj C (some d) vs) C (some od)) := by
  unfold kindIn at hk
  simp only [Bool.and_eq_true, beq_iff_eq] at hk
  obtain ⟨⟨⟨⟨⟨⟨⟨k1, k2⟩, k3⟩, k4⟩, k5⟩, k6⟩, k7⟩, k8⟩ := hk
  obtain ⟨cd, hc⟩ := Option.isSome_iff_exists.mp k8
  have cls : ∀ {h : Heap}, K.In h → ∃ oD, h.get? C = some oD ∧ oD.data = .cls cd := fun {h} X => by
    unfold clsIn at hc
    split at hc
    · rename_i ho
      cases hc
      exact ⟨_, X _ _ ho, rfl⟩
    · cases hc
  refine ⟨fun _ _ _ ⟨_, _, I⟩ => I.type, fun M h X _ => ?_, fun h tp dd its n sl X htp => ?_, ?_⟩
  · obtain ⟨oD, h1, h2⟩ := cls X
    intro A' Q' E' s' k q
    unfold isType loadHead
    refine wpAny_bind (wpAny_loadPart (k _ _ h1) ?_)
    rw [h2]
    exact wpAny_pure q
  · obtain ⟨oD, h1, h2⟩ := cls X
    refine Bool.eq_false_iff.mpr fun q => ?_
    have z : C = tp := Value.ref.inj (beq_iff_eq.mp q)
    rw [z, htp] at h1
    cases h1
    cases h2
  · intro prog w A E Q s X ⟨vs, od, I⟩ hq
    obtain ⟨hh, g, dr, t, os⟩ := s
    have hf : findObj K C (some od) "__class__" = some (.bind (.builtin "getset_descriptor.__get__") (.builtin "object.__class__")) := findObj_data k8 k3 k4 k5
    have T := I.type (M := model prog w)
    have L1 := looks_findIn (M := model prog w) X k1
    have L2 := looks_findIn (M := model prog w) X k2
    have L3 := looks_find (M := model prog w) X I hf
    have FB := PySem.F.attr_ValueError
    have f3 := FB.ga.bind (.ref e)
    unfold getAttr? getAttrBy?; unfold getAttrBy
    refine wpAny_bind (wpAny_mkText (wpAny_bind (wpAny_attempt (wpAny_holding (wpAny_bind (T.at (wpAny_bind (L1.at ?_))))))))
    show wpAny _ _ (getAttrByItsOwn (.ref e) (.str "__class__" t) (.ref C) (.builtin "BaseException.__getattribute__") false false) _ _ _
    unfold getAttrByItsOwn hookBefore; unfold callGetattribute boundAndCalled
    refine wpAny_bind (L2.at (wpAny_bind (wpAny_attempt (wpAny_holding ?_))))
    show wpAny _ _ (bindSpecial (.builtin "BaseException.__getattribute__") (.ref e) >>= _) _ _ _
    refine wpAny_bind (wpAny_of_eq f3 ?_)
    refine wpAny_mono (Q := fun u s' => u = .ref C ∧ s' = ⟨hh, g, dr, t + 1, os⟩) (E := fun _ _ => False) (wpAny_call (codeAny_call_builtin FB.ga.plain PySem.F.entry_bexc_ga (@check_slot (model prog w) _ _ ⟨hh, g, dr, t + 1, os⟩ "BaseException.__getattribute__" "BaseException" "__getattribute__" (.ref e) [.str "__class__" t] [] _ (by decide +kernel) (by decide +kernel)
      (T.andThen (looks_mroIn X k7)) (PySem.F.args_bexc_ga _ _) ?_))) (fun u s' hu => ?_) fun _ _ z => z.elim
    · unfold Builtin.«object.__getattribute__»
      repeat (first | (with_reducible refine Looks.at T ?_) | (with_reducible refine Looks.at L3 ?_) | wp_step)
      refine class_get (s := ⟨hh, g, dr, t + 1, os⟩) X I k6 ?_
      repeat (first | exact ⟨rfl, rfl⟩ | wp_step)
    · obtain ⟨rfl, rfl⟩ := hu
      exact wpAny_pure (wpAny_pure hq)
end
def cV : V->Option Value
 | .ref a=>some (.ref a)
 | .ty n=>some (.type n)
 | _=>none
def rIsiX (K : Frag) : List V->Hp->VK->Prop:=fun vs H Q=>∃ e C d fs c cv b,vs = [.ref e,c]/\H e = some (excO e C (some d))/\H d = some (.xd fs)/\kindIn K C = true/\cV c = some cv/\kitOne K (.ref C) cv = some b/\Q (.bl b) H
theorem call_isix {X : Cx} : CallR X (.builtin "isinstance") (rIsiX X.K):=by
 intro pins s σ H xs us Q I r h
 obtain ⟨e,C,d,fs,c,cv,b,rfl,h1,h2,k,hc,hb,q⟩:=h
 obtain ⟨u1,u2,rfl,r1,r2⟩:=r.two
 obtain rfl : u1 = Value.ref e:=r1
 obtain rfl : u2 = cv:=by
  cases c with
  | ref a=>cases hc;exact r2
  | ty n=>cases hc;exact r2
  | _=>cases hc
 obtain ⟨vs,oe⟩:=I.hok.exc h1
 obtain ⟨mA,hn,_⟩:=I.hok d _ h2
 obtain ⟨od,hod,_⟩:=lookIn_ns hn
 exact kia_one (kitx_exc (d:=d) k) I.kIn ⟨vs,od,oe,rfl,rfl,hod⟩ hb (fun z=>nomatch z) fun tk=>⟨.bl b,H,I.tok tk,rfl,q⟩
end L2
end

section
set_option Elab.async false
set_option linter.all false
set_option maxRecDepth 100000
namespace L2
open PySem PySem.Spec PyProof.Rows PySem.W
theorem PS.nox {X : Cx} {st : Stmt} {t : TS} (h : PS X.nox st t) : PS X st t:=fun pins s σ H D I hw =>
 wpAny_mono (h pins s σ H D (I.wish _) hw) (fun _ _ q=>q.unwish) fun _ _ z=>False.elim z
theorem boot_tVE : bootBuiltins ("ValueError" : Str) = some (.type "ValueError"):=by decide +kernel
def inCls (st : Stmt) (j : Nat) : Stmt:=match st with
 | .ClassDef _ _ _ body _ _ _ _ _ _ _=>body.getD j (.Pass ⟨0,0,0,0⟩)
 | _=>.Pass ⟨0,0,0,0⟩
structure IniIn (P : Program) (K : Frag) (mg : Str->Option Value) (qual : Str) (st : Stmt) (C f cc cda : Addr) (fd : FuncData) : Prop where
 fn : ∃ (oc : Value) (od : Option Addr) (kV doc pm : Value) (an : Option Addr) (ct : Value) (osl : Array (Option Value)),fd = ksFn "__init__" qual (defArgs st) (defBody st) (defScope st) .none kV doc pm an (.ref cda) ct cc/\K.lookup f = some ⟨oc,od,.func fd,osl⟩
 code : PySem.W.codeIn K (.ref cda) qual = true
 file : ∃ (ccl : Value) (cdd : Option Addr) (vs : Array Value) (ccs : Array (Option Value)) (x : Str) (tf : Tok),K.lookup cda = some ⟨ccl,cdd,.fields vs,ccs⟩/\(vs[2]? : Option Value) = some (.str x tf)/\((P.main.file : Str) == x) = true
 cell : ∃ (cl : Value) (cld : Option Addr) (csl : Array (Option Value)),K.lookup cc = some ⟨cl,cld,.cell (some (.ref C)),csl⟩
 sup : mg "super" = none
 top : (P.main.scope.names.lookup ("super" : Str)).isSome = false
 all : excAll K C = true
theorem excO_inj {e C C' : Addr} {d d' : Option Addr} (h : excO e C d = excO e C' d') : C = C'/\d = d':=by
 have h1 : (fun h : Heap=>∃ vs,h.get? e = some (excObj C d vs)) = (fun h : Heap=>∃ vs,h.get? e = some (excObj C' d' vs)):=HO.ext.inj h
 have get : ({ objs:=Array.replicate (e + 1) (excObj C d #[]) } : Heap).get? e = some (excObj C d #[]):=by
  unfold Heap.get?
  rw [show ({ objs:=Array.replicate (e + 1) (excObj C d #[]) } : Heap).objs[e]? = some (excObj C d #[]) by simp]
  rfl
 have h2 : ∃ vs,({ objs:=Array.replicate (e + 1) (excObj C d #[]) } : Heap).get? e = some (excObj C' d' vs):=by
  have h3:=congrFun h1 ({ objs:=Array.replicate (e + 1) (excObj C d #[]) } : Heap)
  exact h3 ▸ ⟨#[],get⟩
 obtain ⟨vs,z⟩:=h2
 rw [get] at z
 have z':=Option.some.inj z
 injection z' with a b
 injection a with a
 exact ⟨a,b⟩
end L2
end

section
set_option Elab.async false
set_option linter.all false
set_option maxRecDepth 100000
namespace L2
open PySem PySem.Spec PyProof.Rows PySem.W
section
variable {X : Cx}
end
theorem putE {ex : List Addr} {H H2 : Hp} {p : Addr} {o : HO} (e : Ext ex H H2) (h : H p = none) : Ext ex H (upd H2 p o):=by
 refine ⟨fun b u hb q n=>?_,fun b ps hb q=>?_⟩
 ·rw [upd_ne (ne_of_none q h)]
  exact e.old b u hb q n
 ·rw [upd_ne (ne_of_none q h)]
  exact e.tab b ps hb q
theorem Ext.fresh {H H2 : Hp} {p : Addr} (e : Ext [] H H2) (h : H2 p = none) : H p = none:=by
 cases z : H p with
 | none=>rfl
 | some o =>
  by_cases zt : ∃ ps,o = .tbl ps
  ·obtain ⟨ps,rfl⟩:=zt
   obtain ⟨ps',z',_⟩:=e.tab p ps (by simp) z
   rw [h] at z'
   cases z'
  ·have:=e.old p o (by simp) z fun ps z2=>zt ⟨ps,z2⟩
   rw [h] at this
   cases this
end L2
end

section
set_option Elab.async false
set_option linter.all false
set_option maxRecDepth 100000
namespace L2
open PySem PySem.Spec PyProof.Rows
structure Kd where
 nm : Str
 way : List Int
 bds : List Int
structure Cd where
 nm : Str
 kd : Str
 pl : Int
 bk : Bool
structure Wt where
 cd : Str
 ln : Int
 ot : Str
structure Pl where
 ls : List (Str × Int)
 ks : List Kd
structure Sd where
 bs : List Int
 cs : List Cd
 ws : List Wt
def Kd.d (k : Kd) : PyData:=.tuple [.str k.nm,.tuple (k.way.map .int),.tuple (k.bds.map .int)]
def Cd.d (c : Cd) : PyData:=.tuple [.str c.nm,.str c.kd,.int c.pl,.bool c.bk]
def Wt.d (w : Wt) : PyData:=.tuple [.str w.cd,.int w.ln,.str w.ot]
def lnD (l : Str × Int) : PyData:=.tuple [.str l.1,.int l.2]
def Pl.d (p : Pl) : PyData:=.tuple [.tuple (p.ls.map lnD),.tuple (p.ks.map Kd.d)]
def Sd.d (s : Sd) : PyData:=.tuple [.tuple (s.bs.map .int),.tuple (s.cs.map Cd.d),.tuple (s.ws.map Wt.d)]
def Pl.n (p : Pl) : Int:=p.ls.length
def Pl.kd? (p : Pl) (x : Str) : Option Kd:=p.ks.find? fun k=>k.nm == x
def Sd.cd? (s : Sd) (x : Str) : Option Cd:=s.cs.find? fun c=>c.nm == x
def Pl.at (p : Pl) (k : Str) (j : Int) : Int:=if j = 0 then -1 else match p.kd? k with
 | some kd=>if (kd.way.length : Int) < j then p.n else kd.way.getD (j - 1).toNat 0
 | none=>0
def Pl.lane (p : Pl) (c : Cd) : Int:=p.at c.kd c.pl
def Sd.inL (s : Sd) (p : Pl) (l : Int) : List Str:=(s.cs.filter fun c=>p.lane c == l).map (·.nm)
def Sd.many (s : Sd) (p : Pl) (l : Int) (k : Str) : Nat:=(s.cs.filter fun c=>c.kd == k && p.at k c.pl == l).length
structure POk (p : Pl) : Prop where
 nl : p.ls.length <= 900
 nk : p.ks.length <= 900
 ln : ∀ l ∈ p.ls,l.1.length <= 1000
 kw : ∀ k ∈ p.ks,k.way.length <= 900/\k.bds.length = k.way.length/\k.nm.length <= 1000/\∀ i ∈ k.way,0 <= i/\i < p.n
def COk (p : Pl) (c : Cd) : Prop:=c.nm.length <= 1000/\∃ k,p.kd? c.kd = some k/\0 <= c.pl/\c.pl <= k.way.length + 1
structure SOk (p : Pl) (s : Sd) : Prop where
 nb : s.bs.length = p.ls.length
 nc : s.cs.length <= 900
 c : ∀ c ∈ s.cs,COk p c
 nw : s.ws.length <= 900
 w : ∀ w ∈ s.ws,(s.cd? w.cd).isSome = true/\(s.cd? w.ot).isSome = true/\w.cd.length <= 1000/\w.ot.length <= 1000
theorem find_at {α : Type} {p : α->Bool} : ∀ (ls : List α) (i : Nat) (a : α),(∀ j b,j < i->ls[j]? = some b->p b = false)->ls[i]? = some a->p a = true->ls.find? p = some a
 | [],_,_,_,hd,_=>by simp at hd
 | b :: ls,0,a,_,hd,hp=>by
  have : b = a:=by simpa using hd
  rw [List.find?_cons,this,hp]
 | b :: ls,i + 1,a,h,hd,hp=>by
  rw [List.find?_cons,h 0 b (by omega) rfl]
  exact find_at ls i a (fun j d hj hd=>h (j + 1) d (by omega) (by simpa using hd)) (by simpa using hd) hp
theorem find_no {α : Type} {p : α->Bool} : ∀ (ls : List α) (i : Nat),(∀ j b,j < i->ls[j]? = some b->p b = false)->ls.length <= i->ls.find? p = none
 | [],_,_,_=>rfl
 | b :: ls,i,h,hl=>by
  rw [List.find?_cons,h 0 b (by simp at hl;omega) rfl]
  exact find_no ls (i - 1) (fun j d hj hd=>h (j + 1) d (by omega) (by simpa using hd)) (by simp at hl;omega)
section
variable {H : Hp} {v : V} {ex : List Addr}
theorem Kd.view {k : Kd} (h : IsD ex H k.d v) : ∃ a wa ba,v = .ref a/\H a = some (.tup [.str k.nm,.ref wa,.ref ba])/\H wa = some (.tup (k.way.map V.int))/\H ba = some (.tup (k.bds.map V.int)):=by
 obtain ⟨a,us,rfl,_,ha,v1,r1,rfl,h1,v2,r2,rfl,h2,v3,r3,rfl,h3,rfl⟩:=h
 obtain rfl : v1 = .str k.nm:=h1
 obtain ⟨wa,ws,rfl,_,hw,hws⟩:=h2
 obtain ⟨ba,bs,rfl,_,hb,hbs⟩:=h3
 obtain rfl:=IsDs.ints_of hws
 obtain rfl:=IsDs.ints_of hbs
 exact ⟨a,wa,ba,rfl,ha,hw,hb⟩
theorem Cd.view {c : Cd} (h : IsD ex H c.d v) : ∃ a,v = .ref a/\H a = some (.tup [.str c.nm,.str c.kd,.int c.pl,.bl c.bk]):=by
 obtain ⟨a,us,rfl,_,ha,v1,r1,rfl,h1,v2,r2,rfl,h2,v3,r3,rfl,h3,v4,r4,rfl,h4,rfl⟩:=h
 obtain rfl : v1 = .str c.nm:=h1
 obtain rfl : v2 = .str c.kd:=h2
 obtain rfl : v3 = .int c.pl:=h3
 obtain rfl : v4 = .bl c.bk:=h4
 exact ⟨a,rfl,ha⟩
theorem Wt.view {w : Wt} (h : IsD ex H w.d v) : ∃ a,v = .ref a/\H a = some (.tup [.str w.cd,.int w.ln,.str w.ot]):=by
 obtain ⟨a,us,rfl,_,ha,v1,r1,rfl,h1,v2,r2,rfl,h2,v3,r3,rfl,h3,rfl⟩:=h
 obtain rfl : v1 = .str w.cd:=h1
 obtain rfl : v2 = .int w.ln:=h2
 obtain rfl : v3 = .str w.ot:=h3
 exact ⟨a,rfl,ha⟩
theorem ln_view {l : Str × Int} (h : IsD ex H (lnD l) v) : ∃ a,v = .ref a/\H a = some (.tup [.str l.1,.int l.2]):=by
 obtain ⟨a,us,rfl,_,ha,v1,r1,rfl,h1,v2,r2,rfl,h2,rfl⟩:=h
 obtain rfl : v1 = .str l.1:=h1
 obtain rfl : v2 = .int l.2:=h2
 exact ⟨a,rfl,ha⟩
theorem Pl.view {p : Pl} (h : IsD ex H p.d v) : ∃ a la ka lv kv,v = .ref a/\H a = some (.tup [.ref la,.ref ka])/\H la = some (.tup lv)/\IsDs ex H (p.ls.map lnD) lv/\H ka = some (.tup kv)/\IsDs ex H (p.ks.map Kd.d) kv/\lv.length = p.ls.length/\kv.length = p.ks.length:=by
 obtain ⟨a,us,rfl,_,ha,v1,r1,rfl,h1,v2,r2,rfl,h2,rfl⟩:=h
 obtain ⟨la,lv,rfl,_,hl,hlv⟩:=h1
 obtain ⟨ka,kv,rfl,_,hk,hkv⟩:=h2
 have e1:=hlv.length
 have e2:=hkv.length
 rw [List.length_map] at e1 e2
 exact ⟨a,la,ka,lv,kv,rfl,ha,hl,hlv,hk,hkv,e1,e2⟩
theorem Sd.view {s : Sd} (h : IsD ex H s.d v) : ∃ a ba ca wa cv wv,v = .ref a/\H a = some (.tup [.ref ba,.ref ca,.ref wa])/\H ba = some (.tup (s.bs.map V.int))/\H ca = some (.tup cv)/\IsDs ex H (s.cs.map Cd.d) cv/\H wa = some (.tup wv)/\IsDs ex H (s.ws.map Wt.d) wv/\cv.length = s.cs.length/\wv.length = s.ws.length:=by
 obtain ⟨a,us,rfl,_,ha,v1,r1,rfl,h1,v2,r2,rfl,h2,v3,r3,rfl,h3,rfl⟩:=h
 obtain ⟨ba,bv,rfl,_,hb,hbv⟩:=h1
 obtain ⟨ca,cv,rfl,_,hc,hcv⟩:=h2
 obtain ⟨wa,wv,rfl,_,hw,hwv⟩:=h3
 obtain rfl:=IsDs.ints_of hbv
 have e1:=hcv.length
 have e2:=hwv.length
 rw [List.length_map] at e1 e2
 exact ⟨a,ba,ca,wa,cv,wv,rfl,ha,hb,hc,hcv,hw,hwv,e1,e2⟩
theorem IsDs.nth {α : Type} {f : α->PyData} {xs : List α} {vs : List V} {i : Nat} {y : V} (h : IsDs ex H (xs.map f) vs) (hy : vs[i]? = some y) : ∃ x,xs[i]? = some x/\IsD ex H (f x) y:=by
 have hl:=h.length
 rw [List.length_map] at hl
 have hi : i < xs.length:=by have:=(List.getElem?_eq_some_iff.mp hy).1;omega
 obtain ⟨y',hy',hd⟩:=h.get (i:=i) (d:=f xs[i]) (by rw [List.getElem?_map,List.getElem?_eq_getElem hi];rfl)
 rw [hy] at hy'
 cases hy'
 exact ⟨xs[i],List.getElem?_eq_getElem hi,hd⟩
theorem IsDs.nth' {α : Type} {f : α->PyData} {xs : List α} {vs : List V} {i : Nat} {x : α} (h : IsDs ex H (xs.map f) vs) (hx : xs[i]? = some x) : ∃ y,vs[i]? = some y/\IsD ex H (f x) y :=
 h.get (by rw [List.getElem?_map,hx];rfl)
end
theorem kd_in {p : Pl} {x : Str} {k : Kd} (h : p.kd? x = some k) : k ∈ p.ks/\k.nm = x:=by
 have h1:=List.find?_some h
 exact ⟨List.mem_of_find?_eq_some h,by simpa using h1⟩
theorem cd_in {s : Sd} {x : Str} {c : Cd} (h : s.cd? x = some c) : c ∈ s.cs/\c.nm = x:=by
 have h1:=List.find?_some h
 exact ⟨List.mem_of_find?_eq_some h,by simpa using h1⟩
theorem at_zero (p : Pl) (k : Str) : p.at k 0 = -1:=by unfold Pl.at;rw [if_pos rfl]
theorem at_out {p : Pl} {x : Str} {k : Kd} {j : Int} (h : p.kd? x = some k) (hj : (k.way.length : Int) < j) : p.at x j = p.n:=by
 unfold Pl.at
 rw [if_neg (by omega),h]
 show (if (k.way.length : Int) < j then p.n else _) = _
 rw [if_pos hj]
theorem at_way {p : Pl} {x : Str} {k : Kd} {j : Int} (h : p.kd? x = some k) (h1 : 1 <= j) (h2 : j <= k.way.length) : ∃ w,k.way[(j - 1).toNat]? = some w/\p.at x j = w:=by
 have hi : (j - 1).toNat < k.way.length:=by omega
 refine ⟨k.way[(j - 1).toNat],List.getElem?_eq_getElem hi,?_⟩
 unfold Pl.at
 rw [if_neg (by omega),h]
 show (if (k.way.length : Int) < j then p.n else _) = _
 rw [if_neg (by omega),List.getD_eq_getElem?_getD,List.getElem?_eq_getElem hi]
 rfl
def XFs (C : Addr) (fs : List (Str × V)) (H : Hp) (E : XK) : Prop := ∀ e d H',Ext [] H H'->H' e = some (excO e C (some d))->H' d = some (.xd fs)->E (.ref e) (some d) H'
theorem XFs.up {C : Addr} {fs : List (Str × V)} {H H' : Hp} {E : XK} (h : XFs C fs H E) (e : Ext [] H H') : XFs C fs H' E:=fun ex d H2 e2=>h ex d H2 (e.trans e2)
theorem XFs.on {C : Addr} {fs : List (Str × V)} {H : Hp} {E : XK} (h : XFs C fs H E) : XFs C fs H (fun v d H'=>∀ e C',v = .ref e->H' e = some (excO e C' d)->E (.ref e) d H'):=fun ex d H2 e2 h1 h2 e' C' z h3=>by
 cases z
 exact h ex d H2 e2 h1 h2
end L2
end

section
set_option Elab.async false
set_option linter.all false
set_option maxRecDepth 100000
namespace L2
open PySem PySem.Spec PyProof.Rows PySem.SeqAt
theorem tuple_indexAt (l : Addr) (items : Array Value) (n : Nat) (dd : Option Addr) (sl : Array (Option Value)) (x : Value) (e : Value->Bool) (j : Nat) (hj : j < items.size) (hit : e items[j] = true) (hno : ∀ m (hm : m < items.size),m < j->e items[m] = false) :
  Meets (Builtin.«tuple.index» ⟨[.ref l,x],[]⟩)
   (fun A R s=>s.heap.get? l = some { cls:=.type "tuple",dict:=dd,data:=.seq items n,slots:=sl }/\(∀ y,y ∈ items->EqAt A.in1 s y x (e y))/\R (.ok (.ret (.int (j : Nat) s.toks))) { s with toks:=s.toks + 1 }) :=
 .of_wp fun prog w A R s h=>by
  obtain ⟨hp,g,d,tk,os⟩:=s;obtain ⟨hl,he,h⟩:=h
  unfold Builtin.«tuple.index»
  simp only [Std.Legacy.Range.forIn_eq_forIn_range',Std.Legacy.Range.size]
  wp_walk using AutoSeq1.wpAny_loadPart' hl,wpAny_forIn_list _ (fun rest (b : Option PySem.Fin × Unit) s'=>∃ i,i <= j/\b.1 = none/\rest = List.range' i (items.size - i)/\s' = ⟨hp,g,d,tk,os⟩) _
  case turn =>
   rintro x1 rest b s' ⟨i,hi,hb,hr,rfl⟩
   rw [show items.size - i = (items.size - (i + 1)) + 1 by omega,List.range'_succ] at hr
   injection hr with h1 h2
   subst h1 h2
   have hx : x1 < items.size:=by omega
   rw [Array.getElem?_eq_getElem hx]
   refine wpAny_bind (he _ (Array.getElem_mem hx) prog w _ _ ?_)
   by_cases hij : x1 = j
   ·subst hij
    rw [hit]
    wp_walk
    exact ⟨_,rfl,h⟩
   ·rw [hno x1 hx (by omega)]
    wp_walk
    exact ⟨x1 + 1,by omega,rfl,rfl,rfl⟩
  case fin =>
   rintro b s' ⟨i,hi,hb,hr,rfl⟩
   have:=congrArg List.length hr
   rw [List.length_nil,List.length_range'] at this
   omega
  case h=>exact ⟨0,Nat.zero_le _,rfl,by simp,rfl⟩
theorem vals_at {xs : List V} {us : List Value} (r : Vals xs us) {j : Nat} (h : j < us.length) : ∃ x,xs[j]? = some x/\RelV x us[j]:=by
 have hl:=r.length
 have hj : j < xs.length:=by omega
 obtain ⟨u,hu,ru⟩:=r.get (List.getElem?_eq_getElem hj)
 rw [List.getElem?_eq_getElem h] at hu
 exact ⟨xs[j],List.getElem?_eq_getElem hj,Option.some.inj hu ▸ ru⟩
theorem eqU_at {xs : List V} {us : List Value} {y x : V} (r : Vals xs us) (f : xs.all flatV = true) {j : Nat} (h : j < us.length) (hx : xs[j]? = some x) : eqU y us[j] = eqV x y:=by
 obtain ⟨x',hx',rx⟩:=vals_at r h
 rw [hx] at hx'
 cases hx'
 exact eqU_of rx (List.all_eq_true.mp f x (List.mem_of_getElem? hx))
def firstV (y : V) (xs : List V) (j : Nat) : Prop:=(∃ x,xs[j]? = some x/\eqV x y = true)/\∀ m x,m < j->xs[m]? = some x->eqV x y = false
def rIdxV (K : PySem.W.Frag) (tup : Bool) : V->List V->Hp->VK->Prop:=fun x vs H Q=>∃ (a : Addr) (xs : List V) (y : V) (j : Nat),x = .ref a/\vs = [y]/\(if tup = true then SqT K H a xs else SqL K H a xs)/\flatV y = true/\xs.all flatV = true/\firstV y xs j/\Q (.int (j : Nat)) H
section
variable {X : Cx}
theorem mt_indexV : MtR X "list.index" (rIdxV X.K false):=by
 intro pins s σ H x vs v us Q I rx rv h
 obtain ⟨a,ys,z,j,rfl,rfl,hq,fz,fs,⟨⟨x,hx,ex⟩,hb⟩,q⟩:=h
 cases rx
 obtain ⟨u,rfl,ru⟩:=rv.one
 obtain ⟨its,r,pl,hl⟩:=I.list (show SqL X.K H a ys from hq)
 obtain ⟨⟨cls,dd,data,sl⟩,ho,hc,n,hd⟩:=pl.isList
 simp only at hc hd
 subst hc hd
 have hlen:=r.length
 have hj : j < its.length:=by have:=(List.getElem?_eq_some_iff.mp hx).1;omega
 have l63:=line63
 refine call_meets PySem.F.slot_list_index ⟨_,ho,rfl⟩ PySem.F.entry_list_index (PySem.F.args_list_index_2 _ _) (SeqAt.list_indexAt a its.toArray n dd sl u (eqU z) j (by rw [List.size_toArray];omega) (by omega) ?_ ?_) ⟨ho,fun y hy=>mem_eqAt ru fz r fs y (by simpa using hy),⟨.int _,H,I.tok _,⟨_,rfl⟩,q⟩⟩
 ·show eqU z its[j] = true
  rw [eqU_at r fs hj hx]
  exact ex
 ·intro m hm hlt
  have hm' : m < its.length:=by simpa using hm
  show eqU z its[m] = false
  obtain ⟨x',hx',_⟩:=vals_at r hm'
  rw [eqU_at r fs hm' hx']
  exact hb m x' hlt hx'
theorem mt_indexT : MtR X "tuple.index" (rIdxV X.K true):=by
 intro pins s σ H x vs v us Q I rx rv h
 obtain ⟨a,ys,z,j,rfl,rfl,hq,fz,fs,⟨⟨x,hx,ex⟩,hb⟩,q⟩:=h
 cases rx
 obtain ⟨u,rfl,ru⟩:=rv.one
 obtain ⟨its,r,pl,hl⟩:=I.tuple (show SqT X.K H a ys from hq)
 obtain ⟨⟨cls,dd,data,sl⟩,ho,hc,n,hd⟩:=pl
 simp only at hc hd
 subst hc hd
 have hlen:=r.length
 have hj : j < its.length:=by have:=(List.getElem?_eq_some_iff.mp hx).1;omega
 refine call_meets PySem.F.slot_tuple_index ⟨_,ho,rfl⟩ PySem.F.entry_tuple_index (PySem.F.args_tuple_index_2 _ _) (tuple_indexAt a its.toArray n dd sl u (eqU z) j (by rw [List.size_toArray];omega) ?_ ?_) ⟨ho,fun y hy=>mem_eqAt ru fz r fs y (by simpa using hy),⟨.int _,H,I.tok _,⟨_,rfl⟩,q⟩⟩
 ·show eqU z its[j] = true
  rw [eqU_at r fs hj hx]
  exact ex
 ·intro m hm hlt
  have hm' : m < its.length:=by simpa using hm
  show eqU z its[m] = false
  obtain ⟨x',hx',_⟩:=vals_at r hm'
  rw [eqU_at r fs hm' hx']
  exact hb m x' hlt hx'
theorem count_eqU {y : V} : ∀ {xs : List V} {us : List Value},Vals xs us->xs.all flatV = true->us.countP (eqU y) = xs.countP fun x=>eqV x y
 | _,_,.nil,_=>rfl
 | x :: xs,u :: us,.cons r t,f=>by
  rw [List.all_cons,Bool.and_eq_true] at f
  rw [List.countP_cons,List.countP_cons,eqU_of r f.1,count_eqU t f.2]
def rCountV (K : PySem.W.Frag) : V->List V->Hp->VK->Prop:=fun x vs H Q=>∃ (a : Addr) (xs : List V) (y : V),x = .ref a/\vs = [y]/\SqL K H a xs/\flatV y = true/\xs.all flatV = true/\Q (.int ((xs.countP fun x=>eqV x y : Nat))) H
theorem mt_countV : MtR X "list.count" (rCountV X.K):=by
 intro pins s σ H x vs v us Q I rx rv h
 obtain ⟨a,ys,z,rfl,rfl,hq,fz,fs,q⟩:=h
 cases rx
 obtain ⟨u,rfl,ru⟩:=rv.one
 obtain ⟨its,r,pl,hl⟩:=I.list hq
 obtain ⟨⟨cls,dd,data,sl⟩,ho,hc,n,hd⟩:=pl.isList
 simp only at hc hd
 subst hc hd
 refine call_meets PySem.F.slot_list_count ⟨_,ho,rfl⟩ PySem.F.entry_list_count (PySem.F.args_list_count_2 _ _) (SeqAt.list_countAt a its.toArray n dd sl u (eqU z)) ⟨ho,fun y hy=>mem_eqAt ru fz r fs y (by simpa using hy),⟨.int _,H,I.tok _,⟨_,rfl⟩,?_⟩⟩
 have e : (its.toArray.toList.countP (eqU z)) = ys.countP fun x=>eqV x z:=count_eqU r fs
 rw [e]
 exact q
end
end L2
namespace L2
open PySem PySem.Spec PyProof.Rows
section
variable {X : Cx}
def tBMT (r : V->List V->Hp->VK->Prop) (to : TE) (t : TA) : TE:=fun σ H Q=>to σ H fun x H1=>(∃ p xs,x = .ref p/\H1 p = some (.tup xs))/\t σ H1 fun xs H2=>r x xs H2 Q
variable {o e : Expr} {es : List Expr} {to : TE} {t : TA} {name : Str} {apos cpos : Pos} {id : String} {r : V->List V->Hp->VK->Prop}
theorem pe_bmT (pa : PlainAttrs "tuple") (slot : Slot "tuple" name id) (hty : typeOf (.builtin id) = pure (.type "method_descriptor")) (hm : MtR X id r) (ho : PE X o to) (ha : PA X (e :: es) t)
  (hbase : attributeBase o name X.env (eval o X.env) = eval o X.env:=by rfl)
  (hfew : ((backTo cpos (starEach (e :: es) X.env)).all (fun x=>!x.1) && (backToKw cpos (keywordEach [] X.env)).all (fun x=>x.1.isSome)
   && decide ((e :: es).length + ([] : List Keyword).length + (if ([] : List Keyword).isEmpty then 0 else 1) < 30)) = true:=by rfl)
  (hline : (apos.endLine == cpos.line) = true:=by rfl) (hs : starEach (e :: es) X.env = (false,eval e X.env) :: starEach es X.env:=by rfl) (hplain : (backTo cpos (starEach es X.env)).any (·.1) = false:=by rfl) :
  PE X (.Call (.Attribute o name apos) (e :: es) [] cpos) (tBMT r to t):=by
 intro pins s σ H Q I h
 refine wpAny_Call_method_late hbase hfew hline rfl (thn (ho pins s σ H _ I h) fun v s1 ⟨x,H1,I1,r1,⟨p,xs,ex,hp⟩,q1⟩=>?_)
 subst ex
 cases r1
 obtain ⟨_,its,_,⟨o1,z1,z2,_⟩,o2,z3,z4⟩:=I1.hok p _ hp
 refine ⟨"tuple",id,pa,slot,hty,⟨_,z1,z2⟩,(fun a e=>by cases e;exact ⟨_,z3,z4⟩),?_⟩
 have hA:=ha cpos pins s1 σ H1 _ I1 q1
 rw [hs] at hA ⊢
 refine Calls.callWith_builtin (by show (false || (backTo cpos (starEach es X.env)).any (·.1)) = false;rw [hplain] <;> rfl) (Calls.evalArgs_plain ?_)
 exact thn hA fun us s2 ⟨vs,H2,I2,r2,q2⟩=>hm pins s2 σ H2 (.ref p) vs (.ref p) us Q I2 rfl r2 q2
end
end L2
end

section
set_option Elab.async false
set_option linter.all false
set_option maxRecDepth 100000
set_option maxHeartbeats 1000000
namespace L2
open PySem PySem.Spec PyProof.Rows
abbrev az : Str := "abcdefghijklmnopqrstuvwxyz"
def inL (x : Str) : Bool := !(Builtin.Str.occurrences az x 0 az.length 1).isEmpty
def sgn (x : Str) : List Str:=x.cps.toList.map fun c=>⟨#[c]⟩
def nm (x : Str) : Bool:=if ("out" : Str) == x || ("yard" : Str) == x then false else decide ((1 : Int) <= (x.length : Int)) && (decide ((x.length : Int) <= 8) && (sgn x).all inL)
def spTake : Sp:=fun vs H Q _=>∃ (z : Zn) (m : Int),vs = [.ref z.p,.int m]/\Cz z H/\0 < m/\m < 1073741824/\∀ (i : Int) (H' : Hp),0 <= i->i < m->Stp z H H'->Q (.int i) H'
def spDigits (K : PySem.W.Frag) : Sp:=fun vs H Q _=>∃ (a : Addr) (ns : List Int) (k : Int),vs = [.ref a,.int k]/\SqL K H a (ns.map V.int)/\ns.length <= 63/\0 <= k/\k <= 1000/\∀ (p : Addr) (n : Int),H p = none->Q (.ref p) (upd H p (.lst [.int n]))
def spWordsN : Sp:=fun vs H Q _=>∃ (z : Zn) (m : Int),vs = [.ref z.p,.int m]/\0 <= m/\m <= 52/\Cz z H/\∀ (ns : List Str) (v : V) (H' : Hp),(ns.length : Int) = m->ns.Nodup->(∀ x ∈ ns,nm x = true)->Stp z H H'->IsD z.ex H' (.list (ns.map .str)) v->Q v H'
theorem line {n : Nat} (h : n <= 1000) : n <= sizeLine:=Nat.le_trans h size1000
theorem atI_in {α : Type} {xs : List α} {i : Int} (h0 : 0 <= i) (h1 : i < (xs.length : Int)) : ∃ v,atI xs i = some v/\v ∈ xs:=by
 have hk : i.toNat < xs.length:=by omega
 exact ⟨xs[i.toNat],atI_pos h0 (List.getElem?_eq_getElem hk),List.getElem_mem hk⟩
def azl : List Nat:=List.range' 97 26
theorem az_tx : ("abcdefghijklmnopqrstuvwxyz" : Str) = tx azl:=by decide +kernel
theorem am_in : ∀ c ∈ (("abcdefghijklm" : Str)).cps.toList,97 <= c/\c <= 109:=by decide +kernel
theorem az_in : ∀ c ∈ azl,97 <= c/\c <= 122:=by decide +kernel
theorem az_turned : ∀ k,k < 26->(azl.drop k ++ azl.take k).Nodup:=by decide +kernel
theorem inL_az : ∀ c ∈ azl,inL (tx [c]) = true:=by decide +kernel
theorem mem_az {c : Nat} (h : 97 <= c/\c <= 122) : c ∈ azl:=by
 unfold azl
 rw [List.mem_range']
 exact ⟨c - 97,by omega,by omega⟩
theorem sgn_tx (l : List Nat) : sgn (tx l) = l.map fun c=>tx [c]:=by
 unfold sgn tx
 simp
theorem sgV_tx (l : List Nat) : sgV (tx l) = l.map fun c=>V.str (tx [c]):=by
 unfold sgV tx
 simp
theorem out_tx : ("out" : Str) = tx [111,117,116]:=by decide +kernel
theorem yard_tx : ("yard" : Str) = tx [121,97,114,100]:=by decide +kernel
theorem name_ok {A B : List Nat} {c : Nat} (hl : A.length + B.length <= 7) (ha : ∀ x ∈ A,97 <= x/\x <= 109) (hb : ∀ x ∈ B,97 <= x/\x <= 109) (hc : 97 <= c/\c <= 122) : nm (tx (A ++ c :: B)) = true:=by
 unfold nm
 have n1 : ¬ tx [111,117,116] = tx (A ++ c :: B):=fun h=>by
  have h:=tx_inj h
  match A,ha,h with
  | [],_,h =>
   injection h with _ h
   have:=hb 117 (by rw [<- h];simp)
   omega
  | a :: _,ha,h =>
   injection h with h _
   have:=ha a (by simp)
   omega
 have n2 : ¬ tx [121,97,114,100] = tx (A ++ c :: B):=fun h=>by
  have h:=tx_inj h
  match A,ha,h with
  | [],_,h =>
   injection h with _ h
   have:=hb 114 (by rw [<- h];simp)
   omega
  | a :: _,ha,h =>
   injection h with h _
   have:=ha a (by simp)
   omega
 rw [out_tx,yard_tx,if_neg (by simp [n1,n2])]
 have e : (tx (A ++ c :: B)).length = A.length + (B.length + 1):=by rw [tx_len,List.length_append,List.length_cons]
 rw [e,decide_eq_true (by omega),decide_eq_true (by omega),Bool.true_and,Bool.true_and,sgn_tx,List.all_eq_true]
 intro s hs
 obtain ⟨x,hx,rfl⟩:=List.mem_map.mp hs
 refine inL_az x (mem_az ?_)
 rcases List.mem_append.mp hx with h | h
 ·have:=ha x h;omega
 ·rcases List.mem_cons.mp h with rfl | h
  ·exact hc
  ·have:=hb x h;omega
def namesOf (A B S : List Nat) : List Str:=S.map fun c=>tx (A ++ c :: B)
theorem names_nodup {A B S : List Nat} (h : S.Nodup) : (namesOf A B S).Nodup:=by
 unfold namesOf List.Nodup
 rw [List.pairwise_map]
 refine List.Pairwise.imp (fun {a b} hne e=>hne ?_) h
 have e2:=List.append_cancel_left (tx_inj e)
 injection e2
theorem tx_z : ("z" : Str) = tx [122]:=by decide +kernel
theorem name_okz {A B : List Nat} {c : Nat} (hl : A.length + B.length <= 6) (ha : ∀ x ∈ A,97 <= x/\x <= 109) (hb : ∀ x ∈ B,97 <= x/\x <= 109) (hc : 97 <= c/\c <= 122) : nm (tx (A ++ c :: B) ++ ("z" : Str)) = true:=by
 rw [tx_z,tx_append]
 unfold nm
 have last : ∀ l : List Nat,l.getLast? ≠ some 122->¬ tx l = tx (A ++ c :: B ++ [122]):=fun l h z=>h (by rw [tx_inj z,List.getLast?_append];rfl)
 rw [out_tx,yard_tx,if_neg (by rw [Bool.or_eq_true,beq_iff_eq,beq_iff_eq];exact not_or.mpr ⟨last [111,117,116] (by decide),last [121,97,114,100] (by decide)⟩)]
 have e : (tx (A ++ c :: B ++ [122])).length = A.length + (B.length + 2):=by rw [tx_len,List.length_append,List.length_append,List.length_cons,List.length_singleton];omega
 rw [e,decide_eq_true (by omega),decide_eq_true (by omega),Bool.true_and,Bool.true_and,sgn_tx,List.all_eq_true]
 intro s hs
 obtain ⟨x,hx,rfl⟩:=List.mem_map.mp hs
 refine inL_az x (mem_az ?_)
 rcases List.mem_append.mp hx with h | h
 ·rcases List.mem_append.mp h with h | h
  ·have:=ha x h;omega
  ·rcases List.mem_cons.mp h with rfl | h
   ·exact hc
   ·have:=hb x h;omega
 ·have:=List.mem_singleton.mp h;omega
theorem nm_len {x : Str} (h : nm x = true) : 1 <= x.length/\x.length <= 8:=by
 unfold nm at h
 split at h
 ·cases h
 ·rw [Bool.and_eq_true,Bool.and_eq_true,decide_eq_true_eq,decide_eq_true_eq] at h
  omega
theorem namesz_nodup {A B S : List Nat} (h : S.Nodup) : (namesOf A B S ++ (namesOf A B S).map fun x=>x ++ ("z" : Str)).Nodup:=by
 have n1:=names_nodup (A:=A) (B:=B) h
 rw [List.nodup_append]
 refine ⟨n1,?_,fun a ha b hb=>?_⟩
 ·unfold List.Nodup
  rw [List.pairwise_map]
  unfold namesOf
  rw [List.pairwise_map]
  refine List.Pairwise.imp (fun {a b} hne e=>hne ?_) h
  rw [tx_z,tx_append,tx_append] at e
  have e2:=List.append_cancel_left (List.append_cancel_right (tx_inj e))
  injection e2
 ·obtain ⟨x,hx,rfl⟩:=List.mem_map.mp hb
  obtain ⟨u,_,rfl⟩:=List.mem_map.mp ha
  obtain ⟨w,_,rfl⟩:=List.mem_map.mp hx
  rw [tx_z,tx_append]
  intro e
  have:=congrArg List.length (tx_inj e)
  simp at this
theorem xe_never {X : Cx} : XeOk X (fun _ _ _ _ _=>False):=⟨fun _ _ _ _ _ _ _ _ _ h=>h.elim,fun _ _ _ _ _ _ _ _ _ _ h=>h.elim⟩
end L2
end

section
set_option Elab.async false
set_option linter.all false
set_option maxRecDepth 100000
namespace L2
open PySem PySem.Spec PyProof.Rows PySem.W
def Says (u : V) : Prop := ∃ x,fmtV u = some x/\x.length <= 1000
theorem says_str {x : Str} (h : x.length <= 1000) : Says (.str x):=⟨x,if_pos h,h⟩
def spIniN (C : Addr) (fs : List Str) : Sp:=fun vs H Q _=>∃ (e : Addr) (us : List V),vs = .ref e :: us/\us.length = fs.length/\(∀ u ∈ us,Says u)/\H e = some (excN e C none)/\∀ d,H d = none->Q .non (upd (upd H d (.xd (fs.zip us))) e (excN e C (some d)))
theorem fits {a b : Str} {n m : Nat} (ha : a.length <= n) (hb : b.length <= m) : (a ++ b).length <= n + m:=by rw [strLen_append];omega
theorem upd_upd_ne {H : Hp} {d e : Addr} {a b c : HO} (h : d ≠ e) : upd (upd (upd H d a) e b) d c = upd (upd H d c) e b:=by
 funext x
 by_cases h1 : x = d
 ·subst h1
  rw [upd_same,upd_ne h,upd_same]
 ·rw [upd_ne h1]
  by_cases h2 : x = e
  ·subst h2
   rw [upd_same,upd_same]
  ·rw [upd_ne h2,upd_ne h2,upd_ne h1,upd_ne h1]
theorem raise_go {K : Frag} {S : SK} {σ : St} {C : Addr} {fs : List Str} {us : List V} {H2 : Hp} (hl : us.length = fs.length) (h3 : us.length <= 1000) (hf : ∀ u ∈ us,Says u) (hrs : raisesIn K C = true)
  (hS : ∀ ex d H',Ext [] H2 H'->H' ex = some (excO ex C (some d))->H' d = some (.xd (fs.zip us))->S σ ex C (some d) H') :
  us.length <= 1000/\∀ ex,H2 ex = none->spIniN C fs (.ref ex :: us) (upd H2 ex (excN ex C none)) (fun v H3=>v = .non/\∃ e' C' d',(.ref ex : V) = .ref e'/\H3 e' = some (excN e' C' d')/\raisesIn K C' = true/\S σ e' C' d' (upd H3 e' (excO e' C' d'))) E0:=by
 refine ⟨h3,fun ex hex=>⟨ex,us,rfl,hl,hf,upd_same,fun d hd=>⟨rfl,ex,C,some d,rfl,upd_same,hrs,?_⟩⟩⟩
 have hne : d ≠ ex:=fun z=>by rw [z,upd_same] at hd;cases hd
 have hd2 : H2 d = none:=by rw [upd_ne hne] at hd;exact hd
 rw [upd_upd]
 have hu : upd (upd (upd H2 ex (excN ex C none)) d (.xd (fs.zip us))) ex (excO ex C (some d)) = upd (upd H2 d (.xd (fs.zip us))) ex (excO ex C (some d)):=by
  funext c
  by_cases h1 : c = ex
  ·rw [h1,upd_same,upd_same]
  ·rw [upd_ne h1,upd_ne h1]
   by_cases h2 : c = d
   ·rw [h2,upd_same,upd_same]
   ·rw [upd_ne h2,upd_ne h2,upd_ne h1]
 rw [hu]
 exact hS ex d _ ((Ext.new hd2 _).trans (Ext.new (by rw [upd_ne (Ne.symm hne)];exact hex) _)) upd_same (by rw [upd_ne hne,upd_same])
theorem raise_x {K : Frag} {E : XK} {C : Addr} (fs : List Str) (us : List V) {H H2 : Hp} (q : XFs C (fs.zip us) H E) (e : Ext [] H H2) (hf : ∀ u ∈ us,Says u) (hrs : raisesIn K C = true) (hl : us.length = fs.length:=by rfl) (hfs : fs.length <= 1000:=by decide) :
  us.length <= 1000/\∀ ex,H2 ex = none->spIniN C fs (.ref ex :: us) (upd H2 ex (excN ex C none)) (fun v H3=>v = .non/\∃ e' C' d',(.ref ex : V) = .ref e'/\H3 e' = some (excN e' C' d')/\raisesIn K C' = true/\E (.ref e') d' (upd H3 e' (excO e' C' d'))) E0 :=
 raise_go (σ:=[]) (S:=fun _ e _ d H=>E (.ref e) d H) hl (hl ▸ hfs) hf hrs fun ex d H' e' h1 h2=>q ex d H' (e.trans e') h1 h2
theorem says1 {a : V} (ha : Says a) : ∀ u ∈ [a],Says u:=fun u hu=>by rw [List.mem_singleton.mp hu];exact ha
theorem says2 {a b : V} (ha : Says a) (hb : Says b) : ∀ u ∈ [a,b],Says u:=fun u hu=>by
 rcases List.mem_cons.mp hu with rfl | hu
 ·exact ha
 ·exact says1 hb u hu
theorem says3 {a b c : V} (ha : Says a) (hb : Says b) (hc : Says c) : ∀ u ∈ [a,b,c],Says u:=fun u hu=>by
 rcases List.mem_cons.mp hu with rfl | hu
 ·exact ha
 ·exact says2 hb hc u hu
end L2
end

section
set_option Elab.async false
set_option linter.all false
set_option maxRecDepth 100000
set_option maxHeartbeats 1000000
namespace K12
open PySem PySem.Spec L2 PyProof.Rows PySem.W
def top (i : Nat) : Stmt:=PySem.Challenge.pw_cardlanes_k12_refusals_apart.main.body.getD i (.Pass ⟨0,0,0,0⟩)
abbrev s_NoCard : Stmt:=inCls (top 2) 0
theorem ok_ini_NoCard {P : Program} {w : World} {K : PySem.W.Frag} {mg : Str->Option Value} {base : Heap} {C f cc cda : Addr} {fd : FuncData} (F : IniIn P K mg "NoCard.__init__" s_NoCard C f cc cda fd) (ha1 : attrIn K C "card" = true) : FnOk P w K mg base CX0 2 f fd ["self","card"] (spIniN C ["card"]):=by
 obtain ⟨oc,od,kV,doc,pm,an,ct,osl,rfl,lk⟩:=F.fn
 obtain ⟨ccl,cdd,vs,ccs,x,tf,lcode,hvs,hfile⟩:=F.file
 obtain ⟨cl,cld,csl,lc⟩:=F.cell
 refine init_of lk F.code lc ⟨rfl,rfl,rfl,by decide +kernel,by decide +kernel,by decide +kernel,by decide +kernel⟩ (fun vs H Q E ⟨e,us,h,hl,_⟩=>by rw [h,List.length_cons,hl];rfl) fun A outer s s1 H vs Q E hr h I=>?_
 obtain ⟨e,us,rfl,hl,hu,he,q⟩:=h
 match us,hl,hu,q,I with
 | [v1],hl,hu,q,I =>
 obtain ⟨y1,h1,l1⟩:=hu v1 (by simp)
 refine PySem.ks_wpAt_execs_cons (PySem.ks_wpAt_mono (super_stmt (D:={ nx:=fun σ' H'=>σ' = [some (.ref e),some v1]/\H' = H,rt:=fun _ _=>False }) lk rfl rfl lcode hvs hfile lc F.sup F.top rfl rfl rfl F.all (pa_c (pe_join (pj_cons pe_str (pj_cons (pe_fmt (pv 1)) pj_nil))) pa_nil) I rfl he ?q rfl rfl rfl) (fun fl s2 hs=>?_) (fun _ _ (z : False)=>z.elim))
 case q=>exact ⟨_,rfl,Nat.le_trans (fits (show Str.empty.length <= 0 by decide +kernel) (show _ <= 100 by decide +kernel)) (by decide),v1,rfl,y1,h1,_,rfl,Nat.le_trans (fits (fits (show Str.empty.length <= 0 by decide +kernel) (show _ <= 100 by decide +kernel)) l1) (by decide),Nat.le_trans (fits (fits (show Str.empty.length <= 0 by decide +kernel) (show _ <= 100 by decide +kernel)) l1) (by decide),rfl,he,rfl,rfl⟩
 cases fl with
 | ret u=>obtain ⟨_,_,_,_,_,z⟩:=hs;exact z.elim
 | brk=>obtain ⟨_,_,_,z⟩:=hs;exact z.elim
 | cont=>obtain ⟨_,_,_,z⟩:=hs;exact z.elim
 | next =>
  obtain ⟨σ2,H2,I2,rfl,rfl⟩:=hs
  refine PySem.wpAt_of_wpAny (thn ((pss_one (ps_xfld (pv 0) (pv 1))) [] s2 _ _ _ I2 ?_) fun _ _ z=>z)
  exact ⟨v1,rfl,_,rfl,e,C,rfl,ha1,.inl ⟨he,fun d hd=>q d hd⟩⟩
abbrev s_NoKind : Stmt:=inCls (top 3) 0
theorem ok_ini_NoKind {P : Program} {w : World} {K : PySem.W.Frag} {mg : Str->Option Value} {base : Heap} {C f cc cda : Addr} {fd : FuncData} (F : IniIn P K mg "NoKind.__init__" s_NoKind C f cc cda fd) (ha1 : attrIn K C "kind" = true) : FnOk P w K mg base CX0 2 f fd ["self","kind"] (spIniN C ["kind"]):=by
 obtain ⟨oc,od,kV,doc,pm,an,ct,osl,rfl,lk⟩:=F.fn
 obtain ⟨ccl,cdd,vs,ccs,x,tf,lcode,hvs,hfile⟩:=F.file
 obtain ⟨cl,cld,csl,lc⟩:=F.cell
 refine init_of lk F.code lc ⟨rfl,rfl,rfl,by decide +kernel,by decide +kernel,by decide +kernel,by decide +kernel⟩ (fun vs H Q E ⟨e,us,h,hl,_⟩=>by rw [h,List.length_cons,hl];rfl) fun A outer s s1 H vs Q E hr h I=>?_
 obtain ⟨e,us,rfl,hl,hu,he,q⟩:=h
 match us,hl,hu,q,I with
 | [v1],hl,hu,q,I =>
 obtain ⟨y1,h1,l1⟩:=hu v1 (by simp)
 refine PySem.ks_wpAt_execs_cons (PySem.ks_wpAt_mono (super_stmt (D:={ nx:=fun σ' H'=>σ' = [some (.ref e),some v1]/\H' = H,rt:=fun _ _=>False }) lk rfl rfl lcode hvs hfile lc F.sup F.top rfl rfl rfl F.all (pa_c (pe_join (pj_cons pe_str (pj_cons (pe_fmt (pv 1)) pj_nil))) pa_nil) I rfl he ?q rfl rfl rfl) (fun fl s2 hs=>?_) (fun _ _ (z : False)=>z.elim))
 case q=>exact ⟨_,rfl,Nat.le_trans (fits (show Str.empty.length <= 0 by decide +kernel) (show _ <= 100 by decide +kernel)) (by decide),v1,rfl,y1,h1,_,rfl,Nat.le_trans (fits (fits (show Str.empty.length <= 0 by decide +kernel) (show _ <= 100 by decide +kernel)) l1) (by decide),Nat.le_trans (fits (fits (show Str.empty.length <= 0 by decide +kernel) (show _ <= 100 by decide +kernel)) l1) (by decide),rfl,he,rfl,rfl⟩
 cases fl with
 | ret u=>obtain ⟨_,_,_,_,_,z⟩:=hs;exact z.elim
 | brk=>obtain ⟨_,_,_,z⟩:=hs;exact z.elim
 | cont=>obtain ⟨_,_,_,z⟩:=hs;exact z.elim
 | next =>
  obtain ⟨σ2,H2,I2,rfl,rfl⟩:=hs
  refine PySem.wpAt_of_wpAny (thn ((pss_one (ps_xfld (pv 0) (pv 1))) [] s2 _ _ _ I2 ?_) fun _ _ z=>z)
  exact ⟨v1,rfl,_,rfl,e,C,rfl,ha1,.inl ⟨he,fun d hd=>q d hd⟩⟩
abbrev s_NoLane : Stmt:=inCls (top 4) 0
theorem ok_ini_NoLane {P : Program} {w : World} {K : PySem.W.Frag} {mg : Str->Option Value} {base : Heap} {C f cc cda : Addr} {fd : FuncData} (F : IniIn P K mg "NoLane.__init__" s_NoLane C f cc cda fd) (ha1 : attrIn K C "lane" = true) : FnOk P w K mg base CX0 2 f fd ["self","lane"] (spIniN C ["lane"]):=by
 obtain ⟨oc,od,kV,doc,pm,an,ct,osl,rfl,lk⟩:=F.fn
 obtain ⟨ccl,cdd,vs,ccs,x,tf,lcode,hvs,hfile⟩:=F.file
 obtain ⟨cl,cld,csl,lc⟩:=F.cell
 refine init_of lk F.code lc ⟨rfl,rfl,rfl,by decide +kernel,by decide +kernel,by decide +kernel,by decide +kernel⟩ (fun vs H Q E ⟨e,us,h,hl,_⟩=>by rw [h,List.length_cons,hl];rfl) fun A outer s s1 H vs Q E hr h I=>?_
 obtain ⟨e,us,rfl,hl,hu,he,q⟩:=h
 match us,hl,hu,q,I with
 | [v1],hl,hu,q,I =>
 obtain ⟨y1,h1,l1⟩:=hu v1 (by simp)
 refine PySem.ks_wpAt_execs_cons (PySem.ks_wpAt_mono (super_stmt (D:={ nx:=fun σ' H'=>σ' = [some (.ref e),some v1]/\H' = H,rt:=fun _ _=>False }) lk rfl rfl lcode hvs hfile lc F.sup F.top rfl rfl rfl F.all (pa_c (pe_join (pj_cons pe_str (pj_cons (pe_fmt (pv 1)) pj_nil))) pa_nil) I rfl he ?q rfl rfl rfl) (fun fl s2 hs=>?_) (fun _ _ (z : False)=>z.elim))
 case q=>exact ⟨_,rfl,Nat.le_trans (fits (show Str.empty.length <= 0 by decide +kernel) (show _ <= 100 by decide +kernel)) (by decide),v1,rfl,y1,h1,_,rfl,Nat.le_trans (fits (fits (show Str.empty.length <= 0 by decide +kernel) (show _ <= 100 by decide +kernel)) l1) (by decide),Nat.le_trans (fits (fits (show Str.empty.length <= 0 by decide +kernel) (show _ <= 100 by decide +kernel)) l1) (by decide),rfl,he,rfl,rfl⟩
 cases fl with
 | ret u=>obtain ⟨_,_,_,_,_,z⟩:=hs;exact z.elim
 | brk=>obtain ⟨_,_,_,z⟩:=hs;exact z.elim
 | cont=>obtain ⟨_,_,_,z⟩:=hs;exact z.elim
 | next =>
  obtain ⟨σ2,H2,I2,rfl,rfl⟩:=hs
  refine PySem.wpAt_of_wpAny (thn ((pss_one (ps_xfld (pv 0) (pv 1))) [] s2 _ _ _ I2 ?_) fun _ _ z=>z)
  exact ⟨v1,rfl,_,rfl,e,C,rfl,ha1,.inl ⟨he,fun d hd=>q d hd⟩⟩
abbrev s_NoWait : Stmt:=inCls (top 5) 0
theorem ok_ini_NoWait {P : Program} {w : World} {K : PySem.W.Frag} {mg : Str->Option Value} {base : Heap} {C f cc cda : Addr} {fd : FuncData} (F : IniIn P K mg "NoWait.__init__" s_NoWait C f cc cda fd) (ha1 : attrIn K C "card" = true) : FnOk P w K mg base CX0 2 f fd ["self","card"] (spIniN C ["card"]):=by
 obtain ⟨oc,od,kV,doc,pm,an,ct,osl,rfl,lk⟩:=F.fn
 obtain ⟨ccl,cdd,vs,ccs,x,tf,lcode,hvs,hfile⟩:=F.file
 obtain ⟨cl,cld,csl,lc⟩:=F.cell
 refine init_of lk F.code lc ⟨rfl,rfl,rfl,by decide +kernel,by decide +kernel,by decide +kernel,by decide +kernel⟩ (fun vs H Q E ⟨e,us,h,hl,_⟩=>by rw [h,List.length_cons,hl];rfl) fun A outer s s1 H vs Q E hr h I=>?_
 obtain ⟨e,us,rfl,hl,hu,he,q⟩:=h
 match us,hl,hu,q,I with
 | [v1],hl,hu,q,I =>
 obtain ⟨y1,h1,l1⟩:=hu v1 (by simp)
 refine PySem.ks_wpAt_execs_cons (PySem.ks_wpAt_mono (super_stmt (D:={ nx:=fun σ' H'=>σ' = [some (.ref e),some v1]/\H' = H,rt:=fun _ _=>False }) lk rfl rfl lcode hvs hfile lc F.sup F.top rfl rfl rfl F.all (pa_c (pe_join (pj_cons pe_str (pj_cons (pe_fmt (pv 1)) (pj_cons pe_str pj_nil)))) pa_nil) I rfl he ?q rfl rfl rfl) (fun fl s2 hs=>?_) (fun _ _ (z : False)=>z.elim))
 case q=>exact ⟨_,rfl,Nat.le_trans (fits (show Str.empty.length <= 0 by decide +kernel) (show _ <= 100 by decide +kernel)) (by decide),v1,rfl,y1,h1,_,rfl,Nat.le_trans (fits (fits (show Str.empty.length <= 0 by decide +kernel) (show _ <= 100 by decide +kernel)) l1) (by decide),_,rfl,Nat.le_trans (fits (fits (fits (show Str.empty.length <= 0 by decide +kernel) (show _ <= 100 by decide +kernel)) l1) (show _ <= 100 by decide +kernel)) (by decide),Nat.le_trans (fits (fits (fits (show Str.empty.length <= 0 by decide +kernel) (show _ <= 100 by decide +kernel)) l1) (show _ <= 100 by decide +kernel)) (by decide),rfl,he,rfl,rfl⟩
 cases fl with
 | ret u=>obtain ⟨_,_,_,_,_,z⟩:=hs;exact z.elim
 | brk=>obtain ⟨_,_,_,z⟩:=hs;exact z.elim
 | cont=>obtain ⟨_,_,_,z⟩:=hs;exact z.elim
 | next =>
  obtain ⟨σ2,H2,I2,rfl,rfl⟩:=hs
  refine PySem.wpAt_of_wpAny (thn ((pss_one (ps_xfld (pv 0) (pv 1))) [] s2 _ _ _ I2 ?_) fun _ _ z=>z)
  exact ⟨v1,rfl,_,rfl,e,C,rfl,ha1,.inl ⟨he,fun d hd=>q d hd⟩⟩
abbrev s_Out : Stmt:=inCls (top 6) 0
theorem ok_ini_Out {P : Program} {w : World} {K : PySem.W.Frag} {mg : Str->Option Value} {base : Heap} {C f cc cda : Addr} {fd : FuncData} (F : IniIn P K mg "Out.__init__" s_Out C f cc cda fd) (ha1 : attrIn K C "card" = true) : FnOk P w K mg base CX0 2 f fd ["self","card"] (spIniN C ["card"]):=by
 obtain ⟨oc,od,kV,doc,pm,an,ct,osl,rfl,lk⟩:=F.fn
 obtain ⟨ccl,cdd,vs,ccs,x,tf,lcode,hvs,hfile⟩:=F.file
 obtain ⟨cl,cld,csl,lc⟩:=F.cell
 refine init_of lk F.code lc ⟨rfl,rfl,rfl,by decide +kernel,by decide +kernel,by decide +kernel,by decide +kernel⟩ (fun vs H Q E ⟨e,us,h,hl,_⟩=>by rw [h,List.length_cons,hl];rfl) fun A outer s s1 H vs Q E hr h I=>?_
 obtain ⟨e,us,rfl,hl,hu,he,q⟩:=h
 match us,hl,hu,q,I with
 | [v1],hl,hu,q,I =>
 obtain ⟨y1,h1,l1⟩:=hu v1 (by simp)
 refine PySem.ks_wpAt_execs_cons (PySem.ks_wpAt_mono (super_stmt (D:={ nx:=fun σ' H'=>σ' = [some (.ref e),some v1]/\H' = H,rt:=fun _ _=>False }) lk rfl rfl lcode hvs hfile lc F.sup F.top rfl rfl rfl F.all (pa_c (pe_join (pj_cons pe_str (pj_cons (pe_fmt (pv 1)) (pj_cons pe_str pj_nil)))) pa_nil) I rfl he ?q rfl rfl rfl) (fun fl s2 hs=>?_) (fun _ _ (z : False)=>z.elim))
 case q=>exact ⟨_,rfl,Nat.le_trans (fits (show Str.empty.length <= 0 by decide +kernel) (show _ <= 100 by decide +kernel)) (by decide),v1,rfl,y1,h1,_,rfl,Nat.le_trans (fits (fits (show Str.empty.length <= 0 by decide +kernel) (show _ <= 100 by decide +kernel)) l1) (by decide),_,rfl,Nat.le_trans (fits (fits (fits (show Str.empty.length <= 0 by decide +kernel) (show _ <= 100 by decide +kernel)) l1) (show _ <= 100 by decide +kernel)) (by decide),Nat.le_trans (fits (fits (fits (show Str.empty.length <= 0 by decide +kernel) (show _ <= 100 by decide +kernel)) l1) (show _ <= 100 by decide +kernel)) (by decide),rfl,he,rfl,rfl⟩
 cases fl with
 | ret u=>obtain ⟨_,_,_,_,_,z⟩:=hs;exact z.elim
 | brk=>obtain ⟨_,_,_,z⟩:=hs;exact z.elim
 | cont=>obtain ⟨_,_,_,z⟩:=hs;exact z.elim
 | next =>
  obtain ⟨σ2,H2,I2,rfl,rfl⟩:=hs
  refine PySem.wpAt_of_wpAny (thn ((pss_one (ps_xfld (pv 0) (pv 1))) [] s2 _ _ _ I2 ?_) fun _ _ z=>z)
  exact ⟨v1,rfl,_,rfl,e,C,rfl,ha1,.inl ⟨he,fun d hd=>q d hd⟩⟩
abbrev s_Blocked : Stmt:=inCls (top 7) 0
theorem ok_ini_Blocked {P : Program} {w : World} {K : PySem.W.Frag} {mg : Str->Option Value} {base : Heap} {C f cc cda : Addr} {fd : FuncData} (F : IniIn P K mg "Blocked.__init__" s_Blocked C f cc cda fd) (ha1 : attrIn K C "card" = true) : FnOk P w K mg base CX0 2 f fd ["self","card"] (spIniN C ["card"]):=by
 obtain ⟨oc,od,kV,doc,pm,an,ct,osl,rfl,lk⟩:=F.fn
 obtain ⟨ccl,cdd,vs,ccs,x,tf,lcode,hvs,hfile⟩:=F.file
 obtain ⟨cl,cld,csl,lc⟩:=F.cell
 refine init_of lk F.code lc ⟨rfl,rfl,rfl,by decide +kernel,by decide +kernel,by decide +kernel,by decide +kernel⟩ (fun vs H Q E ⟨e,us,h,hl,_⟩=>by rw [h,List.length_cons,hl];rfl) fun A outer s s1 H vs Q E hr h I=>?_
 obtain ⟨e,us,rfl,hl,hu,he,q⟩:=h
 match us,hl,hu,q,I with
 | [v1],hl,hu,q,I =>
 obtain ⟨y1,h1,l1⟩:=hu v1 (by simp)
 refine PySem.ks_wpAt_execs_cons (PySem.ks_wpAt_mono (super_stmt (D:={ nx:=fun σ' H'=>σ' = [some (.ref e),some v1]/\H' = H,rt:=fun _ _=>False }) lk rfl rfl lcode hvs hfile lc F.sup F.top rfl rfl rfl F.all (pa_c (pe_join (pj_cons pe_str (pj_cons (pe_fmt (pv 1)) (pj_cons pe_str pj_nil)))) pa_nil) I rfl he ?q rfl rfl rfl) (fun fl s2 hs=>?_) (fun _ _ (z : False)=>z.elim))
 case q=>exact ⟨_,rfl,Nat.le_trans (fits (show Str.empty.length <= 0 by decide +kernel) (show _ <= 100 by decide +kernel)) (by decide),v1,rfl,y1,h1,_,rfl,Nat.le_trans (fits (fits (show Str.empty.length <= 0 by decide +kernel) (show _ <= 100 by decide +kernel)) l1) (by decide),_,rfl,Nat.le_trans (fits (fits (fits (show Str.empty.length <= 0 by decide +kernel) (show _ <= 100 by decide +kernel)) l1) (show _ <= 100 by decide +kernel)) (by decide),Nat.le_trans (fits (fits (fits (show Str.empty.length <= 0 by decide +kernel) (show _ <= 100 by decide +kernel)) l1) (show _ <= 100 by decide +kernel)) (by decide),rfl,he,rfl,rfl⟩
 cases fl with
 | ret u=>obtain ⟨_,_,_,_,_,z⟩:=hs;exact z.elim
 | brk=>obtain ⟨_,_,_,z⟩:=hs;exact z.elim
 | cont=>obtain ⟨_,_,_,z⟩:=hs;exact z.elim
 | next =>
  obtain ⟨σ2,H2,I2,rfl,rfl⟩:=hs
  refine PySem.wpAt_of_wpAny (thn ((pss_one (ps_xfld (pv 0) (pv 1))) [] s2 _ _ _ I2 ?_) fun _ _ z=>z)
  exact ⟨v1,rfl,_,rfl,e,C,rfl,ha1,.inl ⟨he,fun d hd=>q d hd⟩⟩
abbrev s_InYard : Stmt:=inCls (top 8) 0
theorem ok_ini_InYard {P : Program} {w : World} {K : PySem.W.Frag} {mg : Str->Option Value} {base : Heap} {C f cc cda : Addr} {fd : FuncData} (F : IniIn P K mg "InYard.__init__" s_InYard C f cc cda fd) (ha1 : attrIn K C "card" = true) : FnOk P w K mg base CX0 2 f fd ["self","card"] (spIniN C ["card"]):=by
 obtain ⟨oc,od,kV,doc,pm,an,ct,osl,rfl,lk⟩:=F.fn
 obtain ⟨ccl,cdd,vs,ccs,x,tf,lcode,hvs,hfile⟩:=F.file
 obtain ⟨cl,cld,csl,lc⟩:=F.cell
 refine init_of lk F.code lc ⟨rfl,rfl,rfl,by decide +kernel,by decide +kernel,by decide +kernel,by decide +kernel⟩ (fun vs H Q E ⟨e,us,h,hl,_⟩=>by rw [h,List.length_cons,hl];rfl) fun A outer s s1 H vs Q E hr h I=>?_
 obtain ⟨e,us,rfl,hl,hu,he,q⟩:=h
 match us,hl,hu,q,I with
 | [v1],hl,hu,q,I =>
 obtain ⟨y1,h1,l1⟩:=hu v1 (by simp)
 refine PySem.ks_wpAt_execs_cons (PySem.ks_wpAt_mono (super_stmt (D:={ nx:=fun σ' H'=>σ' = [some (.ref e),some v1]/\H' = H,rt:=fun _ _=>False }) lk rfl rfl lcode hvs hfile lc F.sup F.top rfl rfl rfl F.all (pa_c (pe_join (pj_cons pe_str (pj_cons (pe_fmt (pv 1)) (pj_cons pe_str pj_nil)))) pa_nil) I rfl he ?q rfl rfl rfl) (fun fl s2 hs=>?_) (fun _ _ (z : False)=>z.elim))
 case q=>exact ⟨_,rfl,Nat.le_trans (fits (show Str.empty.length <= 0 by decide +kernel) (show _ <= 100 by decide +kernel)) (by decide),v1,rfl,y1,h1,_,rfl,Nat.le_trans (fits (fits (show Str.empty.length <= 0 by decide +kernel) (show _ <= 100 by decide +kernel)) l1) (by decide),_,rfl,Nat.le_trans (fits (fits (fits (show Str.empty.length <= 0 by decide +kernel) (show _ <= 100 by decide +kernel)) l1) (show _ <= 100 by decide +kernel)) (by decide),Nat.le_trans (fits (fits (fits (show Str.empty.length <= 0 by decide +kernel) (show _ <= 100 by decide +kernel)) l1) (show _ <= 100 by decide +kernel)) (by decide),rfl,he,rfl,rfl⟩
 cases fl with
 | ret u=>obtain ⟨_,_,_,_,_,z⟩:=hs;exact z.elim
 | brk=>obtain ⟨_,_,_,z⟩:=hs;exact z.elim
 | cont=>obtain ⟨_,_,_,z⟩:=hs;exact z.elim
 | next =>
  obtain ⟨σ2,H2,I2,rfl,rfl⟩:=hs
  refine PySem.wpAt_of_wpAny (thn ((pss_one (ps_xfld (pv 0) (pv 1))) [] s2 _ _ _ I2 ?_) fun _ _ z=>z)
  exact ⟨v1,rfl,_,rfl,e,C,rfl,ha1,.inl ⟨he,fun d hd=>q d hd⟩⟩
abbrev s_Past : Stmt:=inCls (top 9) 0
theorem ok_ini_Past {P : Program} {w : World} {K : PySem.W.Frag} {mg : Str->Option Value} {base : Heap} {C f cc cda : Addr} {fd : FuncData} (F : IniIn P K mg "Past.__init__" s_Past C f cc cda fd) (ha1 : attrIn K C "card" = true) : FnOk P w K mg base CX0 2 f fd ["self","card"] (spIniN C ["card"]):=by
 obtain ⟨oc,od,kV,doc,pm,an,ct,osl,rfl,lk⟩:=F.fn
 obtain ⟨ccl,cdd,vs,ccs,x,tf,lcode,hvs,hfile⟩:=F.file
 obtain ⟨cl,cld,csl,lc⟩:=F.cell
 refine init_of lk F.code lc ⟨rfl,rfl,rfl,by decide +kernel,by decide +kernel,by decide +kernel,by decide +kernel⟩ (fun vs H Q E ⟨e,us,h,hl,_⟩=>by rw [h,List.length_cons,hl];rfl) fun A outer s s1 H vs Q E hr h I=>?_
 obtain ⟨e,us,rfl,hl,hu,he,q⟩:=h
 match us,hl,hu,q,I with
 | [v1],hl,hu,q,I =>
 obtain ⟨y1,h1,l1⟩:=hu v1 (by simp)
 refine PySem.ks_wpAt_execs_cons (PySem.ks_wpAt_mono (super_stmt (D:={ nx:=fun σ' H'=>σ' = [some (.ref e),some v1]/\H' = H,rt:=fun _ _=>False }) lk rfl rfl lcode hvs hfile lc F.sup F.top rfl rfl rfl F.all (pa_c (pe_join (pj_cons pe_str (pj_cons (pe_fmt (pv 1)) (pj_cons pe_str pj_nil)))) pa_nil) I rfl he ?q rfl rfl rfl) (fun fl s2 hs=>?_) (fun _ _ (z : False)=>z.elim))
 case q=>exact ⟨_,rfl,Nat.le_trans (fits (show Str.empty.length <= 0 by decide +kernel) (show _ <= 100 by decide +kernel)) (by decide),v1,rfl,y1,h1,_,rfl,Nat.le_trans (fits (fits (show Str.empty.length <= 0 by decide +kernel) (show _ <= 100 by decide +kernel)) l1) (by decide),_,rfl,Nat.le_trans (fits (fits (fits (show Str.empty.length <= 0 by decide +kernel) (show _ <= 100 by decide +kernel)) l1) (show _ <= 100 by decide +kernel)) (by decide),Nat.le_trans (fits (fits (fits (show Str.empty.length <= 0 by decide +kernel) (show _ <= 100 by decide +kernel)) l1) (show _ <= 100 by decide +kernel)) (by decide),rfl,he,rfl,rfl⟩
 cases fl with
 | ret u=>obtain ⟨_,_,_,_,_,z⟩:=hs;exact z.elim
 | brk=>obtain ⟨_,_,_,z⟩:=hs;exact z.elim
 | cont=>obtain ⟨_,_,_,z⟩:=hs;exact z.elim
 | next =>
  obtain ⟨σ2,H2,I2,rfl,rfl⟩:=hs
  refine PySem.wpAt_of_wpAny (thn ((pss_one (ps_xfld (pv 0) (pv 1))) [] s2 _ _ _ I2 ?_) fun _ _ z=>z)
  exact ⟨v1,rfl,_,rfl,e,C,rfl,ha1,.inl ⟨he,fun d hd=>q d hd⟩⟩
abbrev s_Waits : Stmt:=inCls (top 10) 0
theorem ok_ini_Waits {P : Program} {w : World} {K : PySem.W.Frag} {mg : Str->Option Value} {base : Heap} {C f cc cda : Addr} {fd : FuncData} (F : IniIn P K mg "Waits.__init__" s_Waits C f cc cda fd) (ha1 : attrIn K C "card" = true) (ha2 : attrIn K C "other" = true) : FnOk P w K mg base CX0 2 f fd ["self","card","other"] (spIniN C ["card","other"]):=by
 obtain ⟨oc,od,kV,doc,pm,an,ct,osl,rfl,lk⟩:=F.fn
 obtain ⟨ccl,cdd,vs,ccs,x,tf,lcode,hvs,hfile⟩:=F.file
 obtain ⟨cl,cld,csl,lc⟩:=F.cell
 refine init_of lk F.code lc ⟨rfl,rfl,rfl,by decide +kernel,by decide +kernel,by decide +kernel,by decide +kernel⟩ (fun vs H Q E ⟨e,us,h,hl,_⟩=>by rw [h,List.length_cons,hl];rfl) fun A outer s s1 H vs Q E hr h I=>?_
 obtain ⟨e,us,rfl,hl,hu,he,q⟩:=h
 match us,hl,hu,q,I with
 | [v1,v2],hl,hu,q,I =>
 obtain ⟨y1,h1,l1⟩:=hu v1 (by simp)
 obtain ⟨y2,h2,l2⟩:=hu v2 (by simp)
 refine PySem.ks_wpAt_execs_cons (PySem.ks_wpAt_mono (super_stmt (D:={ nx:=fun σ' H'=>σ' = [some (.ref e),some v1,some v2]/\H' = H,rt:=fun _ _=>False }) lk rfl rfl lcode hvs hfile lc F.sup F.top rfl rfl rfl F.all (pa_c (pe_join (pj_cons pe_str (pj_cons (pe_fmt (pv 1)) (pj_cons pe_str (pj_cons (pe_fmt (pv 2)) pj_nil))))) pa_nil) I rfl he ?q rfl rfl rfl) (fun fl s2 hs=>?_) (fun _ _ (z : False)=>z.elim))
 case q=>exact ⟨_,rfl,Nat.le_trans (fits (show Str.empty.length <= 0 by decide +kernel) (show _ <= 100 by decide +kernel)) (by decide),v1,rfl,y1,h1,_,rfl,Nat.le_trans (fits (fits (show Str.empty.length <= 0 by decide +kernel) (show _ <= 100 by decide +kernel)) l1) (by decide),_,rfl,Nat.le_trans (fits (fits (fits (show Str.empty.length <= 0 by decide +kernel) (show _ <= 100 by decide +kernel)) l1) (show _ <= 100 by decide +kernel)) (by decide),v2,rfl,y2,h2,_,rfl,Nat.le_trans (fits (fits (fits (fits (show Str.empty.length <= 0 by decide +kernel) (show _ <= 100 by decide +kernel)) l1) (show _ <= 100 by decide +kernel)) l2) (by decide),Nat.le_trans (fits (fits (fits (fits (show Str.empty.length <= 0 by decide +kernel) (show _ <= 100 by decide +kernel)) l1) (show _ <= 100 by decide +kernel)) l2) (by decide),rfl,he,rfl,rfl⟩
 cases fl with
 | ret u=>obtain ⟨_,_,_,_,_,z⟩:=hs;exact z.elim
 | brk=>obtain ⟨_,_,_,z⟩:=hs;exact z.elim
 | cont=>obtain ⟨_,_,_,z⟩:=hs;exact z.elim
 | next =>
  obtain ⟨σ2,H2,I2,rfl,rfl⟩:=hs
  refine PySem.wpAt_of_wpAny (thn ((pss_cons (ps_xfld (pv 0) (pv 1)) (pss_one (ps_xfld (pv 0) (pv 2)))) [] s2 _ _ _ I2 ?_) fun _ _ z=>z)
  refine ⟨v1,rfl,_,rfl,e,C,rfl,ha1,.inl ⟨he,fun d hd=>?_⟩⟩
  have hne : d ≠ e:=fun z=>by rw [z,he] at hd;cases hd
  refine ⟨v2,rfl,_,rfl,e,C,rfl,ha2,.inr ⟨d,_,upd_same,by rw [upd_ne hne,upd_same],by show 1 < 1000;decide,?_⟩⟩
  rw [upd_upd_ne hne]
  exact q d hd
abbrev s_Full : Stmt:=inCls (top 11) 0
theorem ok_ini_Full {P : Program} {w : World} {K : PySem.W.Frag} {mg : Str->Option Value} {base : Heap} {C f cc cda : Addr} {fd : FuncData} (F : IniIn P K mg "Full.__init__" s_Full C f cc cda fd) (ha1 : attrIn K C "lane" = true) (ha2 : attrIn K C "bound" = true) : FnOk P w K mg base CX0 2 f fd ["self","lane","bound"] (spIniN C ["lane","bound"]):=by
 obtain ⟨oc,od,kV,doc,pm,an,ct,osl,rfl,lk⟩:=F.fn
 obtain ⟨ccl,cdd,vs,ccs,x,tf,lcode,hvs,hfile⟩:=F.file
 obtain ⟨cl,cld,csl,lc⟩:=F.cell
 refine init_of lk F.code lc ⟨rfl,rfl,rfl,by decide +kernel,by decide +kernel,by decide +kernel,by decide +kernel⟩ (fun vs H Q E ⟨e,us,h,hl,_⟩=>by rw [h,List.length_cons,hl];rfl) fun A outer s s1 H vs Q E hr h I=>?_
 obtain ⟨e,us,rfl,hl,hu,he,q⟩:=h
 match us,hl,hu,q,I with
 | [v1,v2],hl,hu,q,I =>
 obtain ⟨y1,h1,l1⟩:=hu v1 (by simp)
 obtain ⟨y2,h2,l2⟩:=hu v2 (by simp)
 refine PySem.ks_wpAt_execs_cons (PySem.ks_wpAt_mono (super_stmt (D:={ nx:=fun σ' H'=>σ' = [some (.ref e),some v1,some v2]/\H' = H,rt:=fun _ _=>False }) lk rfl rfl lcode hvs hfile lc F.sup F.top rfl rfl rfl F.all (pa_c (pe_join (pj_cons pe_str (pj_cons (pe_fmt (pv 1)) (pj_cons pe_str (pj_cons (pe_fmt (pv 2)) pj_nil))))) pa_nil) I rfl he ?q rfl rfl rfl) (fun fl s2 hs=>?_) (fun _ _ (z : False)=>z.elim))
 case q=>exact ⟨_,rfl,Nat.le_trans (fits (show Str.empty.length <= 0 by decide +kernel) (show _ <= 100 by decide +kernel)) (by decide),v1,rfl,y1,h1,_,rfl,Nat.le_trans (fits (fits (show Str.empty.length <= 0 by decide +kernel) (show _ <= 100 by decide +kernel)) l1) (by decide),_,rfl,Nat.le_trans (fits (fits (fits (show Str.empty.length <= 0 by decide +kernel) (show _ <= 100 by decide +kernel)) l1) (show _ <= 100 by decide +kernel)) (by decide),v2,rfl,y2,h2,_,rfl,Nat.le_trans (fits (fits (fits (fits (show Str.empty.length <= 0 by decide +kernel) (show _ <= 100 by decide +kernel)) l1) (show _ <= 100 by decide +kernel)) l2) (by decide),Nat.le_trans (fits (fits (fits (fits (show Str.empty.length <= 0 by decide +kernel) (show _ <= 100 by decide +kernel)) l1) (show _ <= 100 by decide +kernel)) l2) (by decide),rfl,he,rfl,rfl⟩
 cases fl with
 | ret u=>obtain ⟨_,_,_,_,_,z⟩:=hs;exact z.elim
 | brk=>obtain ⟨_,_,_,z⟩:=hs;exact z.elim
 | cont=>obtain ⟨_,_,_,z⟩:=hs;exact z.elim
 | next =>
  obtain ⟨σ2,H2,I2,rfl,rfl⟩:=hs
  refine PySem.wpAt_of_wpAny (thn ((pss_cons (ps_xfld (pv 0) (pv 1)) (pss_one (ps_xfld (pv 0) (pv 2)))) [] s2 _ _ _ I2 ?_) fun _ _ z=>z)
  refine ⟨v1,rfl,_,rfl,e,C,rfl,ha1,.inl ⟨he,fun d hd=>?_⟩⟩
  have hne : d ≠ e:=fun z=>by rw [z,he] at hd;cases hd
  refine ⟨v2,rfl,_,rfl,e,C,rfl,ha2,.inr ⟨d,_,upd_same,by rw [upd_ne hne,upd_same],by show 1 < 1000;decide,?_⟩⟩
  rw [upd_upd_ne hne]
  exact q d hd
abbrev s_KindFull : Stmt:=inCls (top 12) 0
theorem ok_ini_KindFull {P : Program} {w : World} {K : PySem.W.Frag} {mg : Str->Option Value} {base : Heap} {C f cc cda : Addr} {fd : FuncData} (F : IniIn P K mg "KindFull.__init__" s_KindFull C f cc cda fd) (ha1 : attrIn K C "lane" = true) (ha2 : attrIn K C "kind" = true) (ha3 : attrIn K C "bound" = true) : FnOk P w K mg base CX0 2 f fd ["self","lane","kind","bound"] (spIniN C ["lane","kind","bound"]):=by
 obtain ⟨oc,od,kV,doc,pm,an,ct,osl,rfl,lk⟩:=F.fn
 obtain ⟨ccl,cdd,vs,ccs,x,tf,lcode,hvs,hfile⟩:=F.file
 obtain ⟨cl,cld,csl,lc⟩:=F.cell
 refine init_of lk F.code lc ⟨rfl,rfl,rfl,by decide +kernel,by decide +kernel,by decide +kernel,by decide +kernel⟩ (fun vs H Q E ⟨e,us,h,hl,_⟩=>by rw [h,List.length_cons,hl];rfl) fun A outer s s1 H vs Q E hr h I=>?_
 obtain ⟨e,us,rfl,hl,hu,he,q⟩:=h
 match us,hl,hu,q,I with
 | [v1,v2,v3],hl,hu,q,I =>
 obtain ⟨y1,h1,l1⟩:=hu v1 (by simp)
 obtain ⟨y2,h2,l2⟩:=hu v2 (by simp)
 obtain ⟨y3,h3,l3⟩:=hu v3 (by simp)
 refine PySem.ks_wpAt_execs_cons (PySem.ks_wpAt_mono (super_stmt (D:={ nx:=fun σ' H'=>σ' = [some (.ref e),some v1,some v2,some v3]/\H' = H,rt:=fun _ _=>False }) lk rfl rfl lcode hvs hfile lc F.sup F.top rfl rfl rfl F.all (pa_c (pe_join (pj_cons pe_str (pj_cons (pe_fmt (pv 1)) (pj_cons pe_str (pj_cons (pe_fmt (pv 3)) (pj_cons pe_str (pj_cons (pe_fmt (pv 2)) pj_nil))))))) pa_nil) I rfl he ?q rfl rfl rfl) (fun fl s2 hs=>?_) (fun _ _ (z : False)=>z.elim))
 case q=>exact ⟨_,rfl,Nat.le_trans (fits (show Str.empty.length <= 0 by decide +kernel) (show _ <= 100 by decide +kernel)) (by decide),v1,rfl,y1,h1,_,rfl,Nat.le_trans (fits (fits (show Str.empty.length <= 0 by decide +kernel) (show _ <= 100 by decide +kernel)) l1) (by decide),_,rfl,Nat.le_trans (fits (fits (fits (show Str.empty.length <= 0 by decide +kernel) (show _ <= 100 by decide +kernel)) l1) (show _ <= 100 by decide +kernel)) (by decide),v3,rfl,y3,h3,_,rfl,Nat.le_trans (fits (fits (fits (fits (show Str.empty.length <= 0 by decide +kernel) (show _ <= 100 by decide +kernel)) l1) (show _ <= 100 by decide +kernel)) l3) (by decide),_,rfl,Nat.le_trans (fits (fits (fits (fits (fits (show Str.empty.length <= 0 by decide +kernel) (show _ <= 100 by decide +kernel)) l1) (show _ <= 100 by decide +kernel)) l3) (show _ <= 100 by decide +kernel)) (by decide),v2,rfl,y2,h2,_,rfl,Nat.le_trans (fits (fits (fits (fits (fits (fits (show Str.empty.length <= 0 by decide +kernel) (show _ <= 100 by decide +kernel)) l1) (show _ <= 100 by decide +kernel)) l3) (show _ <= 100 by decide +kernel)) l2) (by decide),Nat.le_trans (fits (fits (fits (fits (fits (fits (show Str.empty.length <= 0 by decide +kernel) (show _ <= 100 by decide +kernel)) l1) (show _ <= 100 by decide +kernel)) l3) (show _ <= 100 by decide +kernel)) l2) (by decide),rfl,he,rfl,rfl⟩
 cases fl with
 | ret u=>obtain ⟨_,_,_,_,_,z⟩:=hs;exact z.elim
 | brk=>obtain ⟨_,_,_,z⟩:=hs;exact z.elim
 | cont=>obtain ⟨_,_,_,z⟩:=hs;exact z.elim
 | next =>
  obtain ⟨σ2,H2,I2,rfl,rfl⟩:=hs
  refine PySem.wpAt_of_wpAny (thn ((pss_cons (ps_xfld (pv 0) (pv 1)) (pss_cons (ps_xfld (pv 0) (pv 2)) (pss_one (ps_xfld (pv 0) (pv 3))))) [] s2 _ _ _ I2 ?_) fun _ _ z=>z)
  refine ⟨v1,rfl,_,rfl,e,C,rfl,ha1,.inl ⟨he,fun d hd=>?_⟩⟩
  have hne : d ≠ e:=fun z=>by rw [z,he] at hd;cases hd
  refine ⟨v2,rfl,_,rfl,e,C,rfl,ha2,.inr ⟨d,_,upd_same,by rw [upd_ne hne,upd_same],by show 1 < 1000;decide,?_⟩⟩
  rw [upd_upd_ne hne]
  refine ⟨v3,rfl,_,rfl,e,C,rfl,ha3,.inr ⟨d,_,upd_same,by rw [upd_ne hne,upd_same],by show 2 < 1000;decide,?_⟩⟩
  rw [upd_upd_ne hne]
  exact q d hd
end K12
end

section
set_option Elab.async false
set_option linter.all false
set_option maxRecDepth 100000
set_option maxHeartbeats 1000000
namespace K12
open PySem PySem.Spec L2 PyProof.Rows PySem.W
def spKind (CK : Addr) : Sp:=fun vs H Q E=>∃ (p : Pl) (v : V) (x : Str),vs = [v,.str x]/\IsD [] H p.d v/\x.length <= 1000 /\
 (∀ k u H',p.kd? x = some k->Ext [] H H'->IsD [] H' k.d u->Q u H')/\(p.kd? x = none->XFs CK [("kind",.str x)] H E)
def spWay (CK : Addr) : Sp:=fun vs H Q E=>∃ (p : Pl) (v : V) (x : Str),vs = [v,.str x]/\IsD [] H p.d v/\x.length <= 1000 /\
 (∀ k a H',p.kd? x = some k->Ext [] H H'->H' a = some (.tup (k.way.map V.int))->Q (.ref a) H')/\(p.kd? x = none->XFs CK [("kind",.str x)] H E)
def spKB : Sp:=fun vs H Q _=>∃ (p : Pl) (v : V) (x : Str) (l : Int) (k : Kd) (j : Nat) (b : Int),vs = [v,.str x,.int l]/\IsD [] H p.d v/\x.length <= 1000/\p.kd? x = some k/\k.way[j]? = some l/\(∀ m w,m < j->k.way[m]? = some w->w ≠ l)/\k.bds[j]? = some b /\
 ∀ H',Ext [] H H'->Q (.int b) H'
def spLaneAt : Sp:=fun vs H Q _=>∃ (p : Pl) (v : V) (x : Str) (j : Int) (k : Kd),vs = [v,.str x,.int j]/\IsD [] H p.d v/\x.length <= 1000/\p.kd? x = some k/\0 <= j/\∀ H',Ext [] H H'->Q (.int (p.at x j)) H'
def spCard (CC : Addr) : Sp:=fun vs H Q E=>∃ (s : Sd) (v : V) (x : Str),vs = [v,.str x]/\IsD [] H s.d v/\x.length <= 1000 /\
 (∀ c u H',s.cd? x = some c->Ext [] H H'->IsD [] H' c.d u->Q u H')/\(s.cd? x = none->XFs CC [("card",.str x)] H E)
def spLaneOf (CC : Addr) : Sp:=fun vs H Q E=>∃ (p : Pl) (s : Sd) (v u : V) (x : Str),vs = [v,u,.str x]/\IsD [] H p.d v/\IsD [] H s.d u/\x.length <= 1000/\POk p/\SOk p s /\
 (∀ c H',s.cd? x = some c->Ext [] H H'->Q (.int (p.lane c)) H')/\(s.cd? x = none->XFs CC [("card",.str x)] H E)
def spOut (CC : Addr) : Sp:=fun vs H Q E=>∃ (p : Pl) (s : Sd) (v u : V) (x : Str),vs = [v,u,.str x]/\IsD [] H p.d v/\IsD [] H s.d u/\x.length <= 1000/\POk p/\SOk p s /\
 (∀ c H',s.cd? x = some c->Ext [] H H'->Q (.bl (decide (p.lane c = p.n))) H')/\(s.cd? x = none->XFs CC [("card",.str x)] H E)
def spIn : Sp:=fun vs H Q _=>∃ (p : Pl) (s : Sd) (v u : V) (l : Int),vs = [v,u,.int l]/\IsD [] H p.d v/\IsD [] H s.d u/\POk p/\SOk p s/\∀ a H',H a = none->Ext [] H H'->H' a = some (.lst ((s.inL p l).map V.str))->Q (.ref a) H'
def spMany : Sp:=fun vs H Q _=>∃ (p : Pl) (s : Sd) (v u : V) (l : Int) (x : Str) (k : Kd),vs = [v,u,.int l,.str x]/\IsD [] H p.d v/\IsD [] H s.d u/\POk p/\SOk p s/\x.length <= 1000/\p.kd? x = some k/\∀ H',Ext [] H H'->Q (.int (s.many p l x : Nat)) H'
theorem COk.kd {p : Pl} {c : Cd} (P : POk p) (h : COk p c) : c.kd.length <= 1000:=by
 obtain ⟨_,k,hk,_⟩:=h
 obtain ⟨h1,h2⟩:=kd_in hk
 rw [<- h2]
 exact (P.kw k h1).2.2.1
structure TxP (K : PySem.W.Frag) (mg : Str->Option Value) : Prop where
 b_len : mg "len" = none
 g_YARD : ∃ u,mg "YARD" = some u/\RelV (.int (-1)) u
section
variable {P : Program} {w : World} {K : PySem.W.Frag} {mg : Str->Option Value} {base : Heap} {CK CC : Addr}
abbrev s_kind_of : Stmt:=top 17
theorem sc_kind_of : FnScope ["plan","kind","told"] ["plan","kind"] (defScope s_kind_of):=⟨rfl,rfl,rfl,by decide +kernel,rfl,by decide +kernel,by decide +kernel⟩
theorem ok_kind_of {f : Addr} {fd : FuncData} (F : Fun K "kind_of" "kind_of" s_kind_of f fd) (M_NoKind : MakeOk P w K mg base "NoKind" CK 2 ["self","kind"] (spIniN CK ["kind"])) (hrs : raisesIn K CK = true) : FnOk P w K mg base (CXF P w) 4 f fd ["plan","kind"] (spKind CK):=by
 refine F.okX sc_kind_of (fun vs H Q E h=>?_) (fun cdv A outer s H vs Q E hr h=>?_)
 ·obtain ⟨p,v,x,rfl,_⟩:=h
  rfl
 obtain ⟨p,v,x,rfl,hd,hx,q1,q2⟩:=h
 refine' ⟨_,?hh,?rr⟩
 case hh=>refine' pss_cons ?hp ?hq;(case hp=>refine' PS.nox ?hk;(case hk=>refine' ps_for PassesOwn.never rfl ?hh ?hi ?hj;(case hh=>refine' pi_tup ?hb;(case hb=>refine' pe_ix ix_tup (pv 0) pe_int (fun _ _=>rfl)));(case hi=>refine' pg_name sc_kind_of.nd (ixAt 2) (Or.inl rfl) (Or.inl rfl));(case hj=>refine' pss_one ?hg;(case hg=>refine' ps_if ?he ?hf pss_nil;(case he=>refine' pt_cmpR op_eq ?hc (pv 1) (nomark _);(case hc=>refine' pe_ix ix_tup (pv 2) pe_int (fun _ _=>rfl)));(case hf=>refine' pss_one ?hd;(case hd=>refine' ps_ret (pv 2)))))));(case hq=>refine' pss_one ?ho;(case ho=>refine' ps_raise xe_cx ?hn;(case hn=>refine' pe_makeX M_NoKind hr ?hl rfl ?hm;(case hl=>refine' pa_c (pv 1) pa_nil);(case hm=>decide))))
 obtain ⟨a,la,ka,lv,kv,rfl,ha,hla,hls,hka,hks,el,ek⟩:=Pl.view hd
 refine ⟨_,rfl,a,_,_,_,rfl,rfl,SqT.of ha,rfl,ka,rfl,⟨kv,SqT.of hka⟩,for_tup (xs:=kv) (fun i σ H2=>∃ (nn : Option V),σ = [some (V.ref a),some (V.str x),nn]/\Ext [] H H2/\∀ j k,j < i->p.ks[j]? = some k->(k.nm == x) = false) ⟨none,rfl,Ext.refl,fun j d hj=>absurd hj (Nat.not_lt_zero j)⟩ (fun i σ H2 _ ⟨_,_,e,_⟩=>SqT.of (e.tup (by simp) hka)) ?_ ?_⟩
 ·rintro i y σ H2 hy ⟨nn,rfl,e,hw⟩
  obtain ⟨k,hk,hdy⟩:=hks.nth hy
  have hdy2:=IsD.ext e hdy
  obtain ⟨c,wa,ba,rfl,hc,_,_⟩:=Kd.view hdy2
  refine ⟨_,rfl,c,_,_,.str k.nm,rfl,rfl,SqT.of hc,atI_nat (j:=0) rfl,_,rfl,rfl,_,rfl,?_⟩
  refine ite2 (fun cc=>?_) (fun cc=>?_)
  ·have cc' : (k.nm == x) = true:=by simpa using cc
   exact ⟨_,rfl,q1 k _ _ (find_at p.ks i k hw hk cc') e hdy2⟩
  ·refine ⟨_,rfl,e,fun j k' hj hk'=>?_⟩
   by_cases hji : j = i
   ·subst hji
    rw [hk] at hk'
    cases hk'
    simpa using cc
   ·exact hw j k' (by omega) hk'
 ·rintro σ H2 ⟨nn,rfl,e,hw⟩
  have hnone:=find_no p.ks _ hw (by omega)
  exact ⟨_,rfl,raise_x ["kind"] [.str x] (q2 hnone) e (says1 (says_str hx)) hrs⟩
abbrev s_way_of : Stmt:=top 15
theorem sc_way_of : FnScope ["plan","kind"] ["plan","kind"] (defScope s_way_of):=⟨rfl,rfl,rfl,by decide +kernel,rfl,by decide +kernel,by decide +kernel⟩
theorem ok_way_of {f : Addr} {fd : FuncData} (F : Fun K "way_of" "way_of" s_way_of f fd) (C_kind_of : CallOkX P w K mg base "kind_of" 4 ["plan","kind"] (spKind CK)) : FnOk P w K mg base (CXF P w) 5 f fd ["plan","kind"] (spWay CK):=by
 refine F.okX sc_way_of (fun vs H Q E h=>?_) (fun cdv A outer s H vs Q E hr h=>?_)
 ·obtain ⟨p,v,x,rfl,_⟩:=h
  rfl
 obtain ⟨p,v,x,rfl,hd,hx,q1,q2⟩:=h
 refine' ⟨_,?hh,?rr⟩
 case hh=>refine' pss_one ?hg;(case hg=>refine' ps_ret ?hf;(case hf=>refine' pe_ix ix_tup ?he pe_int (fun _ _=>rfl);(case he=>refine' pe_clX xe_cx C_kind_of hr ?hc rfl ?hd;(case hc=>refine' pa_c (pv 0) ?hb;(case hb=>refine' pa_c (pv 1) pa_nil));(case hd=>decide))))
 refine ⟨_,rfl,_,rfl,p,v,x,rfl,hd,hx,fun k u H' hk e hu=>?_,fun hn=>(q2 hn).on⟩
 obtain ⟨c,wa,ba,rfl,hc,hwa,_⟩:=Kd.view hu
 exact ⟨c,_,_,_,rfl,rfl,SqT.of hc,rfl,q1 k wa H' hk e hwa⟩
abbrev s_lane_at : Stmt:=top 25
theorem sc_lane_at : FnScope ["plan","kind","place","way"] ["plan","kind","place"] (defScope s_lane_at):=⟨rfl,rfl,rfl,by decide +kernel,rfl,by decide +kernel,by decide +kernel⟩
theorem ok_lane_at {f : Addr} {fd : FuncData} (F : Fun K "lane_at" "lane_at" s_lane_at f fd) (T : TxP K mg) (C_way_of : CallOkX P w K mg base "way_of" 5 ["plan","kind"] (spWay CK)) : FnOk P w K mg base CX0 6 f fd ["plan","kind","place"] spLaneAt:=by
 refine F.ok sc_lane_at (fun vs H Q E h=>?_) (fun cdv A outer s H vs Q E hr h=>?_)
 ·obtain ⟨p,v,x,j,k,rfl,_⟩:=h
  rfl
 obtain ⟨p,v,x,j,k,rfl,hd,hx,hk,hj,q⟩:=h
 refine' ⟨_,?hh,?rr⟩
 case hh=>refine' pss_cons ?hx ?hy;(case hx=>refine' ps_if ?hc ?hd pss_nil;(case hc=>refine' pt_cmpR op_eq (pv 2) pe_int (nomark _));(case hd=>refine' pss_one ?hb;(case hb=>refine' ps_ret (pe_gl T.g_YARD))));(case hy=>refine' pss_cons ?hv ?hw;(case hv=>refine' ps_set sc_lane_at.nd (ixAt 3) (Or.inl rfl) ?hh;(case hh=>refine' pe_clX xe_never C_way_of hr ?hf rfl ?hg;(case hf=>refine' pa_c (pv 0) ?he;(case he=>refine' pa_c (pv 1) pa_nil));(case hg=>decide)));(case hw=>refine' pss_cons ?ht ?hu;(case ht=>refine' ps_if ?ho ?hp pss_nil;(case ho=>refine' pt_cmpR op_gt (pv 2) ?hj (nomark _);(case hj=>refine' pe_callB call_len_seq rfl T.b_len PySem.boot_len ?hi;(case hi=>refine' pa_c (pv 3) pa_nil)));(case hp=>refine' pss_one ?hn;(case hn=>refine' ps_ret ?hm;(case hm=>refine' pe_callB call_len_seq rfl T.b_len PySem.boot_len ?hl;(case hl=>refine' pa_c ?hk pa_nil;(case hk=>refine' pe_ix ix_tup (pv 0) pe_int (fun _ _=>rfl)))))));(case hu=>refine' pss_one ?hs;(case hs=>refine' ps_ret ?hr;(case hr=>refine' pe_ix ix_tup (pv 3) ?hq (fun _ _=>rfl);(case hq=>refine' pe_op op_sub (pv 2) pe_int))))))
 refine ⟨_,rfl,rfl,_,rfl,?_⟩
 refine ite2 (fun cc=>?_) (fun cc=>?_)
 ·have : j = 0:=by simpa using cc
  subst this
  have q':=q H Ext.refl
  rw [at_zero] at q'
  exact q'
 have hj0 : j ≠ 0:=by simpa using cc
 refine ⟨_,rfl,_,rfl,p,v,x,rfl,hd,hx,fun k' a H1 hk' e1 ha=>?_,fun hn=>by rw [hk] at hn;cases hn⟩
 rw [hk] at hk'
 cases hk'
 refine ⟨_,rfl,_,rfl,a,_,rfl,.inr (SqT.of ha),_,_,rfl,rfl,_,rfl,?_⟩
 rw [List.length_map]
 refine ite2 (fun cc=>?_) (fun cc=>?_)
 ·have hlt : (k.way.length : Int) < j:=by simpa using cc
  obtain ⟨b,la,ka,lv,kv,rfl,hb,hla,hls,hka,hks,el,ek⟩:=Pl.view (IsD.ext e1 hd)
  refine ⟨_,rfl,b,_,_,_,rfl,rfl,SqT.of hb,rfl,la,lv,rfl,.inr (SqT.of hla),?_⟩
  have q':=q H1 e1
  rw [at_out hk hlt] at q'
  rw [el]
  exact q'
 ·have hle : j <= (k.way.length : Int):=by
   have : ¬ (k.way.length : Int) < j:=by simpa using cc
   omega
  obtain ⟨l,hl,el⟩:=at_way hk (by omega) hle
  refine ⟨_,rfl,_,rfl,_,_,rfl,rfl,a,_,_,.int l,rfl,rfl,SqT.of ha,atI_pos (by omega) (by rw [List.getElem?_map,hl];rfl),?_⟩
  have q':=q H1 e1
  rw [el] at q'
  exact q'
abbrev s_card_of : Stmt:=top 21
theorem sc_card_of : FnScope ["stand","card","told"] ["stand","card"] (defScope s_card_of):=⟨rfl,rfl,rfl,by decide +kernel,rfl,by decide +kernel,by decide +kernel⟩
theorem ok_card_of {f : Addr} {fd : FuncData} (F : Fun K "card_of" "card_of" s_card_of f fd) (M_NoCard : MakeOk P w K mg base "NoCard" CC 2 ["self","card"] (spIniN CC ["card"])) (hrs : raisesIn K CC = true) : FnOk P w K mg base (CXF P w) 4 f fd ["stand","card"] (spCard CC):=by
 refine F.okX sc_card_of (fun vs H Q E h=>?_) (fun cdv A outer s H vs Q E hr h=>?_)
 ·obtain ⟨p,v,x,rfl,_⟩:=h
  rfl
 obtain ⟨sd,v,x,rfl,hd,hx,q1,q2⟩:=h
 refine' ⟨_,?hh,?rr⟩
 case hh=>refine' pss_cons ?hp ?hq;(case hp=>refine' PS.nox ?hk;(case hk=>refine' ps_for PassesOwn.never rfl ?hh ?hi ?hj;(case hh=>refine' pi_tup ?hb;(case hb=>refine' pe_ix ix_tup (pv 0) pe_int (fun _ _=>rfl)));(case hi=>refine' pg_name sc_card_of.nd (ixAt 2) (Or.inl rfl) (Or.inl rfl));(case hj=>refine' pss_one ?hg;(case hg=>refine' ps_if ?he ?hf pss_nil;(case he=>refine' pt_cmpR op_eq ?hc (pv 1) (nomark _);(case hc=>refine' pe_ix ix_tup (pv 2) pe_int (fun _ _=>rfl)));(case hf=>refine' pss_one ?hd;(case hd=>refine' ps_ret (pv 2)))))));(case hq=>refine' pss_one ?ho;(case ho=>refine' ps_raise xe_cx ?hn;(case hn=>refine' pe_makeX M_NoCard hr ?hl rfl ?hm;(case hl=>refine' pa_c (pv 1) pa_nil);(case hm=>decide))))
 obtain ⟨a,ba,ca,wa,cv,wv,rfl,ha,hba,hca,hcs,hwa,hws,ec,ew⟩:=Sd.view hd
 refine ⟨_,rfl,a,_,_,_,rfl,rfl,SqT.of ha,rfl,ca,rfl,⟨cv,SqT.of hca⟩,for_tup (xs:=cv) (fun i σ H2=>∃ (nn : Option V),σ = [some (V.ref a),some (V.str x),nn]/\Ext [] H H2/\∀ j k,j < i->sd.cs[j]? = some k->(k.nm == x) = false) ⟨none,rfl,Ext.refl,fun j d hj=>absurd hj (Nat.not_lt_zero j)⟩ (fun i σ H2 _ ⟨_,_,e,_⟩=>SqT.of (e.tup (by simp) hca)) ?_ ?_⟩
 ·rintro i y σ H2 hy ⟨nn,rfl,e,hw⟩
  obtain ⟨k,hk,hdy⟩:=hcs.nth hy
  have hdy2:=IsD.ext e hdy
  obtain ⟨c,rfl,hc⟩:=Cd.view hdy2
  refine ⟨_,rfl,c,_,_,.str k.nm,rfl,rfl,SqT.of hc,atI_nat (j:=0) rfl,_,rfl,rfl,_,rfl,?_⟩
  refine ite2 (fun cc=>?_) (fun cc=>?_)
  ·have cc' : (k.nm == x) = true:=by simpa using cc
   exact ⟨_,rfl,q1 k _ _ (find_at sd.cs i k hw hk cc') e hdy2⟩
  ·refine ⟨_,rfl,e,fun j k' hj hk'=>?_⟩
   by_cases hji : j = i
   ·subst hji
    rw [hk] at hk'
    cases hk'
    simpa using cc
   ·exact hw j k' (by omega) hk'
 ·rintro σ H2 ⟨nn,rfl,e,hw⟩
  have hnone:=find_no sd.cs _ hw (by omega)
  exact ⟨_,rfl,raise_x ["card"] [.str x] (q2 hnone) e (says1 (says_str hx)) hrs⟩
abbrev s_lane_of : Stmt:=top 22
theorem sc_lane_of : FnScope ["plan","stand","card","name","kind","place","blocked"] ["plan","stand","card"] (defScope s_lane_of):=⟨rfl,rfl,rfl,by decide +kernel,rfl,by decide +kernel,by decide +kernel⟩
theorem ok_lane_of {f : Addr} {fd : FuncData} (F : Fun K "lane_of" "lane_of" s_lane_of f fd) (C_card_of : CallOkX P w K mg base "card_of" 4 ["stand","card"] (spCard CC)) (C_lane_at : CallOk P w K mg base "lane_at" 6 ["plan","kind","place"] spLaneAt) : FnOk P w K mg base (CXF P w) 7 f fd ["plan","stand","card"] (spLaneOf CC):=by
 refine F.okX sc_lane_of (fun vs H Q E h=>?_) (fun cdv A outer s H vs Q E hr h=>?_)
 ·obtain ⟨p,sd,v,u,x,rfl,_⟩:=h
  rfl
 obtain ⟨p,sd,v,u,x,rfl,hp,hs,hx,Po,So,q1,q2⟩:=h
 refine' ⟨_,?hh,?rr⟩
 case hh=>refine' pss_cons ?hu ?hv;(case hu=>refine' ps_asg ?hm ?hn;(case hm=>refine' pe_clX xe_cx C_card_of hr ?hc rfl ?hd;(case hc=>refine' pa_c (pv 1) ?hb;(case hb=>refine' pa_c (pv 2) pa_nil));(case hd=>decide));(case hn=>refine' pg_tup rfl ?hl;(case hl=>refine' pgs_cons ?hj ?hk;(case hj=>refine' pg_name sc_lane_of.nd (ixAt 3) (Or.inl rfl) (Or.inl rfl));(case hk=>refine' pgs_cons ?hh ?hi;(case hh=>refine' pg_name sc_lane_of.nd (ixAt 4) (Or.inl rfl) (Or.inl rfl));(case hi=>refine' pgs_cons ?hf ?hg;(case hf=>refine' pg_name sc_lane_of.nd (ixAt 5) (Or.inl rfl) (Or.inl rfl));(case hg=>refine' pgs_cons ?he pgs_nil;(case he=>refine' pg_name sc_lane_of.nd (ixAt 6) (Or.inl rfl) (Or.inl rfl))))))));(case hv=>refine' pss_one ?ht;(case ht=>refine' ps_ret ?hs;(case hs=>refine' pe_cl C_lane_at hr ?hq rfl ?hr;(case hq=>refine' pa_c (pv 0) ?hp;(case hp=>refine' pa_c (pv 4) ?ho;(case ho=>refine' pa_c (pv 5) pa_nil)));(case hr=>decide))))
 refine ⟨_,rfl,_,rfl,sd,u,x,rfl,hs,hx,fun c cu H1 hc e1 hcu=>?_,fun hn=>(q2 hn).on⟩
 obtain ⟨a,rfl,ha⟩:=Cd.view hcu
 have Co:=So.c c (cd_in hc).1
 obtain ⟨_,k,hk,p0,p1⟩:=id Co
 refine ⟨_,_,rfl,SqT.of ha,rfl,_,_,rfl,_,_,rfl,_,_,rfl,_,_,rfl,rfl,?_⟩
 exact ⟨_,rfl,_,rfl,_,rfl,p,v,c.kd,c.pl,k,rfl,IsD.ext e1 hp,COk.kd Po Co,hk,p0,fun H2 e2=>q1 c H2 hc (e1.trans e2)⟩
abbrev s_is_out : Stmt:=top 26
theorem sc_is_out : FnScope ["plan","stand","card"] ["plan","stand","card"] (defScope s_is_out):=⟨rfl,rfl,rfl,by decide +kernel,rfl,by decide +kernel,by decide +kernel⟩
theorem ok_is_out {f : Addr} {fd : FuncData} (F : Fun K "is_out" "is_out" s_is_out f fd) (T : TxP K mg) (C_lane_of : CallOkX P w K mg base "lane_of" 7 ["plan","stand","card"] (spLaneOf CC)) : FnOk P w K mg base (CXF P w) 8 f fd ["plan","stand","card"] (spOut CC):=by
 refine F.okX sc_is_out (fun vs H Q E h=>?_) (fun cdv A outer s H vs Q E hr h=>?_)
 ·obtain ⟨p,sd,v,u,x,rfl,_⟩:=h
  rfl
 obtain ⟨p,sd,v,u,x,rfl,hp,hs,hx,Po,So,q1,q2⟩:=h
 refine' ⟨_,?hh,?rr⟩
 case hh=>refine' pss_one ?hk;(case hk=>refine' ps_ret ?hj;(case hj=>refine' pe_cmpR op_eq ?hh ?hi (nomark _);(case hh=>refine' pe_clX xe_cx C_lane_of hr ?hd rfl ?he;(case hd=>refine' pa_c (pv 0) ?hc;(case hc=>refine' pa_c (pv 1) ?hb;(case hb=>refine' pa_c (pv 2) pa_nil)));(case he=>decide));(case hi=>refine' pe_callB call_len_seq rfl T.b_len PySem.boot_len ?hg;(case hg=>refine' pa_c ?hf pa_nil;(case hf=>refine' pe_ix ix_tup (pv 0) pe_int (fun _ _=>rfl))))))
 refine ⟨_,rfl,_,rfl,_,rfl,p,sd,v,u,x,rfl,hp,hs,hx,Po,So,fun c H1 hc e1=>?_,fun hn=>(q2 hn).on⟩
 obtain ⟨b,la,ka,lv,kv,rfl,hb,hla,hls,hka,hks,el,ek⟩:=Pl.view (IsD.ext e1 hp)
 refine ⟨_,rfl,b,_,_,_,rfl,rfl,SqT.of hb,rfl,la,lv,rfl,.inr (SqT.of hla),rfl,?_⟩
 have q':=q1 c H1 hc e1
 rw [el]
 have e : decide (V.int (p.lane c) = V.int ((p.ls.length : Nat) : Int)) = decide (p.lane c = p.n):=by
  unfold Pl.n
  simp
 rw [e]
 exact q'
end
end K12
end

section
set_option Elab.async false
set_option linter.all false
set_option maxRecDepth 100000
set_option maxHeartbeats 1000000
namespace K12
open PySem PySem.Spec L2 PyProof.Rows PySem.W
section
variable {P : Program} {w : World} {K : PySem.W.Frag} {mg : Str->Option Value} {base : Heap} {CK CC : Addr}
theorem take_snoc {α : Type} {xs : List α} {i : Nat} {x : α} (h : xs[i]? = some x) : xs.take (i + 1) = xs.take i ++ [x]:=by
 rw [List.take_add_one,h];rfl
abbrev s_cards_in : Stmt:=top 23
theorem sc_cards_in : FnScope ["plan","stand","lane"] ["plan","stand","lane"] (defScope s_cards_in):=⟨rfl,rfl,rfl,by decide +kernel,rfl,by decide +kernel,by decide +kernel⟩
theorem ok_cards_in {f : Addr} {fd : FuncData} (F : Fun K "cards_in" "cards_in" s_cards_in f fd) (C_lane_at : CallOk P w K mg base "lane_at" 6 ["plan","kind","place"] spLaneAt) : FnOk P w K mg base CX0 7 f fd ["plan","stand","lane"] spIn:=by
 refine F.ok sc_cards_in (fun vs H Q E h=>?_) (fun cdv A outer s H vs Q E hr h=>?_)
 ·obtain ⟨p,sd,v,u,l,rfl,_⟩:=h
  rfl
 obtain ⟨p,sd,v,u,l,rfl,hp,hs,Po,So,q⟩:=h
 refine' ⟨_,?hh,?rr⟩
 case hh=>refine' pss_one ?hD;(case hD=>refine' ps_ret ?hC;(case hC=>refine' pe_lcomp rfl ?hu (compN ["name","kind","place","blocked","plan","lane"] 4 [0,2]) ?hv ?hw ?hx ?hy ?hz ?hA ?hB;(case hu=>exact ⟨rfl,by decide +kernel,by decide +kernel,(show ∀ y : Str × NameKind,y ∈ _->y.2 = NameKind.free->(defScope s_cards_in).names.lookup y.1 = some .cell\/(defScope s_cards_in).names.lookup y.1 = some .free from by decide +kernel)⟩);(case hv=>decide +kernel);(case hw=>decide);(case hx=>refine' pi_tup ?hb;(case hb=>refine' pe_ix ix_tup (pv 1) pe_int (fun _ _=>rfl)));(case hy=>intro _ _ _ _;refine' pg_tupK (K:=K) (n:=4) rfl rfl ?hn;(case hn=>refine' pgs_cons ?hl ?hm;(case hl=>refine' pg_name ?hc (ixAt 0) (Or.inl rfl) (Or.inr rfl);(case hc=>exact (show (["name","kind","place","blocked","plan","lane"] : List Str).Nodup from by decide +kernel)));(case hm=>refine' pgs_cons ?hj ?hk;(case hj=>refine' pg_name ?hd (ixAt 1) (Or.inl rfl) (Or.inr rfl);(case hd=>exact (show (["name","kind","place","blocked","plan","lane"] : List Str).Nodup from by decide +kernel)));(case hk=>refine' pgs_cons ?hh ?hi;(case hh=>refine' pg_name ?he (ixAt 2) (Or.inl rfl) (Or.inr rfl);(case he=>exact (show (["name","kind","place","blocked","plan","lane"] : List Str).Nodup from by decide +kernel)));(case hi=>refine' pgs_cons ?hg pgs_nil;(case hg=>refine' pg_name ?hf (ixAt 3) (Or.inl rfl) (Or.inr rfl);(case hf=>exact (show (["name","kind","place","blocked","plan","lane"] : List Str).Nodup from by decide +kernel))))))));(case hz=>exact (gown_tup (gsown_cons (by decide) (gsown_cons (by decide) (gsown_cons (by decide) (gsown_cons (by decide) gsown_nil))))));(case hA=>intro _ _ _ _;refine' pts_one ?ht;(case ht=>refine' pt_cmpR op_eq ?hs (pv 5) (nomark _);(case hs=>refine' pe_cl C_lane_at hr ?hq rfl ?hr;(case hq=>refine' pa_c (pv 4) ?hp;(case hp=>refine' pa_c (pv 1) ?ho;(case ho=>refine' pa_c (pv 2) pa_nil)));(case hr=>decide))));(case hB=>intro _ _ _ _;exact (pv 0))))
 obtain ⟨a,ba,ca,wa,cv,wv,rfl,ha,hba,hca,hcs,hwa,hws,ec,ew⟩:=Sd.view hs
 refine ⟨_,rfl,a,_,_,_,rfl,rfl,SqT.of ha,rfl,ca,rfl,⟨cv,SqT.of hca⟩,lcomp_by (yields_tup (ys:=cv)) (fun i xs H2=>Ext [] H H2/\xs = (((sd.cs.take i).filter fun c=>p.lane c == l).map (·.nm)).map V.str) ⟨Ext.refl,rfl⟩ (fun _ _ _ h=>SqT.of (h.1.tup (by simp) hca)) ?_ ?_⟩
 ·rintro i y xs H2 hy hi ⟨e,rfl⟩
  obtain ⟨c,hc,hdy⟩:=hcs.nth hy
  obtain ⟨b,rfl,hb⟩:=Cd.view (IsD.ext e hdy)
  have Co:=So.c c (List.mem_of_getElem? hc)
  obtain ⟨_,k,hk,p0,p1⟩:=id Co
  refine ⟨_,_,rfl,SqT.of hb,rfl,_,_,rfl,_,_,rfl,_,_,rfl,_,_,rfl,rfl,?_⟩
  refine ⟨_,rfl,_,rfl,_,rfl,p,v,c.kd,c.pl,k,rfl,IsD.ext e hp,COk.kd Po Co,hk,p0,fun H3 e3=>?_⟩
  refine ⟨_,rfl,rfl,_,rfl,?_⟩
  have et : decide (V.int (p.at c.kd c.pl) = V.int l) = (p.lane c == l):=by
   unfold Pl.lane
   by_cases h : p.at c.kd c.pl = l <;> simp [h]
  have tk:=take_snoc hc
  refine ite2 (fun cc=>?_) (fun cc=>?_)
  ·rw [et] at cc
   refine ⟨_,rfl,?_,nx hi ⟨e.trans e3,?_⟩⟩
   ·rw [List.length_map,List.length_map]
    refine small1000 (Nat.le_trans (List.length_filter_le _ _) ?_)
    rw [List.length_take]
    have:=So.nc
    omega
   ·rw [tk,List.filter_append,List.map_append,List.map_append]
    simp [cc]
  ·rw [et] at cc
   refine nx hi ⟨e.trans e3,?_⟩
   rw [tk,List.filter_append,List.map_append,List.map_append]
   simp [cc]
 ·rintro xs H2 ⟨e,rfl⟩ b hb
  rw [ec,List.take_length]
  exact q b _ (e.free (by simp) hb) (e.trans (Ext.new hb _)) upd_same
abbrev s_many_of : Stmt:=top 24
theorem sc_many_of : FnScope ["plan","stand","lane","kind"] ["plan","stand","lane","kind"] (defScope s_many_of):=⟨rfl,rfl,rfl,by decide +kernel,rfl,by decide +kernel,by decide +kernel⟩
theorem ok_many_of {f : Addr} {fd : FuncData} (F : Fun K "many_of" "many_of" s_many_of f fd) (T : TxP K mg) (C_lane_at : CallOk P w K mg base "lane_at" 6 ["plan","kind","place"] spLaneAt) : FnOk P w K mg base CX0 7 f fd ["plan","stand","lane","kind"] spMany:=by
 refine F.ok sc_many_of (fun vs H Q E h=>?_) (fun cdv A outer s H vs Q E hr h=>?_)
 ·obtain ⟨p,sd,v,u,l,x,k,rfl,_⟩:=h
  rfl
 obtain ⟨p,sd,v,u,l,x,k,rfl,hp,hs,Po,So,hx,hk,q⟩:=h
 refine' ⟨_,?hh,?rr⟩
 case hh=>refine' pss_one ?hC;(case hC=>refine' ps_ret ?hB;(case hB=>refine' pe_callB call_len_seq rfl T.b_len PySem.boot_len ?hA;(case hA=>refine' pa_c ?hz pa_nil;(case hz=>refine' pe_lcomp rfl ?hr (compN ["card","plan","lane","kind"] 1 [0,2,3]) ?hs ?ht ?hu ?hv ?hw ?hx ?hy;(case hr=>exact ⟨rfl,by decide +kernel,by decide +kernel,(show ∀ y : Str × NameKind,y ∈ _->y.2 = NameKind.free->(defScope s_many_of).names.lookup y.1 = some .cell\/(defScope s_many_of).names.lookup y.1 = some .free from by decide +kernel)⟩);(case hs=>decide +kernel);(case ht=>decide);(case hu=>refine' pi_tup ?hb;(case hb=>refine' pe_ix ix_tup (pv 1) pe_int (fun _ _=>rfl)));(case hv=>intro _ _ _ _;refine' pg_name ?hc (ixAt 0) (Or.inl rfl) (Or.inr rfl);(case hc=>exact (show (["card","plan","lane","kind"] : List Str).Nodup from by decide +kernel)));(case hw=>exact (gown_name (by decide)));(case hx=>intro _ _ _ _;refine' pts_one ?hq;(case hq=>refine' PW.pt ?hp;(case hp=>refine' pw_and ?hn ?ho;(case hn=>refine' pt_cmpR op_eq ?he (pv 3) (nomark _);(case he=>refine' pe_ix ?hd (pv 0) pe_int (fun _ _=>rfl);(case hd=>exact (show IxR _ (rIxT K) from ix_tup))));(case ho=>refine' pw_and1 ?hm;(case hm=>refine' pt_cmpR op_eq ?hl (pv 2) (nomark _);(case hl=>refine' pe_cl C_lane_at hr ?hj rfl ?hk;(case hj=>refine' pa_c (pv 1) ?hi;(case hi=>refine' pa_c (pv 3) ?hh;(case hh=>refine' pa_c ?hg pa_nil;(case hg=>refine' pe_ix ?hf (pv 0) pe_int (fun _ _=>rfl);(case hf=>exact (show IxR _ (rIxT K) from ix_tup))))));(case hk=>decide)))))));(case hy=>intro _ _ _ _;exact (pv 0))))))
 obtain ⟨a,ba,ca,wa,cv,wv,rfl,ha,hba,hca,hcs,hwa,hws,ec,ew⟩:=Sd.view hs
 refine ⟨_,rfl,a,_,_,_,rfl,rfl,SqT.of ha,rfl,ca,rfl,⟨cv,SqT.of hca⟩,lcomp_by (yields_tup (ys:=cv)) (fun i xs H2=>Ext [] H H2/\xs.length = ((sd.cs.take i).filter fun c=>c.kd == x && p.at x c.pl == l).length) ⟨Ext.refl,rfl⟩ (fun _ _ _ h=>SqT.of (h.1.tup (by simp) hca)) ?_ ?_⟩
 ·rintro i y xs H2 hy hi ⟨e,hxs⟩
  obtain ⟨c,hc,hdy⟩:=hcs.nth hy
  obtain ⟨b,rfl,hb⟩:=Cd.view (IsD.ext e hdy)
  have Co:=So.c c (List.mem_of_getElem? hc)
  obtain ⟨_,k',hk',p0,p1⟩:=id Co
  have tk:=take_snoc hc
  refine ⟨_,rfl,b,_,_,.str c.kd,rfl,rfl,SqT.of hb,rfl,_,rfl,rfl,_,rfl,?_⟩
  have small : ((sd.cs.take i).filter fun c=>c.kd == x && p.at x c.pl == l).length <= 900:=by
   refine Nat.le_trans (List.length_filter_le _ _) ?_
   rw [List.length_take]
   have:=So.nc
   omega
  refine ite2 (fun cc=>?_) (fun cc=>?_)
  ·have ck : c.kd = x:=by simpa using cc
   refine ⟨_,rfl,_,rfl,_,rfl,b,_,_,.int c.pl,rfl,rfl,SqT.of hb,rfl,p,v,x,c.pl,k,rfl,IsD.ext e hp,hx,hk,p0,fun H3 e3=>?_⟩
   refine ⟨_,rfl,rfl,_,rfl,?_⟩
   refine ite2 (fun c2=>?_) (fun c2=>?_)
   ·have c2' : p.at x c.pl = l:=by simpa using c2
    refine ⟨_,rfl,small1000 (by omega),nx hi ⟨e.trans e3,?_⟩⟩
    rw [tk,List.filter_append,List.length_append,List.length_append,hxs]
    simp [ck,c2']
   ·have c2' : ¬ p.at x c.pl = l:=by simpa using c2
    refine nx hi ⟨e.trans e3,?_⟩
    rw [tk,List.filter_append,List.length_append,hxs]
    simp [c2']
  ·have ck : ¬ c.kd = x:=by simpa using cc
   refine nx hi ⟨e,?_⟩
   rw [tk,List.filter_append,List.length_append,hxs]
   simp [ck]
 ·rintro xs H2 ⟨e,hxs⟩ b hb
  rw [ec,List.take_length] at hxs
  refine ⟨b,xs,rfl,.inl (SqL.of upd_same),?_⟩
  rw [hxs]
  exact q _ (e.trans (Ext.new hb _))
abbrev s_kind_bound : Stmt:=top 16
theorem sc_kind_bound : FnScope ["plan","kind","lane","name","way","bounds"] ["plan","kind","lane"] (defScope s_kind_bound):=⟨rfl,rfl,rfl,by decide +kernel,rfl,by decide +kernel,by decide +kernel⟩
theorem ok_kind_bound {f : Addr} {fd : FuncData} (F : Fun K "kind_bound" "kind_bound" s_kind_bound f fd) (C_kind_of : CallOkX P w K mg base "kind_of" 4 ["plan","kind"] (spKind CK)) : FnOk P w K mg base CX0 5 f fd ["plan","kind","lane"] spKB:=by
 refine F.ok sc_kind_bound (fun vs H Q E h=>?_) (fun cdv A outer s H vs Q E hr h=>?_)
 ·obtain ⟨p,v,x,l,k,j,b,rfl,_⟩:=h
  rfl
 obtain ⟨p,v,x,l,k,j,b,rfl,hp,hx,hk,hj,hb4,hbj,q⟩:=h
 refine' ⟨_,?hh,?rr⟩
 case hh=>refine' pss_cons ?hq ?hr;(case hq=>refine' ps_asg ?hk ?hl;(case hk=>refine' pe_clX xe_never C_kind_of hr ?hc rfl ?hd;(case hc=>refine' pa_c (pv 0) ?hb;(case hb=>refine' pa_c (pv 1) pa_nil));(case hd=>decide));(case hl=>refine' pg_tup rfl ?hj;(case hj=>refine' pgs_cons ?hh ?hi;(case hh=>refine' pg_name sc_kind_bound.nd (ixAt 3) (Or.inl rfl) (Or.inl rfl));(case hi=>refine' pgs_cons ?hf ?hg;(case hf=>refine' pg_name sc_kind_bound.nd (ixAt 4) (Or.inl rfl) (Or.inl rfl));(case hg=>refine' pgs_cons ?he pgs_nil;(case he=>refine' pg_name sc_kind_bound.nd (ixAt 5) (Or.inl rfl) (Or.inl rfl)))))));(case hr=>refine' pss_one ?hp;(case hp=>refine' ps_ret ?ho;(case ho=>refine' pe_ix ix_tup (pv 5) ?hn (fun _ _=>rfl);(case hn=>refine' pe_bmT PySem.F.plainAttrs_tuple PySem.F.slot_tuple_index PySem.F.type_tuple_index mt_indexT (pv 4) ?hm;(case hm=>refine' pa_c (pv 2) pa_nil)))))
 refine ⟨_,rfl,_,rfl,p,v,x,rfl,hp,hx,fun k' u H1 hk' e1 hu=>?_,fun hn=>by rw [hk] at hn;cases hn⟩
 rw [hk] at hk'
 cases hk'
 obtain ⟨c,wa,ba,rfl,hc,hwa,hba⟩:=Kd.view hu
 refine ⟨_,_,rfl,SqT.of hc,rfl,_,_,rfl,_,_,rfl,_,_,rfl,rfl,?_⟩
 refine ⟨_,rfl,_,rfl,⟨wa,_,rfl,hwa⟩,_,rfl,wa,_,_,j,rfl,rfl,SqT.of hwa,rfl,?_,⟨⟨.int l,by rw [List.getElem?_map,hj];rfl,?_⟩,fun m y hm hy=>?_⟩,ba,_,_,.int b,rfl,rfl,SqT.of hba,atI_nat (j:=j) (by rw [List.getElem?_map,hbj];rfl),q H1 e1⟩
 ·rw [List.all_map]
  exact List.all_eq_true.mpr fun _ _=>rfl
 ·show eqV (.int l) (.int l) = true
  simp [eqV]
 ·rw [List.getElem?_map] at hy
  cases hw : k.way[m]? with
  | none=>rw [hw] at hy;cases hy
  | some w' =>
   rw [hw] at hy
   obtain rfl:=Option.some.inj hy
   have:=hb4 m w' hm hw
   show eqV (.int w') (.int l) = false
   simp [eqV,this]
end
end K12
end

section
set_option Elab.async false
set_option linter.all false
set_option maxRecDepth 100000
namespace L2
open PySem PySem.Spec PyProof.Rows PySem.W
inductive Ref where
 | noCard
 | out
 | blocked
 | waits (o : Str)
 | full (l : Str) (b : Int)
 | kindFull (l k : Str) (b : Int)
 | inYard
structure XCs where
 NC : Addr
 Ou : Addr
 Bl : Addr
 Wa : Addr
 Fu : Addr
 KF : Addr
 IY : Addr
def Ref.cls (c : XCs) : Ref->Addr
 | .noCard=>c.NC
 | .out=>c.Ou
 | .blocked=>c.Bl
 | .waits _=>c.Wa
 | .full _ _=>c.Fu
 | .kindFull _ _ _=>c.KF
 | .inYard=>c.IY
def Ref.fs (x : Str) : Ref->List (Str × V)
 | .waits o=>[("card",.str x),("other",.str o)]
 | .full l b=>[("lane",.str l),("bound",.int b)]
 | .kindFull l k b=>[("lane",.str l),("kind",.str k),("bound",.int b)]
 | _=>[("card",.str x)]
def Sd.out (s : Sd) (p : Pl) (x : Str) : Bool:=match s.cd? x with
 | some c=>decide (p.lane c = p.n)
 | none=>false
def bars (p : Pl) (s : Sd) (x : Str) (l : Int) (w : Wt) : Bool:=w.cd == x && (decide (w.ln <= l) && !s.out p w.ot)
def Pl.kb (p : Pl) (x : Str) (l : Int) : Int:=match p.kd? x with
 | some k=>k.bds.getD (k.way.findIdx (· == l)) 0
 | none=>0
def fullD (p : Pl) (s : Sd) (l : Int) (x : Str) : Option Ref :=
 if 0 <= l/\l < p.n then
  if s.bs.getD l.toNat 0 <= ((s.inL p l).length : Int) then some (.full (p.ls.getD l.toNat ("",0)).1 (s.bs.getD l.toNat 0))
  else if p.kb x l <= (s.many p l x : Int) then some (.kindFull (p.ls.getD l.toNat ("",0)).1 x (p.kb x l)) else none
 else none
def movD (p : Pl) (s : Sd) (x : Str) : Except Ref Cd:=match s.cd? x with
 | none=>.error .noCard
 | some c=>if p.lane c = p.n then .error .out else if c.bk = true then .error .blocked else .ok c
def pullD (p : Pl) (s : Sd) (x : Str) : Except Ref Cd:=match movD p s x with
 | .error r=>.error r
 | .ok c=>match s.ws.find? (bars p s x (p.at c.kd (c.pl + 1))) with
  | some w=>.error (.waits w.ot)
  | none=>match fullD p s (p.at c.kd (c.pl + 1)) c.kd with
   | some r=>.error r
   | none=>.ok { c with pl:=c.pl + 1 }
def backD (p : Pl) (s : Sd) (x : Str) : Except Ref Cd:=match movD p s x with
 | .error r=>.error r
 | .ok c=>if c.pl = 0 then .error .inYard else match fullD p s (p.at c.kd (c.pl - 1)) c.kd with
  | some r=>.error r
  | none=>.ok { c with pl:=c.pl - 1 }
structure BOk (p : Pl) (s : Sd) : Prop where
 b : ∀ b ∈ s.bs,Says (.int b)
 k : ∀ k ∈ p.ks,∀ b ∈ k.bds,Says (.int b)
theorem says_small : ∀ n : Nat,n < 102->(Str.ofString (toString ((n : Int) - 2))).length <= 1000:=by decide +kernel
theorem says_int {b : Int} (h0 : -2 <= b) (h1 : b < 100) : Says (.int b):=by
 have hl : b.natAbs.log2 < 1920:=by
  have : b.natAbs <= 100:=by omega
  by_cases h : b.natAbs = 0
  ·rw [h];decide
  ·refine Nat.lt_of_lt_of_le ((Nat.log2_lt h (k:=7)).mpr ?_) (by decide)
   show b.natAbs < 128
   omega
 refine ⟨_,if_pos hl,?_⟩
 have:=says_small (b + 2).toNat (by omega)
 rw [show (((b + 2).toNat : Nat) : Int) - 2 = b by omega] at this
 exact this
theorem mov_ok {p : Pl} {s : Sd} {x : Str} {c : Cd} (h : movD p s x = .ok c) : s.cd? x = some c/\p.lane c ≠ p.n/\c.bk = false:=by
 unfold movD at h
 cases hc : s.cd? x with
 | none=>rw [hc] at h;cases h
 | some c' =>
  rw [hc] at h
  dsimp only at h
  split at h
  ·cases h
  ·split at h
   ·cases h
   ·rename_i h1 h2
    cases h
    exact ⟨rfl,h1,by simpa using h2⟩
theorem not_out {p : Pl} {c : Cd} {k : Kd} (hk : p.kd? c.kd = some k) (h1 : c.pl <= k.way.length + 1) (h : p.lane c ≠ p.n) : c.pl <= k.way.length:=by
 by_cases h2 : c.pl <= k.way.length
 ·exact h2
 ·exact absurd (at_out hk (by omega)) h
theorem at_mem {p : Pl} {x : Str} {k : Kd} {j : Int} (hk : p.kd? x = some k) (h0 : 0 <= j) (hl : 0 <= p.at x j) (hn : p.at x j < p.n) : p.at x j ∈ k.way:=by
 by_cases h1 : j = 0
 ·rw [h1,at_zero] at hl;omega
 ·by_cases h2 : (k.way.length : Int) < j
  ·rw [at_out hk h2] at hn;omega
  ·obtain ⟨w,hw,e⟩:=at_way (j:=j) hk (by omega) (by omega)
   rw [e]
   exact List.mem_of_getElem? hw
theorem idx_first {l : Int} {w : List Int} (h : l ∈ w) : w[w.findIdx (· == l)]? = some l/\∀ m x,m < w.findIdx (· == l)->w[m]? = some x->x ≠ l:=by
 have hlt : w.findIdx (· == l) < w.length:=List.findIdx_lt_length_of_exists ⟨l,h,by simp⟩
 refine ⟨?_,fun m x hm hx=>?_⟩
 ·rw [List.getElem?_eq_getElem hlt]
  have:=List.findIdx_getElem (p:=(· == l)) (xs:=w) (w:=hlt)
  simpa using this
 ·have hml : m < w.length:=by omega
  have:=List.not_of_lt_findIdx (p:=(· == l)) (xs:=w) hm
  rw [List.getElem?_eq_getElem hml] at hx
  cases hx
  simpa using this
end L2
end

section
set_option Elab.async false
set_option linter.all false
set_option maxRecDepth 100000
set_option maxHeartbeats 1000000
namespace K12
open PySem PySem.Spec L2 PyProof.Rows PySem.W
def spMay : Sp:=fun vs H Q _=>∃ (p : Pl) (v : V) (l : Int),vs = [v,.int l]/\IsD [] H p.d v/\Q (.bl (decide (0 <= l) && decide (l <= p.n))) H
def spHolds : Sp:=fun vs H Q _=>∃ (p : Pl) (s : Sd) (v u wu : V) (w : Wt) (c : Cd) (o : Cd),vs = [v,u,wu]/\IsD [] H p.d v/\IsD [] H s.d u/\IsD [] H w.d wu/\POk p/\SOk p s/\s.cd? w.cd = some c/\s.cd? w.ot = some o/\w.cd.length <= 1000/\w.ot.length <= 1000 /\
 ∀ H',Ext [] H H'->Q (.bl (decide (p.lane c < w.ln) || decide (p.lane o = p.n))) H'
def spMove (k : XCs) : Sp:=fun vs H Q E=>∃ (p : Pl) (s : Sd) (v u : V) (x : Str),vs = [v,u,.str x]/\IsD [] H p.d v/\IsD [] H s.d u/\x.length <= 1000/\POk p/\SOk p s /\
 (∀ c cu H',movD p s x = .ok c->Ext [] H H'->IsD [] H' c.d cu->Q cu H')/\∀ r,movD p s x = .error r->XFs (r.cls k) (r.fs x) H E
def spBar (k : XCs) : Sp:=fun vs H Q E=>∃ (p : Pl) (s : Sd) (v u : V) (x : Str) (l : Int),vs = [v,u,.str x,.int l]/\IsD [] H p.d v/\IsD [] H s.d u/\x.length <= 1000/\POk p/\SOk p s /\
 (s.ws.find? (bars p s x l) = none->∀ H',Ext [] H H'->Q .non H')/\∀ w,s.ws.find? (bars p s x l) = some w->XFs k.Wa [("card",.str x),("other",.str w.ot)] H E
def spFull (k : XCs) : Sp:=fun vs H Q E=>∃ (p : Pl) (s : Sd) (v u : V) (l : Int) (x z : Str) (kd : Kd),vs = [v,u,.int l,.str x]/\IsD [] H p.d v/\IsD [] H s.d u/\x.length <= 1000/\POk p/\SOk p s/\BOk p s/\p.kd? x = some kd/\(0 <= l->l < p.n->l ∈ kd.way) /\
 (fullD p s l x = none->∀ H',Ext [] H H'->Q .non H')/\∀ r,fullD p s l x = some r->XFs (r.cls k) (r.fs z) H E
section
variable {P : Program} {w : World} {K : PySem.W.Frag} {mg : Str->Option Value} {base : Heap} {CK CC : Addr} {k : XCs}
abbrev s_may_wait_at : Stmt:=top 28
theorem sc_may_wait_at : FnScope ["plan","lane"] ["plan","lane"] (defScope s_may_wait_at):=⟨rfl,rfl,rfl,by decide +kernel,rfl,by decide +kernel,by decide +kernel⟩
theorem ok_may_wait {f : Addr} {fd : FuncData} (F : Fun K "may_wait_at" "may_wait_at" s_may_wait_at f fd) (T : TxP K mg) : FnOk P w K mg base CX0 1 f fd ["plan","lane"] spMay:=by
 refine F.ok sc_may_wait_at (fun vs H Q E h=>?_) (fun cdv A outer s H vs Q E hr h=>?_)
 ·obtain ⟨p,v,l,rfl,_⟩:=h
  rfl
 obtain ⟨p,v,l,rfl,hp,q⟩:=h
 refine' ⟨_,?hh,?rr⟩
 case hh=>refine' pss_one ?hf;(case hf=>refine' ps_ret ?he;(case he=>refine' pe_chain op_le op_le pe_int (pv 1) ?hd;(case hd=>refine' pe_callB call_len_seq rfl T.b_len PySem.boot_len ?hc;(case hc=>refine' pa_c ?hb pa_nil;(case hb=>refine' pe_ix ix_tup (pv 0) pe_int (fun _ _=>rfl))))))
 obtain ⟨b,la,ka,lv,kv,rfl,hb,hla,hls,hka,hks,el,ek⟩:=Pl.view hp
 refine ⟨_,rfl,_,_,rfl,rfl,_,rfl,?_⟩
 refine ite2 (fun cc=>?_) (fun cc=>?_)
 ·refine ⟨_,rfl,b,_,_,_,rfl,rfl,SqT.of hb,rfl,la,lv,rfl,.inr (SqT.of hla),_,_,rfl,rfl,?_⟩
  rw [cc,Bool.true_and] at q
  rw [el]
  exact q
 ·rw [Bool.eq_false_iff.mpr cc,Bool.false_and] at q
  exact q
abbrev s_holds : Stmt:=top 29
theorem sc_holds : FnScope ["plan","stand","wait","card","lane","other"] ["plan","stand","wait"] (defScope s_holds):=⟨rfl,rfl,rfl,by decide +kernel,rfl,by decide +kernel,by decide +kernel⟩
theorem ok_holds {f : Addr} {fd : FuncData} (F : Fun K "holds" "holds" s_holds f fd) (C_lane_of : CallOkX P w K mg base "lane_of" 7 ["plan","stand","card"] (spLaneOf CC)) (C_is_out : CallOkX P w K mg base "is_out" 8 ["plan","stand","card"] (spOut CC)) : FnOk P w K mg base CX0 9 f fd ["plan","stand","wait"] spHolds:=by
 refine F.ok sc_holds (fun vs H Q E h=>?_) (fun cdv A outer s H vs Q E hr h=>?_)
 ·obtain ⟨p,sd,v,u,wu,wt,c,o,rfl,_⟩:=h
  rfl
 obtain ⟨p,sd,v,u,wu,wt,c,o,rfl,hp,hs,hw,Po,So,hc,ho,l1,l2,q⟩:=h
 refine' ⟨_,?hh,?rr⟩
 case hh=>refine' pss_cons ?hw ?hx;(case hw=>refine' ps_asg (pv 2) ?hh;(case hh=>refine' pg_tup rfl ?hg;(case hg=>refine' pgs_cons ?he ?hf;(case he=>refine' pg_name sc_holds.nd (ixAt 3) (Or.inl rfl) (Or.inl rfl));(case hf=>refine' pgs_cons ?hc ?hd;(case hc=>refine' pg_name sc_holds.nd (ixAt 4) (Or.inl rfl) (Or.inl rfl));(case hd=>refine' pgs_cons ?hb pgs_nil;(case hb=>refine' pg_name sc_holds.nd (ixAt 5) (Or.inl rfl) (Or.inl rfl)))))));(case hx=>refine' pss_one ?hv;(case hv=>refine' ps_ret ?hu;(case hu=>refine' pe_or ?hs ?ht;(case hs=>refine' pe_cmpR op_lt ?hm (pv 4) (nomark _);(case hm=>refine' pe_clX xe_never C_lane_of hr ?hk rfl ?hl;(case hk=>refine' pa_c (pv 0) ?hj;(case hj=>refine' pa_c (pv 1) ?hi;(case hi=>refine' pa_c (pv 3) pa_nil)));(case hl=>decide)));(case ht=>refine' pe_one ?hr;(case hr=>refine' pe_clX xe_never C_is_out hr ?hp rfl ?hq;(case hp=>refine' pa_c (pv 0) ?ho;(case ho=>refine' pa_c (pv 1) ?hn;(case hn=>refine' pa_c (pv 5) pa_nil)));(case hq=>decide))))))
 obtain ⟨a,rfl,ha⟩:=Wt.view hw
 refine ⟨_,rfl,_,_,rfl,SqT.of ha,rfl,_,_,rfl,_,_,rfl,_,_,rfl,rfl,?_⟩
 refine ⟨_,rfl,_,rfl,_,rfl,p,sd,v,u,wt.cd,rfl,hp,hs,l1,Po,So,fun c' H1 hc' e1=>?_,fun hn=>by rw [hc] at hn;cases hn⟩
 rw [hc] at hc'
 cases hc'
 refine ⟨_,rfl,_,_,rfl,rfl,_,rfl,?_⟩
 refine ite2 (fun cc=>?_) (fun cc=>?_)
 ·have q':=q H1 e1
  rw [cc,Bool.true_or] at q'
  exact q'
 ·refine ⟨_,rfl,_,rfl,_,rfl,p,sd,v,u,wt.ot,rfl,IsD.ext e1 hp,IsD.ext e1 hs,l2,Po,So,fun o' H2 ho' e2=>?_,fun hn=>by rw [ho] at hn;cases hn⟩
  rw [ho] at ho'
  cases ho'
  have q':=q H2 (e1.trans e2)
  rw [Bool.eq_false_iff.mpr cc,Bool.false_or] at q'
  exact q'
abbrev s_card_that_can_move : Stmt:=top 33
theorem sc_card_that_can_move : FnScope ["plan","stand","card","told"] ["plan","stand","card"] (defScope s_card_that_can_move):=⟨rfl,rfl,rfl,by decide +kernel,rfl,by decide +kernel,by decide +kernel⟩
theorem ok_move {f : Addr} {fd : FuncData} (F : Fun K "card_that_can_move" "card_that_can_move" s_card_that_can_move f fd) (M_Out : MakeOk P w K mg base "Out" k.Ou 2 ["self","card"] (spIniN k.Ou ["card"])) (M_Blocked : MakeOk P w K mg base "Blocked" k.Bl 2 ["self","card"] (spIniN k.Bl ["card"])) (r1 : raisesIn K k.Ou = true) (r2 : raisesIn K k.Bl = true)
  (C_card_of : CallOkX P w K mg base "card_of" 4 ["stand","card"] (spCard k.NC)) (C_is_out : CallOkX P w K mg base "is_out" 8 ["plan","stand","card"] (spOut k.NC)) : FnOk P w K mg base (CXF P w) 9 f fd ["plan","stand","card"] (spMove k):=by
 refine F.okX sc_card_that_can_move (fun vs H Q E h=>?_) (fun cdv A outer s H vs Q E hr h=>?_)
 ·obtain ⟨p,sd,v,u,x,rfl,_⟩:=h
  rfl
 obtain ⟨p,sd,v,u,x,rfl,hp,hs,hx,Po,So,q1,q2⟩:=h
 refine' ⟨_,?hh,?rr⟩
 case hh=>refine' pss_cons ?hC ?hD;(case hC=>refine' ps_set sc_card_that_can_move.nd (ixAt 3) (Or.inl rfl) ?he;(case he=>refine' pe_clX xe_cx C_card_of hr ?hc rfl ?hd;(case hc=>refine' pa_c (pv 1) ?hb;(case hb=>refine' pa_c (pv 2) pa_nil));(case hd=>decide)));(case hD=>refine' pss_cons ?hA ?hB;(case hA=>refine' ps_if ?ho ?hp pss_nil;(case ho=>refine' pt_val ?hj;(case hj=>refine' pe_clX xe_cx C_is_out hr ?hh rfl ?hi;(case hh=>refine' pa_c (pv 0) ?hg;(case hg=>refine' pa_c (pv 1) ?hf;(case hf=>refine' pa_c (pv 2) pa_nil)));(case hi=>decide)));(case hp=>refine' pss_one ?hn;(case hn=>refine' ps_raise xe_cx ?hm;(case hm=>refine' pe_makeX M_Out hr ?hk rfl ?hl;(case hk=>refine' pa_c (pv 2) pa_nil);(case hl=>decide)))));(case hB=>refine' pss_cons ?hy ?hz;(case hy=>refine' ps_if ?hv ?hw pss_nil;(case hv=>refine' pt_val ?hq;(case hq=>refine' pe_ix ix_tup (pv 3) pe_int (fun _ _=>rfl)));(case hw=>refine' pss_one ?hu;(case hu=>refine' ps_raise xe_cx ?ht;(case ht=>refine' pe_makeX M_Blocked hr ?hr rfl ?hs;(case hr=>refine' pa_c (pv 2) pa_nil);(case hs=>decide)))));(case hz=>refine' pss_one ?hx;(case hx=>refine' ps_ret (pv 3)))))
 refine ⟨_,rfl,_,rfl,sd,u,x,rfl,hs,hx,fun c cu H1 hc e1 hcu=>?_,fun hn=>XFs.on (q2 .noCard (by unfold movD;rw [hn]))⟩
 have em : movD p sd x = if p.lane c = p.n then .error .out else if c.bk = true then .error .blocked else .ok c:=by unfold movD;rw [hc]
 refine ⟨_,rfl,_,rfl,_,rfl,p,sd,v,u,x,rfl,IsD.ext e1 hp,IsD.ext e1 hs,hx,Po,So,fun c' H2 hc' e2=>?_,fun hn=>by rw [hc] at hn;cases hn⟩
 rw [hc] at hc'
 cases hc'
 refine ⟨_,rfl,ite2 (fun cc=>?_) (fun cc=>?_)⟩
 ·have cc' : p.lane c = p.n:=of_decide_eq_true cc
  rw [if_pos cc'] at em
  exact ⟨_,rfl,raise_x ["card"] [.str x] (q2 _ em) (e1.trans e2) (says1 (says_str hx)) r1⟩
 have cc' : ¬ p.lane c = p.n:=fun z=>cc (decide_eq_true z)
 rw [if_neg cc'] at em
 have hcu2:=IsD.ext e2 hcu
 obtain ⟨a,rfl,ha⟩:=Cd.view hcu2
 refine ⟨_,rfl,a,_,_,.bl c.bk,rfl,rfl,SqT.of ha,rfl,_,rfl,ite2 (fun c2=>?_) (fun c2=>?_)⟩
 ·rw [if_pos c2] at em
  exact ⟨_,rfl,raise_x ["card"] [.str x] (q2 _ em) (e1.trans e2) (says1 (says_str hx)) r2⟩
 ·rw [if_neg c2] at em
  exact ⟨_,rfl,q1 c _ H2 em (e1.trans e2) hcu2⟩
abbrev s_refuse_if_it_waits : Stmt:=top 34
theorem sc_refuse_if_it_waits : FnScope ["plan","stand","card","lane","waiting","barred","other"] ["plan","stand","card","lane"] (defScope s_refuse_if_it_waits):=⟨rfl,rfl,rfl,by decide +kernel,rfl,by decide +kernel,by decide +kernel⟩
theorem ok_bar {f : Addr} {fd : FuncData} (F : Fun K "refuse_if_it_waits" "refuse_if_it_waits" s_refuse_if_it_waits f fd) (M_Waits : MakeOk P w K mg base "Waits" k.Wa 2 ["self","card","other"] (spIniN k.Wa ["card","other"])) (r1 : raisesIn K k.Wa = true)
  (C_is_out : CallOkX P w K mg base "is_out" 8 ["plan","stand","card"] (spOut CC)) : FnOk P w K mg base (CXF P w) 9 f fd ["plan","stand","card","lane"] (spBar k):=by
 refine F.okX sc_refuse_if_it_waits (fun vs H Q E h=>?_) (fun cdv A outer s H vs Q E hr h=>?_)
 ·obtain ⟨p,sd,v,u,x,l,rfl,_⟩:=h
  rfl
 obtain ⟨p,sd,v,u,x,l,rfl,hp,hs,hx,Po,So,q1,q2⟩:=h
 refine' ⟨_,?hh,?rr⟩
 case hh=>refine' pss_one ?hF;(case hF=>refine' ps_for PassesOwn.leaving rfl ?hC ?hD ?hE;(case hC=>refine' pi_tup ?hb;(case hb=>refine' pe_ix ix_tup (pv 1) pe_int (fun _ _=>rfl)));(case hD=>refine' pg_tup rfl ?hh;(case hh=>refine' pgs_cons ?hf ?hg;(case hf=>refine' pg_name sc_refuse_if_it_waits.nd (ixAt 4) (Or.inl rfl) (Or.inl rfl));(case hg=>refine' pgs_cons ?hd ?he;(case hd=>refine' pg_name sc_refuse_if_it_waits.nd (ixAt 5) (Or.inl rfl) (Or.inl rfl));(case he=>refine' pgs_cons ?hc pgs_nil;(case hc=>refine' pg_name sc_refuse_if_it_waits.nd (ixAt 6) (Or.inl rfl) (Or.inl rfl))))));(case hE=>refine' pss_one ?hB;(case hB=>refine' ps_if ?hz ?hA pss_nil;(case hz=>refine' PW.pt ?ht;(case ht=>refine' pw_and ?hr ?hs;(case hr=>refine' pt_cmpR op_eq (pv 4) (pv 2) (nomark _));(case hs=>refine' pw_and ?hp ?hq;(case hp=>refine' pt_cmpR op_le (pv 5) (pv 3) (nomark _));(case hq=>refine' pw_and1 ?ho;(case ho=>refine' pt_not ?hn;(case hn=>refine' pt_val ?hm;(case hm=>refine' pe_clX xe_cx C_is_out hr ?hk rfl ?hl;(case hk=>refine' pa_c (pv 0) ?hj;(case hj=>refine' pa_c (pv 1) ?hi;(case hi=>refine' pa_c (pv 6) pa_nil)));(case hl=>decide))))))));(case hA=>refine' pss_one ?hy;(case hy=>refine' ps_raise xe_cx ?hx;(case hx=>refine' pe_makeX M_Waits hr ?hv rfl ?hw;(case hv=>refine' pa_c (pv 2) ?hu;(case hu=>refine' pa_c (pv 6) pa_nil));(case hw=>decide)))))))
 obtain ⟨a,ba,ca,wa,cv,wv,rfl,ha,hba,hca,hcs,hwa,hws,ec,ew⟩:=Sd.view hs
 refine ⟨_,rfl,a,_,_,_,rfl,rfl,SqT.of ha,rfl,wa,rfl,⟨wv,SqT.of hwa⟩,for_tup (xs:=wv) (fun i σ H2=>∃ (n1 n2 n3 : Option V),σ = [some v,some (V.ref a),some (V.str x),some (V.int l),n1,n2,n3]/\Ext [] H H2/\∀ j t,j < i->sd.ws[j]? = some t->bars p sd x l t = false) ⟨none,none,none,rfl,Ext.refl,fun j d hj=>absurd hj (Nat.not_lt_zero j)⟩ (fun i σ H2 _ ⟨_,_,_,_,e,_⟩=>SqT.of (e.tup (by simp) hwa)) ?_ ?_⟩
 ·rintro i y σ H2 hy ⟨n1,n2,n3,rfl,e,hw⟩
  obtain ⟨t,ht,hdy⟩:=hws.nth hy
  obtain ⟨b,rfl,hb⟩:=Wt.view (IsD.ext e hdy)
  obtain ⟨i1,i2,i3,i4⟩:=So.w t (List.mem_of_getElem? ht)
  have nextBy : bars p sd x l t = false->∀ j t',j < i + 1->sd.ws[j]? = some t'->bars p sd x l t' = false:=fun hf j t' hj ht'=>by
   by_cases hji : j = i
   ·subst hji
    rw [ht] at ht'
    cases ht'
    exact hf
   ·exact hw j t' (by omega) ht'
  refine ⟨_,_,rfl,SqT.of hb,rfl,_,_,rfl,_,_,rfl,_,_,rfl,rfl,?_⟩
  refine ⟨_,rfl,_,rfl,rfl,_,rfl,?_⟩
  refine ite2 (fun cc=>?_) (fun cc=>?_)
  ·have c1 : (t.cd == x) = true:=by simpa using cc
   refine ⟨_,rfl,_,rfl,_,_,rfl,rfl,_,rfl,?_⟩
   refine ite2 (fun cc=>?_) (fun cc=>?_)
   ·refine ⟨_,rfl,_,rfl,_,rfl,p,sd,v,_,t.ot,rfl,IsD.ext e hp,IsD.ext e hs,i4,Po,So,fun o H3 ho e3=>?_,fun hn=>by rw [hn] at i2;cases i2⟩
    have eo : sd.out p t.ot = decide (p.lane o = p.n):=by unfold Sd.out;rw [ho]
    have eb : bars p sd x l t = !decide (p.lane o = p.n):=by
     unfold bars
     rw [c1,cc,eo]
     simp
    refine ⟨_,rfl,?_⟩
    refine ite2 (fun c3=>?_) (fun c3=>?_)
    ·rw [c3] at eb
     exact ⟨_,rfl,_,rfl,raise_x ["card","other"] [.str x,.str t.ot] (q2 t (find_at sd.ws i t hw ht eb)) (e.trans e3) (says2 (says_str hx) (says_str i4)) r1⟩
    ·rw [Bool.eq_false_iff.mpr c3] at eb
     exact ⟨_,_,_,rfl,e.trans e3,nextBy eb⟩
   ·refine ⟨_,_,_,rfl,e,nextBy ?_⟩
    unfold bars
    rw [Bool.eq_false_iff.mpr cc]
    simp
  ·refine ⟨_,_,_,rfl,e,nextBy ?_⟩
   have c1 : (t.cd == x) = false:=by simpa using cc
   unfold bars
   rw [c1]
   rfl
 ·rintro σ H2 ⟨n1,n2,n3,rfl,e,hw⟩
  exact q1 (find_no sd.ws _ hw (by omega)) H2 e
end
end K12
end

section
set_option Elab.async false
set_option linter.all false
set_option maxRecDepth 100000
namespace L2
open PySem PySem.Spec PyProof.Rows
def gtR (Fin : Shared->Prop) : GenEnd:=fun _ _ r s₁=>r = .ok .next/\Fin s₁
def gtY (Ok : Value->Shared->(Shared->Prop)->Prop) : Protocol:=fun _ _ v s₁ kap=>Ok v s₁ fun s₂=>kap (.send .none) s₂
def GtOk (Xg : Cx) (pa : List (Addr × Obj)) (σg : St) (D : Addr) (fp : List Addr) : Value->Shared->(Shared->Prop)->Prop:=fun v s₁ C=>∃ x acc H,RelV x v/\Inv Xg pa σg H s₁/\H D = some (.lst acc)/\acc.length < sizeLine /\
 ∀ s₂,Inv Xg pa σg (upd H D (.lst (acc ++ [x]))) s₂->(∀ b ∈ fp,∀ o,s₁.heap.get? b = some o->s₂.heap.get? b = some o)->C s₂
section
variable {Xg : Cx} {A : Around} {elt tg iter : Expr} {ifs : List Expr} {scope : Scope} {pos : Pos} {it : Addr} {J : It} {fp : List Addr} {tn : Nat->Heap->Prop} {g : TG} {tt : TT} {te : TE} {k : Nat} {σg : St} {D : Addr} {pa : List (Addr × Obj)}
theorem seg_turnT (hA : Xg.A = A.over (.compLoop (.GeneratorExp elt [⟨tg,iter,ifs,0⟩] scope pos) 0 (.ref it) .none Xg.env) []) (hxe : Xg.xe = fun _ _=>False) (hco : Xg.env.scope.isCoroutine = false) (hc : Xg.calm = true)
  (hg : PG Xg tg g) (gk : GOwn k g) (ht : PTs Xg ifs tt) (he : PE Xg elt te) (T : Turn Xg.prog Xg.w Xg.K tg J fp it tn) (hk : k <= σg.length) (hown : ∀ (j : Nat) (v : V),σg[j]? = some (some v)->k <= j)
  (fpok : ∀ H' : Hp,(∀ b ∈ fp,H' b = none)->∀ b ∈ fp,FpOk Xg pa H' b) (W : Nat->Nat->List V->Hp->Prop) (Qt : List V->Hp->Prop)
  (turn : ∀ i m xs H,W i m xs H->(J.stop i H/\Qt xs H)\/(J.go i H/\∀ x H',J.yld i H x H'->g x σg H' fun σ2 H2=>tt σ2 H2 fun b H3=>if b = true then te σ2 H3 fun v H4=>H4 D = some (.lst xs)/\xs.length < sizeLine/\∃ m',m' < m/\W (i + 1) m' (xs ++ [v]) (upd H4 D (.lst (xs ++ [v]))) else ∃ m',m' < m/\W (i + 1) m' xs H3)) :
  ∀ (m n : Nat),m < n->∀ (i : Nat) (xs : List V) (H : Hp) (s s₀ : Shared),W i m xs H->Inv Xg pa σg H s->tn i s.heap->(∀ b ∈ fp,H b = none) ->
   Seg (model Xg.prog Xg.w) A (gtR fun s'=>∃ H',Inv Xg pa σg H' s'/\∃ xs,Qt xs H') (gtY (GtOk Xg pa σg D fp)) n s₀
    (.compLoop (.GeneratorExp elt [⟨tg,iter,ifs,0⟩] scope pos) 0 (.ref it) .none Xg.env) ((model Xg.prog Xg.w).den (.compLoop (.GeneratorExp elt [⟨tg,iter,ifs,0⟩] scope pos) 0 (.ref it) .none Xg.env)) [] s:=by
 intro m
 induction m using Nat.strongRecOn with
 | _ m ih =>
  intro n hmn i xs H s s₀ w I st hfr
  show Seg _ A _ _ _ s₀ _ ((compTurn (.GeneratorExp elt [⟨tg,iter,ifs,0⟩] scope pos) 0 (.ref it) .none Xg.env).onRaise (leaving Xg.env)) [] s
  rw [compTurn_gen,Sem.onRaise_eq_wrap]
  refine seg_bind_wrap (wpAny_standAt ?_)
  rcases turn i m xs H w with ⟨stop,q⟩ | ⟨go,step⟩
  ·have d:=T.done Xg rfl rfl rfl hc i pa s σg H (fun _ _=>False) I (fpok H hfr) st stop
   rw [hA] at d
   refine seg_bind_wrap (wpAny_mono d (fun r s4 ⟨hr,I5⟩=>?_) fun _ _ z=>z.elim)
   subst hr
   exact seg_end (.ok .next) ⟨rfl,H,I5,xs,q⟩
  ·have d:=T.item Xg rfl rfl rfl hc i pa s σg H (fun _ _=>False) I (fpok H hfr) st go
   rw [hA] at d
   refine seg_bind_wrap (wpAny_mono d (fun r s4 ⟨u,hr,h4⟩=>?_) fun _ _ z=>z.elim)
   subst hr
   refine seg_bind_wrap (wpAny_mono h4 (fun _ s5 ⟨x,H5,I5,r5,y5,st5,fr5⟩=>?_) fun _ _ z=>z.elim)
   have I5':=I5.pinned (fpok H5 fr5) (T.obj _ _ st5)
   have d2:=hg _ s5 σg H5 x u _ I5' r5 (gk _ _ _ _ hk (step x H5 y5))
   rw [hA,hxe] at d2
   refine seg_bind_wrap (wpAny_mono d2 (fun _ s6 ⟨σ6,H6,I6,q6,l6,a6⟩=>?_) fun _ _ z=>z.elim)
   have back : ∀ {H' : Hp} {s' : Shared},Inv Xg (pa ++ pinsAt fp s5.heap) σ6 H' s'->Inv Xg pa σg H' s'/\tn (i + 1) s'.heap/\∀ b ∈ fp,H' b = none:=fun {H' s'} I'=>by
    refine ⟨I'.unpinned.weak l6.symm fun j v e=>by rw [a6 j (hown j v e)];exact e,T.keep _ _ _ st5 fun b hb o e=>(I'.pin (b,o) (List.mem_append_right _ (List.mem_append_right _ (mem_pinsAt hb e)))).1,fun b hb=>?_⟩
    obtain ⟨o,e,d⟩:=T.obj _ _ st5 b hb
    exact (I'.pin (b,o) (List.mem_append_right _ (List.mem_append_right _ (mem_pinsAt hb e)))).2.1
   have d3:=ht _ s6 σ6 H6 _ I6 q6
   rw [hA,hxe] at d3
   refine seg_bind_wrap (wpAny_mono d3 (fun ok s7 ⟨H7,I7,q7⟩=>?_) fun _ _ z=>z.elim)
   cases ok with
   | false =>
    obtain ⟨m',hm,w7⟩:=q7
    obtain ⟨J1,J2,J3⟩:=back I7
    simp only [Bool.false_eq_true,if_false]
    exact seg_again rfl (ih m' hm n (by omega) (i + 1) xs H7 s7 s₀ w7 J1 J2 J3)
   | true =>
    simp only [if_true]
    have hy : ∀ v,yieldOut Xg.env v = yieldValue v:=fun v=>by simp only [yieldOut,hco,Bool.false_eq_true,if_false]
    simp only [hy]
    rw [Sem.bind_eq_wrap',Sem.bind_eq_wrap',Sem.wrap_wrap,Sem.wrap_wrap]
    have d4:=he _ s7 σ6 H7 _ I7 q7
    rw [hA,hxe] at d4
    refine seg_wrap (wpAny_mono d4 (fun y s8 ⟨v,H8,I8,r8,hD,hl,m',hm,w8⟩=>?_) fun _ _ z=>z.elim)
    obtain ⟨J1,J2,J3⟩:=back I8
    obtain ⟨n',rfl⟩ : ∃ n',n = n' + 1:=⟨n - 1,by omega⟩
    refine seg_at (seg_yield rfl rfl rfl ⟨v,xs,H8,r8,J1,hD,hl,fun s₂ K2 k2=>?_⟩)
    refine seg_again rfl (ih m' hm n' (by omega) (i + 1) (xs ++ [v]) (upd H8 D (.lst (xs ++ [v]))) _ _ w8 K2 (T.keep _ _ _ J2 k2) fun b hb=>?_)
    rw [upd_ne (fun z=>by rw [<- z,J3 b hb] at hD;cases hD)]
    exact J3 b hb
end
section
variable {Xg : Cx} {A : Around} {a : Addr} {gi : Nat} {D : Addr} {σg : St} {pa : List (Addr × Obj)} {fp : List Addr}
theorem ext_loop {Fin : Shared->Prop} (hh : A.handled = none) (hroom : A.depth < recursionLimit) (hgen : ∀ H s,Inv Xg pa σg H s->s.heap.IsGen a gi/\gi < s.gens.size) (hDf : ∀ b ∈ fp,b ≠ D)
  (hfin : ∀ s h' gq,Fin s->GOk s.gens gq->(∀ b o,s.heap.get? b = some o->h'.get? b = some o)->Fin { s with heap:=h',gens:=gq }) (hfo : ∀ s,Fin s->AllBare s.gens) :
  ∀ (n : Nat) (s : Shared) (gs : GenState) (H : Hp),Inv Xg pa σg H s->s.gens[gi]? = some gs->gs.Goes (model Xg.prog Xg.w) A.in1.in1 (gtR Fin) (gtY (GtOk Xg pa σg D fp)) n (.send .none) (s.setGen gi .running) ->
   codeAny (model Xg.prog Xg.w) A (.builtin "list.extend.loop" ⟨[.ref D,.ref a,.ref D],[]⟩) (fun r s'=>r = .ok (.ret (.ref D))/\Fin s') s:=by
 have fin : ∀ (s₁ : Shared) (h' : Heap),Fin s₁->(∀ b o,s₁.heap.get? b = some o->h'.get? b = some o)->Fin { s₁ with heap:=h',gens:=s₁.gens.setIfInBounds gi .finished }:=fun s₁ h' hp hk=>hfin s₁ h' _ hp (gok_set (hfo _ hp) rfl) hk
 intro n
 induction n with
 | zero =>
  intro s gs H I hgs hgo
  obtain ⟨hg,_⟩:=hgen H s I
  refine codeAny_builtin F.entry_extend_loop ?_
  rw [Around.under_plainId F.plain_extend_loop _]
  show wpAny _ A.in1 (pyNext (.ref a) >>= _) _ _ s
  refine wpAny_bind (wpAny_pyNext_genexpQ (A:=A.in1) (P:=fun _ _ s₁=>Fin s₁) hh I.nolimit hroom hg hgs hgo (fun v s₁ gs' hbr hv=>?_) (fun s₁ hp h' hk=>wpAny_pure ⟨rfl,fin s₁ h' hp hk⟩))
  obtain ⟨x,acc,H1,rx,I1,hD,hl,C⟩:=hv
  obtain ⟨z,its,nn,r,hlen,e⟩:=I1.lstM hD
  have I3:=I1.lset (its':=its ++ [v]) (f:=(·.push v)) (t':=s₁.toks) hD e (by simp) (r.append (.cons rx .nil)) (by rw [List.length_append,List.length_singleton];omega)
  exact (C _ I3 fun b hb o hbo=>(Heap.get?_update_other _ _ (Ne.symm (hDf b hb))).trans hbo).elim
 | succ n ih =>
  intro s gs H I hgs hgo
  obtain ⟨hg,_⟩:=hgen H s I
  refine codeAny_builtin F.entry_extend_loop ?_
  rw [Around.under_plainId F.plain_extend_loop _]
  show wpAny _ A.in1 (pyNext (.ref a) >>= _) _ _ s
  refine wpAny_bind (wpAny_pyNext_genexpQ (A:=A.in1) (P:=fun _ _ s₁=>Fin s₁) hh I.nolimit hroom hg hgs hgo (fun v s₁ gs' hbr hv=>?_) (fun s₁ hp h' hk=>wpAny_pure ⟨rfl,fin s₁ h' hp hk⟩))
  obtain ⟨x,acc,H1,rx,I1,hD,hl,C⟩:=hv
  have g1 : GOk s₁.gens (s₁.gens.setIfInBounds gi gs'):=gok_set I1.bare.1 hbr
  have I2:=I1.setGens g1
  obtain ⟨z,its,nn,r,hlen,e⟩:=I2.lstM hD
  have lt:=(hgen H1 _ I1).2
  have g2 : (s₁.gens.setIfInBounds gi gs')[gi]? = some gs':=by simp [lt]
  show wpAny _ A.in1 (updateSeq D (·.push v) >>= _) _ _ _
  refine wpAny_bind (wpAny_updateSeq e rfl ?_ (by rw [List.size_toArray];omega) (by show (its.toArray.push v).size <= sizeLine + 1;rw [Array.size_push,List.size_toArray];omega))
  have I3:=I2.lset (its':=its ++ [v]) (f:=(·.push v)) (t':=s₁.toks) hD e (by simp) (r.append (.cons rx .nil)) (by rw [List.length_append,List.length_singleton];omega)
  refine wpAny_pure ⟨plainId_quiet F.plain_extend_loop _,ih _ gs' _ I3 g2 ?_⟩
  have g3 : GOk (s₁.gens.setIfInBounds gi gs') ((s₁.gens.setIfInBounds gi gs').setIfInBounds gi .running):=gok_set g1.1 rfl
  exact C _ (I3.setGens g3) fun b hb o hbo=>(Heap.get?_update_other _ _ (Ne.symm (hDf b hb))).trans hbo
end
section
variable {Xg : Cx} {A : Around} {a : Addr} {gi : Nat} {σg : St} {pa : List (Addr × Obj)} {fp : List Addr} {E : Value->Shared->Prop}
theorem gen_type {s : Shared} (hg : s.heap.IsGen a gi) : s.TypeIs (.ref a) "generator" := by
 obtain ⟨o,_,_,ho,hc,_⟩:=hg
 exact ⟨o,ho,hc⟩
theorem collect_gt {s : Shared} {H : Hp} {gs : GenState} {Fin : Hp->List V->Prop} {Q : List Value->Shared->Prop} (n : Nat) (hh : A.handled = none) (hroom : A.depth < recursionLimit) (hgen : ∀ H s,Inv Xg pa σg H s->s.heap.IsGen a gi/\gi < s.gens.size)
  (hlt : ∀ b ∈ fp,b < s.heap.objs.size) (I : Inv Xg pa σg H s) (hgs : s.gens[gi]? = some gs)
  (hgo : ∀ s3 : Shared,Inv Xg pa σg (upd H s.heap.objs.size (.lst [])) s3->(∀ b o,s.heap.get? b = some o->s3.heap.get? b = some o)->s3.gens = s.gens ->
   gs.Goes (model Xg.prog Xg.w) A.in1.in1 (gtR fun s'=>∃ H',Inv Xg pa σg H' s'/\∃ acc,H' s.heap.objs.size = some (.lst acc)/\Fin H' acc) (gtY (GtOk Xg pa σg s.heap.objs.size fp)) n (.send .none) (s3.setGen gi .running))
  (hQ : ∀ H' s' acc its,Inv Xg pa σg H' s'->Vals acc its->acc.length <= sizeLine->Fin H' acc->Q its s') :
  wpAny (model Xg.prog Xg.w) A (collect (.ref a)) Q E s:=by
 obtain ⟨hg,_⟩:=hgen H s I
 have haD : s.heap.objs.size ≠ a:=fun z=>by
  obtain ⟨o,_,_,ho,_⟩:=hg
  have:=Heap.lt_size ho
  rw [z] at this
  exact Nat.lt_irrefl _ this
 unfold collect
 refine wpAny_bind (wpAny_runValue (codeAny_builtin F.entry_proto_collect ?_))
 rw [Around.under_plainId F.plain_proto_collect _]
 show wpAny _ A.in1 (newList [] >>= fun l=>again (.builtin "list.__iadd__" ⟨[l,.ref a],[]⟩)) _ _ s
 refine wpAny_bind (wpAny_newObj_type ?_)
 refine wpAny_pure ⟨plainId_quiet F.plain_list_iadd _,codeAny_builtin F.entry_list_iadd ?_⟩
 rw [Around.under_plainId F.plain_list_iadd _]
 have I1 : Inv Xg pa σg (upd H s.heap.objs.size (.lst [])) { s with heap:=s.heap.push { cls:=.type "list",data:=.seq ([] : List Value).toArray } } :=
  I.laid (t':=s.toks) (fun b u e=>Heap.get?_push_of_some _ e) (Nat.le_refl _) ⟨Nat.zero_le _,[],0,.nil,Heap.get?_push_size _ rfl⟩
 have hT1:=gen_type (hgen _ _ I1).1
 show wpAny _ A.in1 (Builtin.List.listExtendWith (.ref s.heap.objs.size) (.ref a) (.ref s.heap.objs.size)) _ _ _
 unfold Builtin.List.listExtendWith
 refine wpAny_bind (wpAny_typeOf hT1 ?_)
 have h1 : Builtin.List.listSameRef (.ref s.heap.objs.size) (.ref a) = false:=by simp [Builtin.List.listSameRef,haD]
 have h2 : (Value.type "generator" == Value.type "list") = false:=by decide
 have h3 : (Value.type "generator" == Value.type "tuple") = false:=by decide
 simp only [h1,h2,h3,Bool.or_false,Bool.false_eq_true,if_false]
 refine wpAny_bind (wpAny_pyIter_gen (hgen _ _ I1).1 ?_)
 refine wpAny_bind (wpAny_holding ?_)
 unfold Builtin.List.listLengthHint
 refine wpAny_bind (wpAny_specialOf hT1 F.gen_no_len ?_)
 show wpAny _ A.in1 (specialOf (Value.ref a) (Str.ofString "__length_hint__") >>= _) _ _ _
 refine wpAny_bind (wpAny_specialOf hT1 F.gen_no_hint ?_)
 refine wpAny_pure ?_
 show wpAny _ A.in1 (rule "list.extend.makes-room" >>= fun _=>Builtin.List.listTouch (.ref s.heap.objs.size) >>= fun _ =>
  again (.builtin "list.extend.loop" ⟨[.ref s.heap.objs.size,.ref a,.ref s.heap.objs.size],[]⟩)) _ _ _
 refine wpAny_bind (wpAny_rule ?_)
 have hS1 : (s.heap.push { cls:=.type "list",data:=.seq ([] : List Value).toArray }).get? s.heap.objs.size = some { cls:=.type "list",data:=.seq ([] : List Value).toArray }:=Heap.get?_push_size _ rfl
 refine wpAny_bind ?_
 show wpAny _ A.in1 (updateSeq s.heap.objs.size (·.push .none) >>= fun _=>updateSeq s.heap.objs.size (·.pop)) _ _ _
 refine wpAny_bind (wpAny_updateSeq hS1 rfl ?_)
 have I2:=I1.lset (l:=s.heap.objs.size) (its':=[.none]) (f:=(·.push Value.none)) (t':=s.toks) (ys:=[.non]) upd_same hS1 rfl (.cons rfl .nil) (by show 1 <= sizeLine;decide)
 obtain ⟨_,its2,n2,r2,_,hS2⟩:=I2.lstM upd_same
 have hS2':=Heap.get?_update_self (Obj.mapSeq (·.push Value.none)) hS1 rfl
 refine wpAny_updateSeq hS2' rfl ?_
 have I3:=I2.lset (l:=s.heap.objs.size) (its':=[]) (f:=(·.pop)) (t':=s.toks) (ys:=[]) upd_same hS2' (by rfl) .nil (Nat.zero_le _)
 rw [upd_upd,upd_upd] at I3
 have keep : ∀ b o,s.heap.get? b = some o->(((s.heap.push { cls:=.type "list",data:=.seq ([] : List Value).toArray }).update s.heap.objs.size (Obj.mapSeq (·.push Value.none))).update s.heap.objs.size (Obj.mapSeq (·.pop))).get? b = some o:=fun b o e=>by
  have hne : s.heap.objs.size ≠ b:=fun z=>by have:=Heap.lt_size e;rw [z] at this;exact Nat.lt_irrefl _ this
  exact (Heap.get?_update_other _ _ hne).trans ((Heap.get?_update_other _ _ hne).trans (Heap.get?_push_of_some _ e))
 refine wpAny_pure ⟨plainId_quiet F.plain_extend_loop _,codeAny_mono (ext_loop (D:=s.heap.objs.size) (fp:=fp) (Fin:=fun s'=>∃ H',Inv Xg pa σg H' s'/\∃ acc,H' s.heap.objs.size = some (.lst acc)/\Fin H' acc) hh hroom hgen (fun b hb z=>by have:=hlt b hb;rw [z] at this;exact Nat.lt_irrefl _ this) ?_ ?_ n _ gs _ I3 hgs (hgo _ I3 keep rfl)) ?_⟩
 ·rintro s' h' gq ⟨H',I',acc,hD,q⟩ hg' hk
  exact ⟨H',(I'.kept (t':=s'.toks) hk).setGens hg',acc,hD,q⟩
 ·rintro s' ⟨H',I',_⟩
  exact I'.bare.1
 ·rintro r s' ⟨rfl,H',I',acc,hD,q⟩
  obtain ⟨z,its,nn,rv,hl,e⟩:=I'.lstM hD
  show wpAny _ A (load s.heap.objs.size >>= _) _ _ s'
  refine wpAny_bind (wpAny_load e ?_)
  refine wpAny_pure ?_
  have e2 : its.toArray.toList = its:=by simp
  show Q its.toArray.toList s'
  rw [e2]
  exact hQ H' s' acc its I' rv z q
theorem call_tuple_gt {s : Shared} {H : Hp} {gs : GenState} {Fin : Hp->List V->Prop} {Q : Value->Shared->Prop} (n : Nat) (hh : A.handled = none) (hroom : A.depth < recursionLimit) (hgen : ∀ H s,Inv Xg pa σg H s->s.heap.IsGen a gi/\gi < s.gens.size)
  (hlt : ∀ b ∈ fp,b < s.heap.objs.size) (I : Inv Xg pa σg H s) (hgs : s.gens[gi]? = some gs)
  (hgo : ∀ s3 : Shared,Inv Xg pa σg (upd H s.heap.objs.size (.lst [])) s3->(∀ b o,s.heap.get? b = some o->s3.heap.get? b = some o)->s3.gens = s.gens ->
   gs.Goes (model Xg.prog Xg.w) A.in1.in1.in1.in1 (gtR fun s'=>∃ H',Inv Xg pa σg H' s'/\∃ acc,H' s.heap.objs.size = some (.lst acc)/\Fin H' acc) (gtY (GtOk Xg pa σg s.heap.objs.size fp)) n (.send .none) (s3.setGen gi .running))
  (hQ : ∀ H' s' acc its,Inv Xg pa σg H' s'->Vals acc its->acc.length <= sizeLine->Fin H' acc->Q (.ref s'.heap.objs.size) { s' with heap:=s'.heap.push { cls:=.type "tuple",data:=.seq its.toArray } }) :
  wpAny (model Xg.prog Xg.w) A (call (.type "tuple") [.ref a]) Q E s:=by
 obtain ⟨hg,_⟩:=hgen H s I
 have hTI:=gen_type hg
 refine callType_codes (Q₁:=fun obj s₁=>s₁.TypeIs obj "tuple"/\Q obj s₁) F.called_tuple (F.typeCall_tuple_1 _) F.entry_object_init ?new fun obj s₁ h₁ =>
  ⟨h₁.1,F.args_object_init_2 obj _,object_init_meets F.called_tuple.init.lookup F.called_tuple.made (by decide) _ _ A.in1 _ s₁ ⟨h₁.1,rfl,h₁.2⟩⟩
 case new =>
 refine codeAny_of_tree ?_
 show wpAny _ A.in1.in1 (do checkBuiltinCall "tuple.__new__" ⟨[.type "tuple",.ref a],[]⟩;again (.builtin "tuple.__new__" ⟨[.type "tuple",.ref a],[]⟩)) _ _ s
 refine wpAny_bind (wpAny_of_eq (F.newCall_tuple_1 _) (wpAny_pure ⟨plainId_quiet F.plain_tuple_new _,codeAny_builtin F.entry_tuple_new ?_⟩))
 rw [Around.under_plainId F.plain_tuple_new _]
 have hsub:=sub_tuple_self
 have hinit:=init_tuple_lookup
 have hmh:=madeHere_tuple
 wp_walk using wpAny_typeOf hTI,collect_gt (A:=A.in1.in1) n hh hroom hgen hlt I hgs hgo
 intro H' s' acc its I' rv z q
 show wpAny _ _ (Builtin.Tuple.tupleExact its.toArray >>= fun v=>ret v) _ _ _
 unfold Builtin.Tuple.tupleExact
 refine wpAny_bind (wpAny_newObj_type ?_ (by show its.toArray.size <= sizeLine;rw [List.size_toArray,<- rv.length];exact z))
 refine wpAny_pure ?_
 exact ⟨⟨_,Heap.get?_push_size _ rfl,rfl⟩,hQ H' s' acc its I' rv z q⟩
end
abbrev Cx.up (X : Cx) : Cx:={ X with A:=X.A.in1.in1 }
theorem Inv.up {X : Cx} {pins : List (Addr × Obj)} {σ : St} {H : Hp} {s : Shared} (I : Inv X pins σ H s) : Inv X.up pins σ H s :=
 ⟨⟨I.ok.mod,I.ok.kind,I.ok.glob,I.ok.blt,I.ok.above,I.ok.inj,I.ok.has,I.ok.cab,I.ok.hd,I.ok.frames,I.ok.stk,I.ok.exf,I.ok.bs,I.ok.bsz,I.ok.noex,I.ok.exfs,I.ok.funs,I.ok.frf⟩,I.os,I.bare,I.base,I.loc,I.cell,I.free,I.freeC,I.pin,I.hok,I.len⟩
def TupG (J : It) (g : TG) (tt : TT) (te : TE) (σc : St) (Q : VK) (D : Addr) (H1 : Hp) : Prop := ∃ W : Nat->Nat->List V->Hp->Prop,(∃ m,W 0 m [] (upd H1 D (.lst [])))/\∀ i m xs H,W i m xs H ->
 (J.stop i H/\H D = some (.lst xs)/\∀ q,H q = none->Q (.ref q) (upd H q (.tup xs))) \/
 (J.go i H/\∀ x H',J.yld i H x H'->g x σc H' fun σ2 H2=>tt σ2 H2 fun b H3=>if b = true then te σ2 H3 fun v H4=>H4 D = some (.lst xs)/\xs.length < sizeLine/\∃ m',m' < m/\W (i + 1) m' (xs ++ [v]) (upd H4 D (.lst (xs ++ [v]))) else ∃ m',m' < m/\W (i + 1) m' xs H3)
def tTupGen (P : Addr) (k : Nat) (js : List Nat) (wi : TI) (g : TG) (tt : TT) (te : TE) : TE:=fun σ H Q=>wi σ H fun J H1=>(∃ ps,TabAt H1 P ps)/\∀ ps',TabAt (upd H1 P (.tbl ps')) P ps'->∀ D,(upd H1 P (.tbl ps')) D = none->TupG J g tt te (compSt k js σ) Q D (upd H1 P (.tbl ps'))
section
variable {X : Cx}
theorem pe_tupgen {elt tg iter : Expr} {ifs : List Expr} {scope : Scope} {p pos gpos : Pos} {Nc : List Str} {kk k : Nat} {js : List Nat} {wi : TI} {g : TG} {tt : TT} {te : TE} {c P : Addr} (hr : Room kk X.A) (hc : X.calm = true) (hcode : X.env.code = .ref c) (hd : PySem.W.CodeHd X.base c P) (hbm : BltMod X.mg X.base)
  (hgl : Gl X "tuple") (hm : X.mg "tuple" = none) (S : GenScope X.env scope)
  (hjs : (Nc.drop k).map some = js.map (X.N[·]?)) (hfr : ∀ x ∈ Nc.drop k,scope.names.lookup x = some .free) (hk : k <= Nc.length) (hi : PI X tg iter wi)
  (hg : ∀ C code it s H ex,PG (genCx X.up scope Nc C code (.GeneratorExp elt [⟨tg,iter,ifs,0⟩] scope gpos) it s H ex) tg g) (gk : GOwn k g) (ht : ∀ C code it s H ex,PTs (genCx X.up scope Nc C code (.GeneratorExp elt [⟨tg,iter,ifs,0⟩] scope gpos) it s H ex) ifs tt)
  (he : ∀ C code it s H ex,PE (genCx X.up scope Nc C code (.GeneratorExp elt [⟨tg,iter,ifs,0⟩] scope gpos) it s H ex) elt te)
  (hs : ∀ x,genFold iter X.env x = pure x:=by intro _;rfl) :
  PE X (.Call (.Name "tuple" p) [.GeneratorExp elt [⟨tg,iter,ifs,0⟩] scope gpos] [] pos) (tTupGen P k js wi g tt te):=by
 intro pins s σ H Q I h
 refine wpAny_Call_Name_kw (ld_blt I hgl hm boot_ttuple ?_ (by decide) (by decide))
 refine PyProof.Rows.callWith_type1 (Q:=EP X pins σ Q) (Calls.spliced_cons (wpAny_GeneratorExp_make S.co (closure_of fun y hy e=>I.ok.has y.1 (S.free y hy e)) S.cell S.zero S.kind hr.depth ?_ hs)) rfl rfl
 refine thn (hi pins s σ H _ I h) fun v s1 h1=>thn h1 fun itv s2 h2=>?_
 obtain ⟨it,fp,tn,J,H2,e,I2,T,st2,f2,⟨ps,tb⟩,rest⟩:=h2
 subst e
 refine ⟨I2.nolimit,gen_code I2 hcode hd tb fun code s3 more I3 tr g3 o3 z3 x3=>?_⟩
 obtain ⟨bm,ob,b1,b2,b3,b4,b5,b6⟩:=hbm
 refine wpAny_builtinsFor (globals:=X.env.globals) (by rw [I3.ok.glob];exact I3.mod.glob.keeps I3.bk) b1 b2 (I3.bk _ _ b3) b4 b5 b6 ?_
 intro h4 hn4 hs4
 have neP : ∀ b ∈ fp,b ≠ P:=fun b hb z=>by
  have:=(f2 b hb).1
  rw [z,tb.1] at this
  cases this
 have f3 : ∀ b ∈ fp,FpOk X pins (upd H2 P (.tbl (ps ++ more))) b:=fun b hb=>⟨by rw [upd_ne (neP b hb)];exact (f2 b hb).1,(f2 b hb).2⟩
 have st3 : tn 0 s3.heap:=T.keep _ _ _ st2 fun b hb o e=>x3 b o (neP b hb) e
 have lt3 : ∀ b ∈ fp,b < s3.heap.objs.size:=fun b hb=>by
  obtain ⟨o,e,_⟩:=T.obj 0 _ st3 b hb
  exact Heap.lt_size e
 have keep4 : ∀ b o,s3.heap.get? b = some o->h4.get? b = some o:=fun b o e=>hs4.extBut b o (Nat.ne_of_lt (Heap.lt_size e)) (Heap.get?_push_of_some _ e)
 have sz4 : h4.objs.size = s3.heap.objs.size + 1:=by rw [hs4.1,Heap.size_push]
 generalize eG : s3.gens.push (.fresh (.compStart (.GeneratorExp elt [⟨tg,iter,ifs,0⟩] scope gpos) 0 (.ref it) .none (genEnv scope (clOf X.env scope.names) s3.heap.objs.size code builtinsNs X.env))) = gens5
 have gok5 : GOk s3.gens gens5:=by
  rw [<- eG]
  exact ⟨I3.bare.1.push rfl,by simp⟩
 have I3' : Inv X pins σ (upd H2 P (.tbl (ps ++ more))) { s3 with gens:=gens5 }:=I3.setGens gok5
 generalize eO : ({ cls:=.type "generator",data:=.fields #[.int s3.gens.size 0,.str "<genexpr>" (s3.toks + 1),.str (X.env.qual ++ "<genexpr>") (s3.toks + 1 + 1)] } : Obj) = gobj
 have keep5 : ∀ b o,h4.get? b = some o->(h4.push gobj).get? b = some o:=fun b o e=>Heap.get?_push_of_some _ e
 have I5 : Inv (genCx X.up scope Nc s3.heap.objs.size code (.GeneratorExp elt [⟨tg,iter,ifs,0⟩] scope gpos) it { s3 with gens:=gens5 } (upd H2 P (.tbl (ps ++ more))) fp) [] (compSt k js σ) (upd H2 P (.tbl (ps ++ more)))
   { s3 with gens:=gens5,toks:=s3.toks + 1 + 1 + 1,heap:=h4.push gobj } :=
  inv_gen (X:=X.up) (s:={ s3 with gens:=gens5 }) (s4:={ s3 with gens:=gens5,toks:=s3.toks + 1 + 1 + 1,heap:=h4.push gobj }) I3'.up hc S hjs hfr hk f3 lt3 (Nat.le_refl _) (hn4.push _) (fun b o e=>keep5 b o (keep4 b o e)) rfl ⟨gok5.1,Nat.le_refl _⟩
 have aC : h4.objs.size ≠ s3.heap.objs.size:=by omega
 have aS : s3.heap.objs.size <= h4.objs.size:=by omega
 have aF : h4.objs.size ∉ frs X.stack:=fun z=>by
  rcases List.mem_cons.mp (I3.stkSub _ z) with z | z
  ·have l:=I3.lt
   rw [<- z] at l
   exact absurd (Nat.lt_of_lt_of_le l aS) (Nat.lt_irrefl _)
  ·exact I3.nofs aS z
 have aH : (upd H2 P (.tbl (ps ++ more))) h4.objs.size = none:=I3.hok.fresh aS
 have I6 : Inv (genCx X.up scope Nc s3.heap.objs.size code (.GeneratorExp elt [⟨tg,iter,ifs,0⟩] scope gpos) it { s3 with gens:=gens5 } (upd H2 P (.tbl (ps ++ more))) fp) [(h4.objs.size,gobj)] (compSt k js σ) (upd H2 P (.tbl (ps ++ more)))
   { s3 with gens:=gens5,toks:=s3.toks + 1 + 1 + 1,heap:=h4.push gobj }:=I5.pins_of fun q hq=>by
  have e : q = (h4.objs.size,gobj):=by simpa using hq
  subst e
  refine ⟨Heap.get?_push_size _ (by rw [<- eO];rfl),aH,aC,aF,fun v z=>?_⟩
  rw [<- eO] at z
  cases z
 have afp : ∀ b ∈ fp,h4.objs.size ≠ b:=fun b hb z=>by have:=lt3 b hb;rw [<- z] at this;exact absurd (Nat.lt_of_lt_of_le this aS) (Nat.lt_irrefl _)
 have frz : ∀ y ∈ scope.names,y.2 = .free->∃ c,X.env.cells.lookup y.1 = some c:=fun y hy e=>I2.ok.has y.1 (S.free y hy e)
 have fpok : ∀ H' : Hp,(∀ b ∈ fp,H' b = none)->∀ b ∈ fp,FpOk (genCx X.up scope Nc s3.heap.objs.size code (.GeneratorExp elt [⟨tg,iter,ifs,0⟩] scope gpos) it { s3 with gens:=gens5 } (upd H2 P (.tbl (ps ++ more))) fp) [(h4.objs.size,gobj)] H' b:=fun H' hn b hb=>by
  refine ⟨hn b hb,Nat.ne_of_lt (lt3 b hb),fun z=>?_,.inl hb,fun x c e=>(f2 b hb).2.2.2.2.1 x c (clOf_sub frz e),fun q hq=>?_⟩
  ·rcases List.mem_cons.mp (I2.stkSub b z) with z | z
   ·exact (f2 b hb).2.1 z
   ·exact (f2 b hb).2.2.1 z
  ·have e : q = (h4.objs.size,gobj):=by simpa using hq
   subst e
   exact afp b hb
 have lenS : k <= (compSt k js σ).length:=by rw [compSt_len];omega
 have own : ∀ (j : Nat) (v : V),(compSt k js σ)[j]? = some (some v)->k <= j:=fun j v e=>by
  obtain ⟨t,j',rfl,_⟩:=comp_get e
  omega
 have hh : X.A.handled = none:=I.ok.hd hc
 have hIsGen : ∀ H' s',Inv (genCx X.up scope Nc s3.heap.objs.size code (.GeneratorExp elt [⟨tg,iter,ifs,0⟩] scope gpos) it { s3 with gens:=gens5 } (upd H2 P (.tbl (ps ++ more))) fp) [(h4.objs.size,gobj)] (compSt k js σ) H' s'->s'.heap.IsGen h4.objs.size s3.gens.size/\s3.gens.size < s'.gens.size:=fun H' s' I'=>by
  obtain ⟨p1,_⟩:=I'.pin (h4.objs.size,gobj) (by simp)
  have g5lt : s3.gens.size < gens5.size:=by rw [<- eG];simp
  exact ⟨⟨gobj,_,_,p1,by rw [<- eO],by rw [<- eO],by rw [<- eO]⟩,Nat.lt_of_lt_of_le g5lt I'.bare.2⟩
 have sz5 : (h4.push gobj).objs.size = h4.objs.size + 1:=Heap.size_push ..
 have ltD : ∀ b ∈ fp,b < (h4.push gobj).objs.size:=fun b hb=>Nat.lt_of_lt_of_le (lt3 b hb) (by rw [sz5];omega)
 obtain ⟨W,⟨m0,w0⟩,turn⟩:=rest (ps ++ more) ⟨upd_same,tr⟩ (h4.push gobj).objs.size (I6.hok.fresh (Nat.le_refl _))
 have seg:=seg_turnT (D:=(h4.push gobj).objs.size) (Xg:=genCx X.up scope Nc s3.heap.objs.size code (.GeneratorExp elt [⟨tg,iter,ifs,0⟩] scope gpos) it { s3 with gens:=gens5 } (upd H2 P (.tbl (ps ++ more))) fp) (A:=X.A.in1.in1.in1.in1) rfl rfl S.co rfl (hg _ _ _ _ _ _) gk (ht _ _ _ _ _ _) (he _ _ _ _ _ _) T lenS own fpok W (fun acc H'=>H' (h4.push gobj).objs.size = some (.lst acc)/\∀ q,H' q = none->Q (.ref q) (upd H' q (.tup acc))) turn
 refine Calls.spliced_nil (call_tuple_gt (Xg:=genCx X.up scope Nc s3.heap.objs.size code (.GeneratorExp elt [⟨tg,iter,ifs,0⟩] scope gpos) it { s3 with gens:=gens5 } (upd H2 P (.tbl (ps ++ more))) fp) (pa:=[(h4.objs.size,gobj)]) (σg:=compSt k js σ) (gi:=s3.gens.size) (Fin:=fun H' acc=>∀ q,H' q = none->Q (.ref q) (upd H' q (.tup acc))) (fp:=fp) (gs:=.fresh (.compStart (.GeneratorExp elt [⟨tg,iter,ifs,0⟩] scope gpos) 0 (.ref it) .none (genEnv scope (clOf X.env scope.names) s3.heap.objs.size code builtinsNs X.env))) (m0 + 1) hh hr.depth hIsGen (fun b hb=>?_) I6 ?_ (fun s6 J6 k6 g6=>⟨rfl,?_⟩) ?_)
 ·exact ltD b hb
 ·rw [<- eG]
  exact Array.getElem?_push_size ..
 ·
  have gset : GOk s6.gens (s6.gens.setIfInBounds s3.gens.size .running):=gok_set J6.bare.1 rfl
  have I7:=J6.setGens (g':=s6.gens.setIfInBounds s3.gens.size .running) gset
  have st6 : tn 0 s6.heap:=T.keep _ _ _ st3 fun b _ o e=>k6 b o (keep5 b o (keep4 b o e))
  have nD : ∀ b ∈ fp,b ≠ (h4.push gobj).objs.size:=fun b hb=>Nat.ne_of_lt (ltD b hb)
  have loop:=seg m0 (m0 + 1) (Nat.lt_succ_self _) 0 _ _ _ (s6.setGen s3.gens.size .running) w0 I7 st6 fun b hb=>by rw [upd_ne (nD b hb)];exact (f3 b hb).1
  show Seg _ X.A.in1.in1.in1.in1 _ _ _ _ _ ((compStart (.GeneratorExp elt [⟨tg,iter,ifs,0⟩] scope gpos) 0 (.ref it) .none (genEnv scope (clOf X.env scope.names) s3.heap.objs.size code builtinsNs X.env)).onRaise (leaving _)) [] _
  unfold compStart
  rw [Sem.onRaise_eq_wrap]
  show Seg _ X.A.in1.in1.in1.in1 _ _ _ _ _ ((ask >>= _).wrap _ _ _ _) [] _
  refine seg_bind_wrap (wpAny_askSetting ?_)
  have self : ∀ (A' : Around) (Q' : Value->Shared->Prop) (E' : Value->Shared->Prop) (s' : Shared),tn 0 s'.heap->Q' (.ref it) s'->wpAny (model X.prog X.w) A' (pyIter (.ref it)) Q' E' s':=fun A' Q' E' s' st q=>T.self A' 0 s' Q' E' st q
  split
  ·exact seg_again rfl loop
  ·first
    | exact seg_bind_wrap (wpAny_rule (seg_bind_wrap (wpAny_standAt (seg_bind_wrap (self _ _ _ _ st6 (seg_again rfl loop))))))
    | (refine seg_bind_wrap (wpAny_rule ?_);show Seg _ X.A.in1.in1.in1.in1 _ _ _ _ _ ((standAt iter.pos >>= _).wrap _ _ _ _) [] _;exact seg_bind_wrap (wpAny_standAt (seg_bind_wrap (self _ _ _ _ st6 (seg_again rfl loop)))))
 ·rintro H' s' acc its I' rv z q
  have hu : Un (frs X.stack) fp (upd H2 P (.tbl (ps ++ more))) H' s3.heap s'.heap:=I'.base
  have I8 : Inv X pins σ H' s':=I3'.call' I'.os hu I'.hok I'.bare fun b hb=>⟨(f3 b hb).2.2.2.1,(f3 b hb).2.1,(f3 b hb).2.2.2.2.1,(f3 b hb).2.2.2.2.2⟩
  exact ⟨.ref s'.heap.objs.size,_,I8.laid (t':=s'.toks) (o:=.tup acc) (fun b o e=>Heap.get?_push_of_some _ e) (Nat.le_refl _) ⟨z,its,rv,IsTup.new _ _,_,Heap.get?_push_size _ rfl,rfl⟩,rfl,q _ (I8.hok.fresh (Nat.le_refl _))⟩
end
theorem tupgen_by {J : It} {ok : Hp->Prop} {ys : List V} {g : TG} {tt : TT} {te : TE} {σc : St} {H : Hp} {Q : VK} {D : Addr} (Y : Yields J ok ys) (Pv : Nat->List V->Hp->Prop) (h0 : Pv 0 [] (upd H D (.lst []))) (hok : ∀ i xs H,Pv i xs H->ok H)
  (hD : ∀ i xs H,Pv i xs H->H D = some (.lst xs))
  (step : ∀ i x xs H,ys[i]? = some x->i < ys.length->Pv i xs H->g x σc H fun σ2 H2=>tt σ2 H2 fun b H3=>if b = true then te σ2 H3 fun v H4=>H4 D = some (.lst xs)/\xs.length < sizeLine/\Nx ys.length i (Pv (i + 1) (xs ++ [v]) (upd H4 D (.lst (xs ++ [v])))) else Nx ys.length i (Pv (i + 1) xs H3))
  (fin : ∀ xs H,Pv ys.length xs H->∀ p,H p = none->Q (.ref p) (upd H p (.tup xs))) : TupG J g tt te σc Q D H:=by
 refine ⟨fun i m xs H=>m = ys.length - i/\i <= ys.length/\Pv i xs H,⟨ys.length,by simp,Nat.zero_le _,h0⟩,?_⟩
 rintro i m xs H ⟨rfl,hi,p⟩
 have o:=hok i xs H p
 by_cases hlt : i < ys.length
 ·refine .inr ⟨Y.go i H o hlt,fun x H' y=>?_⟩
  obtain ⟨e,hx⟩:=Y.yld i H x H' o hlt y
  subst e
  exact step i x xs _ hx hlt p
 ·have e : i = ys.length:=by omega
  subst e
  exact .inl ⟨Y.stop H o,hD _ _ _ p,fin xs H p⟩
theorem tupgen_by0 {J : It} {ok : Hp->Prop} {ys : List V} {g : TG} {te : TE} {σc : St} {H : Hp} {Q : VK} {D : Addr} (Y : Yields J ok ys) (Pv : Nat->List V->Hp->Prop) (h0 : Pv 0 [] (upd H D (.lst []))) (hok : ∀ i xs H,Pv i xs H->ok H)
  (hD : ∀ i xs H,Pv i xs H->H D = some (.lst xs))
  (step : ∀ i x xs H,ys[i]? = some x->i < ys.length->Pv i xs H->g x σc H fun σ2 H2=>te σ2 H2 fun v H4=>H4 D = some (.lst xs)/\xs.length < sizeLine/\Nx ys.length i (Pv (i + 1) (xs ++ [v]) (upd H4 D (.lst (xs ++ [v])))))
  (fin : ∀ xs H,Pv ys.length xs H->∀ p,H p = none->Q (.ref p) (upd H p (.tup xs))) : TupG J g tYes te σc Q D H:=by
 refine tupgen_by Y Pv h0 hok hD (fun i x xs H hx hi p=>?_) fin
 have e : (fun (σ2 : St) (H2 : Hp)=>tYes σ2 H2 fun b H3=>if b = true then te σ2 H3 fun v H4=>H4 D = some (.lst xs)/\xs.length < sizeLine/\Nx ys.length i (Pv (i + 1) (xs ++ [v]) (upd H4 D (.lst (xs ++ [v])))) else Nx ys.length i (Pv (i + 1) xs H3)) =
   fun σ2 H2=>te σ2 H2 fun v H4=>H4 D = some (.lst xs)/\xs.length < sizeLine/\Nx ys.length i (Pv (i + 1) (xs ++ [v]) (upd H4 D (.lst (xs ++ [v])))):=by
  funext σ2 H2
  unfold tYes
  dsimp only
  rw [if_pos rfl]
 rw [e]
 exact step i x xs H hx hi p
def Sd.put (s : Sd) (c : Cd) : Sd:={ s with cs:=s.cs.map fun d=>if (d.nm == c.nm) = true then c else d }
theorem pss_no {X : Cx} {sts : List Stmt} : PSs X sts (fun _ _ _=>False):=fun _ _ _ _ _ _ h=>h.elim
theorem FunC.okX {P : Program} {w : World} {K : PySem.W.Frag} {mg : Str->Option Value} {base : Heap} {x qual : Str} {st : Stmt} {f : Addr} {fd : FuncData} {c : Addr} {N ps : List Str} {k : Nat} {sp : Sp} (F : FunC K x qual st f fd c) (S : FnScope N ps (defScope st)) (len : ∀ vs H Q E,sp vs H Q E->vs.length = ps.length)
  (hbody : ∀ (A : Around) (outer : List Env) (s : Shared) (H : Hp) (vs : List V) (Q : VK) (E : XK),Room k (A.deeper (envOfC qual (defScope st) s.heap.objs.size f (.ref c)))->sp vs H Q E ->
   ∃ t,PSs (cxOf (CXF P w) P w K mg base N qual (defScope st) f (.ref c) A outer s H E) (defBody st) t/\t { nx:=fun _ H'=>Q .non H',rt:=Q } (start N vs) H) : FnOk P w K mg base (CXF P w) (k + 1) f fd ps sp:=by
 obtain ⟨oc,od,kV,doc,pm,an,ct,osl,rfl,lk,hcd⟩:=F.ex
 exact fn_of lk hcd S len hbody
end L2
end

section
set_option Elab.async false
set_option linter.all false
set_option maxRecDepth 100000
set_option maxHeartbeats 1000000
namespace K12
open PySem PySem.Spec L2 PyProof.Rows PySem.W
def spWith (ts : List Addr) : Sp:=fun vs H Q _=>∃ (s : Sd) (c : Cd) (u cu : V),vs = [u,cu]/\IsD [] H s.d u/\IsD [] H c.d cu/\s.cs.length <= 900/\Tb ts H/\∀ r H',Ext [] H H'->IsD [] H' (s.put c).d r->Q r H'
section
variable {P : Program} {w : World} {K : PySem.W.Frag} {mg : Str->Option Value} {base : Heap} {CK CC : Addr} {k : XCs} {ts : List Addr}
structure TxG (K : PySem.W.Frag) (mg : Str->Option Value) : Prop where
 b_tuple : mg "tuple" = none
abbrev s_refuse_if_full : Stmt:=top 35
theorem sc_refuse_if_full : FnScope ["plan","stand","lane","kind","name","bound","most"] ["plan","stand","lane","kind"] (defScope s_refuse_if_full):=⟨rfl,rfl,rfl,by decide +kernel,rfl,by decide +kernel,by decide +kernel⟩
theorem ok_full {f : Addr} {fd : FuncData} (F : Fun K "refuse_if_full" "refuse_if_full" s_refuse_if_full f fd) (T : TxP K mg) (M_Full : MakeOk P w K mg base "Full" k.Fu 2 ["self","lane","bound"] (spIniN k.Fu ["lane","bound"])) (M_KindFull : MakeOk P w K mg base "KindFull" k.KF 2 ["self","lane","kind","bound"] (spIniN k.KF ["lane","kind","bound"])) (r1 : raisesIn K k.Fu = true) (r2 : raisesIn K k.KF = true)
  (C_cards_in : CallOk P w K mg base "cards_in" 7 ["plan","stand","lane"] spIn) (C_kind_bound : CallOk P w K mg base "kind_bound" 5 ["plan","kind","lane"] spKB) (C_many_of : CallOk P w K mg base "many_of" 7 ["plan","stand","lane","kind"] spMany) : FnOk P w K mg base (CXF P w) 8 f fd ["plan","stand","lane","kind"] (spFull k):=by
 refine F.okX sc_refuse_if_full (fun vs H Q E h=>?_) (fun cdv A outer s H vs Q E hr h=>?_)
 ·obtain ⟨p,sd,v,u,l,x,z,kd,rfl,_⟩:=h
  rfl
 obtain ⟨p,sd,v,u,l,x,z,kd,rfl,hp,hs,hx,Po,So,Bo,hk,hw,q1,q2⟩:=h
 refine' ⟨_,?hh,?rr⟩
 case hh=>refine' pss_cons ?hcb ?hdb;(case hcb=>refine' ps_if ?hf ?hg pss_nil;(case hf=>refine' pt_not ?he;(case he=>refine' pt_chain op_le op_lt pe_int (pv 2) ?hd;(case hd=>refine' pe_callB call_len_seq rfl T.b_len PySem.boot_len ?hc;(case hc=>refine' pa_c ?hb pa_nil;(case hb=>refine' pe_ix ix_tup (pv 0) pe_int (fun _ _=>rfl))))));(case hg=>refine' pss_one ps_retN));(case hdb=>refine' pss_cons ?hab ?hbb;(case hab=>refine' ps_set sc_refuse_if_full.nd (ixAt 4) (Or.inl rfl) ?hj;(case hj=>refine' pe_ix ix_tup ?hi pe_int (fun _ _=>rfl);(case hi=>refine' pe_ix ix_tup ?hh (pv 2) (fun _ _=>rfl);(case hh=>refine' pe_ix ix_tup (pv 0) pe_int (fun _ _=>rfl)))));(case hbb=>refine' pss_cons ?hY ?hZ;(case hY=>refine' ps_set sc_refuse_if_full.nd (ixAt 5) (Or.inl rfl) ?hl;(case hl=>refine' pe_ix ix_tup ?hk (pv 2) (fun _ _=>rfl);(case hk=>refine' pe_ix ix_tup (pv 1) pe_int (fun _ _=>rfl))));(case hZ=>refine' pss_cons ?hW ?hX;(case hW=>refine' ps_if ?hy ?hz pss_nil;(case hy=>refine' pt_cmpR op_ge ?hs (pv 5) (nomark _);(case hs=>refine' pe_callB call_len_seq rfl T.b_len PySem.boot_len ?hr;(case hr=>refine' pa_c ?hq pa_nil;(case hq=>refine' pe_cl C_cards_in hr ?ho rfl ?hp;(case ho=>refine' pa_c (pv 0) ?hn;(case hn=>refine' pa_c (pv 1) ?hm;(case hm=>refine' pa_c (pv 2) pa_nil)));(case hp=>decide)))));(case hz=>refine' pss_one ?hx;(case hx=>refine' ps_raise xe_cx ?hw;(case hw=>refine' pe_makeX M_Full hr ?hu rfl ?hv;(case hu=>refine' pa_c (pv 4) ?ht;(case ht=>refine' pa_c (pv 5) pa_nil));(case hv=>decide)))));(case hX=>refine' pss_cons ?hU ?hV;(case hU=>refine' ps_set sc_refuse_if_full.nd (ixAt 6) (Or.inl rfl) ?hE;(case hE=>refine' pe_cl C_kind_bound hr ?hC rfl ?hD;(case hC=>refine' pa_c (pv 0) ?hB;(case hB=>refine' pa_c (pv 3) ?hA;(case hA=>refine' pa_c (pv 2) pa_nil)));(case hD=>decide)));(case hV=>refine' pss_one ?hT;(case hT=>refine' ps_if ?hR ?hS pss_nil;(case hR=>refine' pt_cmpR op_ge ?hK (pv 6) (nomark _);(case hK=>refine' pe_cl C_many_of hr ?hI rfl ?hJ;(case hI=>refine' pa_c (pv 0) ?hH;(case hH=>refine' pa_c (pv 1) ?hG;(case hG=>refine' pa_c (pv 2) ?hF;(case hF=>refine' pa_c (pv 3) pa_nil))));(case hJ=>decide)));(case hS=>refine' pss_one ?hQ;(case hQ=>refine' ps_raise xe_cx ?hP;(case hP=>refine' pe_makeX M_KindFull hr ?hN rfl ?hO;(case hN=>refine' pa_c (pv 4) ?hM;(case hM=>refine' pa_c (pv 3) ?hL;(case hL=>refine' pa_c (pv 6) pa_nil)));(case hO=>decide))))))))))
 obtain ⟨b,la,ka,lv,kv,rfl,hb,hla,hls,hka,hks,el,ek⟩:=Pl.view hp
 obtain ⟨a,ba,ca,wa,cv,wv,rfl,ha,hba,hca,hcs,hwa,hws,ec,ew⟩:=Sd.view hs
 refine ⟨_,rfl,_,_,rfl,rfl,_,rfl,?_⟩
 have q0 : ¬ (0 <= l/\l < p.n)->Q .non H:=fun hn=>q1 (by unfold fullD;rw [if_neg hn]) H Ext.refl
 refine ite2 (fun c0=>?_) (fun c0=>?_)
 ·refine ⟨_,rfl,b,_,_,_,rfl,rfl,SqT.of hb,rfl,la,lv,rfl,.inr (SqT.of hla),_,_,rfl,rfl,_,rfl,?_⟩
  have l0 : 0 <= l:=of_decide_eq_true c0
  rw [el]
  cases c1 : decide (l < ((p.ls.length : Nat) : Int)) with
  | false =>
   refine iteT ?_
   exact q0 fun hn=>by
    have : ¬ l < ((p.ls.length : Nat) : Int):=of_decide_eq_false c1
    exact this hn.2
  | true =>
   refine iteF ?_
   have l1 : l < p.n:=of_decide_eq_true c1
   have hlt : l.toNat < p.ls.length:=by unfold Pl.n at l1;omega
   obtain ⟨y,hy,hdy⟩:=hls.nth' (List.getElem?_eq_getElem hlt)
   obtain ⟨c,rfl,hc⟩:=ln_view hdy
   have hbn : l.toNat < sd.bs.length:=by have:=So.nb;omega
   have hmem : p.ls[l.toNat] ∈ p.ls:=List.getElem_mem hlt
   have hnm : p.ls[l.toNat].1.length <= 1000:=Po.ln _ hmem
   have g1 : (p.ls.getD l.toNat ("",0)) = p.ls[l.toNat]:=by rw [List.getD_eq_getElem?_getD,List.getElem?_eq_getElem hlt];rfl
   have g2 : (sd.bs.getD l.toNat 0) = sd.bs[l.toNat]:=by rw [List.getD_eq_getElem?_getD,List.getElem?_eq_getElem hbn];rfl
   have ef : fullD p sd l x = if sd.bs[l.toNat] <= ((sd.inL p l).length : Int) then some (.full p.ls[l.toNat].1 sd.bs[l.toNat]) else if p.kb x l <= (sd.many p l x : Int) then some (.kindFull p.ls[l.toNat].1 x (p.kb x l)) else none:=by
    unfold fullD
    rw [if_pos ⟨l0,l1⟩,g1,g2]
   refine ⟨_,rfl,b,_,_,_,rfl,rfl,SqT.of hb,rfl,_,rfl,la,_,_,_,rfl,rfl,SqT.of hla,atI_pos l0 hy,c,_,_,_,rfl,rfl,SqT.of hc,rfl,?_⟩
   refine ⟨_,rfl,a,_,_,_,rfl,rfl,SqT.of ha,rfl,_,rfl,ba,_,_,.int sd.bs[l.toNat],rfl,rfl,SqT.of hba,atI_pos l0 (by rw [List.getElem?_map,List.getElem?_eq_getElem hbn];rfl),?_⟩
   refine ⟨_,rfl,_,rfl,_,rfl,p,sd,_,_,l,rfl,hp,hs,Po,So,fun d H1 hd0 e1 hd=>?_⟩
   refine ⟨d,_,rfl,.inl (SqL.of hd),_,rfl,_,_,rfl,rfl,_,rfl,?_⟩
   rw [List.length_map]
   have sb : Says (.int sd.bs[l.toNat]):=Bo.b _ (List.getElem_mem hbn)
   refine ite2 (fun c2=>?_) (fun c2=>?_)
   ·have c2':=of_decide_eq_true c2
    rw [if_pos c2'] at ef
    exact ⟨_,rfl,_,rfl,raise_x ["lane","bound"] [.str p.ls[l.toNat].1,.int sd.bs[l.toNat]] (q2 _ ef) e1 (says2 (says_str hnm) sb) r1⟩
   have c2' : ¬ sd.bs[l.toNat] <= ((sd.inL p l).length : Int):=fun z=>c2 (decide_eq_true z)
   rw [if_neg c2'] at ef
   obtain ⟨i1,i2⟩:=idx_first (hw l0 l1)
   have hkm:=(kd_in hk).1
   have hbi : kd.way.findIdx (· == l) < kd.bds.length:=by
    have:=(List.getElem?_eq_some_iff.mp i1).1
    rw [(Po.kw kd hkm).2.1]
    exact this
   have ekb : p.kb x l = kd.bds[kd.way.findIdx (· == l)]:=by
    unfold Pl.kb
    rw [hk]
    show kd.bds.getD _ 0 = _
    rw [List.getD_eq_getElem?_getD,List.getElem?_eq_getElem hbi]
    rfl
   refine ⟨_,rfl,_,rfl,_,rfl,p,_,x,l,kd,_,_,rfl,IsD.ext e1 hp,hx,hk,i1,i2,List.getElem?_eq_getElem hbi,fun H2 e2=>?_⟩
   refine ⟨_,rfl,_,rfl,_,rfl,_,rfl,p,sd,_,_,l,x,kd,rfl,IsD.ext (e1.trans e2) hp,IsD.ext (e1.trans e2) hs,Po,So,hx,hk,fun H3 e3=>?_⟩
   refine ⟨_,rfl,_,_,rfl,rfl,_,rfl,?_⟩
   rw [<- ekb]
   have sk : Says (.int (p.kb x l)):=by rw [ekb];exact Bo.k kd hkm _ (List.getElem_mem hbi)
   refine ite2 (fun c3=>?_) (fun c3=>?_)
   ·have c3':=of_decide_eq_true c3
    rw [if_pos c3'] at ef
    exact ⟨_,rfl,_,rfl,_,rfl,raise_x ["lane","kind","bound"] [.str p.ls[l.toNat].1,.str x,.int (p.kb x l)] (q2 _ ef) ((e1.trans e2).trans e3) (says3 (says_str hnm) (says_str hx) sk) r2⟩
   ·have c3' : ¬ p.kb x l <= (sd.many p l x : Int):=fun z=>c3 (decide_eq_true z)
    rw [if_neg c3'] at ef
    exact q1 ef H3 ((e1.trans e2).trans e3)
 ·refine ⟨_,rfl,iteT (q0 fun hn=>?_)⟩
  have : ¬ 0 <= l:=fun z=>c0 (decide_eq_true z)
  exact this hn.1
abbrev s_with_card : Stmt:=top 27
theorem sc_with_card : FnScope ["stand","new","bounds","cards","waits"] ["stand","new"] (defScope s_with_card):=⟨rfl,rfl,rfl,by decide +kernel,rfl,by decide +kernel,by decide +kernel⟩
theorem ok_with_card {f c0 tP : Addr} {fd : FuncData} (F : FunC K "with_card" "with_card" s_with_card f fd c0) (T : TxG K mg) (hcd : PySem.W.CodeHd base c0 tP) (hbm : BltMod mg base) (hts : tP ∈ ts) : FnOk P w K mg base CX0 3 f fd ["stand","new"] (spWith ts):=by
 refine F.ok sc_with_card (fun vs H Q E h=>?_) (fun A outer s H vs Q E hr h=>?_)
 ·obtain ⟨sd,c,u,cu,rfl,_⟩:=h
  rfl
 obtain ⟨sd,c,u,cu,rfl,hs,hc,hn,tb,q⟩:=h
 refine' ⟨_,?hh,?rr⟩
 case hh=>refine' pss_cons ?hC ?hD;(case hC=>refine' ps_asg (pv 0) ?hh;(case hh=>refine' pg_tup rfl ?hg;(case hg=>refine' pgs_cons ?he ?hf;(case he=>refine' pg_name sc_with_card.nd (ixAt 2) (Or.inl rfl) (Or.inl rfl));(case hf=>refine' pgs_cons ?hc ?hd;(case hc=>refine' pg_name sc_with_card.nd (ixAt 3) (Or.inl rfl) (Or.inl rfl));(case hd=>refine' pgs_cons ?hb pgs_nil;(case hb=>refine' pg_name sc_with_card.nd (ixAt 4) (Or.inl rfl) (Or.inl rfl)))))));(case hD=>refine' pss_one ?hB;(case hB=>refine' ps_ret ?hA;(case hA=>refine' pe_tup ?hz;(case hz=>refine' pa_c (pv 2) ?hy;(case hy=>refine' pa_c ?hw ?hx;(case hw=>refine' pe_tupgen hr rfl rfl hcd hbm rfl T.b_tuple ?ho (compN ["card","new"] 1 [1]) ?hp ?hq ?hr ?hs ?ht ?hu ?hv;(case ho=>exact ⟨rfl,rfl,by decide +kernel,rfl,(show ∀ y : Str × NameKind,y ∈ _->y.2 = NameKind.free->(defScope s_with_card).names.lookup y.1 = some .cell\/(defScope s_with_card).names.lookup y.1 = some .free from by decide +kernel)⟩);(case hp=>decide +kernel);(case hq=>decide);(case hr=>refine' pi_tup (pv 3));(case hs=>intro _ _ _ _ _ _;refine' pg_name ?hi (ixAt 0) (Or.inl rfl) (Or.inr rfl);(case hi=>exact (show (["card","new"] : List Str).Nodup from by decide +kernel)));(case ht=>exact (gown_name (by decide)));(case hu=>intro _ _ _ _ _ _;exact pts_nil);(case hv=>intro _ _ _ _ _ _;refine' pe_ifExp ?hn (pv 1) (pv 0);(case hn=>refine' pt_cmpR op_eq ?hl ?hm (nomark _);(case hl=>refine' pe_ix ?hj (pv 0) pe_int (fun _ _=>rfl);(case hj=>exact (show IxR _ (rIxT K) from ix_tup)));(case hm=>refine' pe_ix ?hk (pv 1) pe_int (fun _ _=>rfl);(case hk=>exact (show IxR _ (rIxT K) from ix_tup))))));(case hx=>refine' pa_c (pv 4) pa_nil))))))
 obtain ⟨ps,hps⟩:=tb tP hts
 obtain ⟨a,us,rfl,_,ha,v1,r1,rfl,h1,v2,r2,rfl,h2,v3,r3,rfl,h3,rfl⟩:=hs
 obtain ⟨ca,cv,rfl,_,hca,hcs⟩:=h2
 obtain ⟨n,rfl,hnw⟩:=Cd.view hc
 have ec:=hcs.length
 rw [List.length_map] at ec
 refine ⟨_,rfl,_,_,rfl,SqT.of ha,rfl,_,_,rfl,_,_,rfl,_,_,rfl,rfl,?_⟩
 refine ⟨_,rfl,_,rfl,ca,rfl,⟨cv,SqT.of hca⟩,⟨ps,hps⟩,fun ps' tb' D hD=>?_⟩
 have e0 : Ext [] H (upd H tP (.tbl ps')):=Ext.tbl hps.1 tb'.2
 have hD0 : H D = none:=e0.free (by simp) hD
 have hcs':=IsDs.more hD0 hcs
 have hc':=IsD.more hD0 hc
 refine tupgen_by0 (yields_tup (ys:=cv)) (fun i xs H2=>Ext [] H H2/\H2 D = some (.lst xs)/\IsDs [D] H2 ((sd.cs.take i).map fun d=>Cd.d (if (d.nm == c.nm) = true then c else d)) xs/\xs.length = i) ⟨putE e0 hD0,upd_same,rfl,rfl⟩ (fun _ _ _ h=>SqT.of (h.1.tup (by simp) hca)) (fun _ _ _ h=>h.2.1) ?_ ?_
 ·rintro i y xs H2 hy hi ⟨e,hDx,hxs,hxl⟩
  obtain ⟨d,hd,hdy⟩:=hcs'.nth hy
  have e' : Ext [D] H H2:=e.mono (by simp)
  have hdy2:=IsD.ext e' hdy
  have hc2:=IsD.ext e' hc'
  obtain ⟨b,rfl,hb⟩:=Cd.view hdy2
  have tk:=take_snoc hd
  refine ⟨_,rfl,b,_,_,.str d.nm,rfl,rfl,SqT.of hb,rfl,_,rfl,n,_,_,.str c.nm,rfl,rfl,SqT.of (e.tup (by simp) hnw),rfl,rfl,_,rfl,?_⟩
  have small : xs.length < sizeLine:=small1000 (by omega)
  have next : ∀ v,IsD [D] H2 (Cd.d (if (d.nm == c.nm) = true then c else d)) v->Nx cv.length i (Ext [] H (upd H2 D (.lst (xs ++ [v])))/\(upd H2 D (.lst (xs ++ [v]))) D = some (.lst (xs ++ [v]))/\IsDs [D] (upd H2 D (.lst (xs ++ [v]))) ((sd.cs.take (i + 1)).map fun d=>Cd.d (if (d.nm == c.nm) = true then c else d)) (xs ++ [v])/\(xs ++ [v]).length = i + 1):=fun v hv=>by
   refine nx hi ⟨putE e hD0,upd_same,?_,by simp [hxl]⟩
   rw [tk,List.map_append]
   exact IsDs.ext (Ext.put (by simp) _) (IsDs.append hxs ⟨v,_,rfl,hv,rfl⟩)
  refine ite2 (fun cc=>?_) (fun cc=>?_)
  ·have cc' : (d.nm == c.nm) = true:=by simpa using cc
   rw [if_pos cc'] at next
   exact ⟨_,rfl,hDx,small,next _ hc2⟩
  ·have cc' : ¬ (d.nm == c.nm) = true:=by simpa using cc
   rw [if_neg cc'] at next
   exact ⟨_,rfl,hDx,small,next _ hdy2⟩
 ·rintro xs H2 ⟨e,hDx,hxs,hxl⟩ t ht
  rw [ec,List.take_length] at hxs
  have hxs0:=IsDs.less (ex':=[]) (by simp) hxs
  have e3 : Ext [] H2 (upd H2 t (.tup xs)):=Ext.new ht _
  generalize hH3 : upd H2 t (.tup xs) = H3 at e3 ⊢
  have ht3 : H3 t = some (.tup xs):=by rw [<- hH3];exact upd_same
  have hx3:=IsDs.ext e3 hxs0
  refine ⟨_,rfl,by show 3 <= sizeLine;decide,fun t2 ht2=>?_⟩
  have e4 : Ext [] H3 (upd H3 t2 (.tup [v1,.ref t,v3])):=Ext.new ht2 _
  have e14:=(e.trans e3).trans e4
  refine q _ _ e14 ⟨t2,_,rfl,by simp,upd_same,v1,_,rfl,IsD.ext e14 h1,.ref t,_,rfl,⟨t,xs,rfl,by simp,e4.tup (by simp) ht3,?_⟩,v3,_,rfl,IsD.ext e14 h3,rfl⟩
  have:=IsDs.ext e4 hx3
  unfold Sd.put
  rw [List.map_map]
  exact this
end
end K12
end

section
set_option Elab.async false
set_option linter.all false
set_option maxRecDepth 100000
set_option maxHeartbeats 1000000
namespace K12
open PySem PySem.Spec L2 PyProof.Rows PySem.W
def spPull (k : XCs) (ts : List Addr) (o : Pl->Sd->Str->Except Ref Cd) : Sp:=fun vs H Q E=>∃ (p : Pl) (s : Sd) (v u : V) (x : Str),vs = [v,u,.str x]/\IsD [] H p.d v/\IsD [] H s.d u/\x.length <= 1000/\POk p/\SOk p s/\BOk p s/\Tb ts H /\
 (∀ c r H',o p s x = .ok c->Ext [] H H'->IsD [] H' (s.put c).d r->Q r H')/\∀ r,o p s x = .error r->XFs (r.cls k) (r.fs x) H E
section
variable {P : Program} {w : World} {K : PySem.W.Frag} {mg : Str->Option Value} {base : Heap} {CK CC : Addr} {k : XCs} {ts : List Addr}
theorem card_is {H : Hp} {n kd : Str} {pl : Int} {bk : Bool} {t : Addr} (h : H t = some (.tup [.str n,.str kd,.int pl,.bl bk])) : IsD [] H (Cd.d ⟨n,kd,pl,bk⟩) (.ref t) :=
 ⟨t,_,rfl,by simp,h,_,_,rfl,rfl,_,_,rfl,rfl,_,_,rfl,rfl,_,_,rfl,rfl,rfl⟩
abbrev s_pulled : Stmt:=top 31
theorem sc_pulled : FnScope ["plan","stand","card","name","kind","place","blocked","lane"] ["plan","stand","card"] (defScope s_pulled):=⟨rfl,rfl,rfl,by decide +kernel,rfl,by decide +kernel,by decide +kernel⟩
theorem ok_pulled {f : Addr} {fd : FuncData} (F : Fun K "pulled" "pulled" s_pulled f fd) (C_card_that_can_move : CallOkX P w K mg base "card_that_can_move" 9 ["plan","stand","card"] (spMove k)) (C_lane_at : CallOk P w K mg base "lane_at" 6 ["plan","kind","place"] spLaneAt) (C_refuse_if_it_waits : CallOkX P w K mg base "refuse_if_it_waits" 9 ["plan","stand","card","lane"] (spBar k))
  (C_refuse_if_full : CallOkX P w K mg base "refuse_if_full" 8 ["plan","stand","lane","kind"] (spFull k)) (C_with_card : CallOk P w K mg base "with_card" 3 ["stand","new"] (spWith ts)) (hts : ∀ t ∈ ts,t ∉ ([] : List Addr)) : FnOk P w K mg base (CXF P w) 10 f fd ["plan","stand","card"] (spPull k ts pullD):=by
 refine F.okX sc_pulled (fun vs H Q E h=>?_) (fun cdv A outer s H vs Q E hr h=>?_)
 ·obtain ⟨p,sd,v,u,x,rfl,_⟩:=h
  rfl
 obtain ⟨p,sd,v,u,x,rfl,hp,hs,hx,Po,So,Bo,tb,q1,q2⟩:=h
 refine' ⟨_,?hh,?rr⟩
 case hh=>refine' pss_cons ?hY ?hZ;(case hY=>refine' ps_asg ?hn ?ho;(case hn=>refine' pe_clX xe_cx C_card_that_can_move hr ?hd rfl ?he;(case hd=>refine' pa_c (pv 0) ?hc;(case hc=>refine' pa_c (pv 1) ?hb;(case hb=>refine' pa_c (pv 2) pa_nil)));(case he=>decide));(case ho=>refine' pg_tup rfl ?hm;(case hm=>refine' pgs_cons ?hk ?hl;(case hk=>refine' pg_name sc_pulled.nd (ixAt 3) (Or.inl rfl) (Or.inl rfl));(case hl=>refine' pgs_cons ?hi ?hj;(case hi=>refine' pg_name sc_pulled.nd (ixAt 4) (Or.inl rfl) (Or.inl rfl));(case hj=>refine' pgs_cons ?hg ?hh;(case hg=>refine' pg_name sc_pulled.nd (ixAt 5) (Or.inl rfl) (Or.inl rfl));(case hh=>refine' pgs_cons ?hf pgs_nil;(case hf=>refine' pg_name sc_pulled.nd (ixAt 6) (Or.inl rfl) (Or.inl rfl))))))));(case hZ=>refine' pss_cons ?hW ?hX;(case hW=>refine' ps_set sc_pulled.nd (ixAt 7) (Or.inl rfl) ?hu;(case hu=>refine' pe_cl C_lane_at hr ?hs rfl ?ht;(case hs=>refine' pa_c (pv 0) ?hr;(case hr=>refine' pa_c (pv 4) ?hq;(case hq=>refine' pa_c ?hp pa_nil;(case hp=>refine' pe_op op_add (pv 5) pe_int))));(case ht=>decide)));(case hX=>refine' pss_cons ?hU ?hV;(case hU=>refine' ps_expr ?hA;(case hA=>refine' pe_clX xe_cx C_refuse_if_it_waits hr ?hy rfl ?hz;(case hy=>refine' pa_c (pv 0) ?hx;(case hx=>refine' pa_c (pv 1) ?hw;(case hw=>refine' pa_c (pv 2) ?hv;(case hv=>refine' pa_c (pv 7) pa_nil))));(case hz=>decide)));(case hV=>refine' pss_cons ?hS ?hT;(case hS=>refine' ps_expr ?hG;(case hG=>refine' pe_clX xe_cx C_refuse_if_full hr ?hE rfl ?hF;(case hE=>refine' pa_c (pv 0) ?hD;(case hD=>refine' pa_c (pv 1) ?hC;(case hC=>refine' pa_c (pv 7) ?hB;(case hB=>refine' pa_c (pv 4) pa_nil))));(case hF=>decide)));(case hT=>refine' pss_one ?hR;(case hR=>refine' ps_ret ?hQ;(case hQ=>refine' pe_cl C_with_card hr ?hO rfl ?hP;(case hO=>refine' pa_c (pv 1) ?hN;(case hN=>refine' pa_c ?hM pa_nil;(case hM=>refine' pe_tup ?hL;(case hL=>refine' pa_c (pv 3) ?hK;(case hK=>refine' pa_c (pv 4) ?hJ;(case hJ=>refine' pa_c ?hH ?hI;(case hH=>refine' pe_op op_add (pv 5) pe_int);(case hI=>refine' pa_c (pv 6) pa_nil)))))));(case hP=>decide)))))))
 refine ⟨_,rfl,_,rfl,_,rfl,p,sd,v,u,x,rfl,hp,hs,hx,Po,So,fun c cu H1 hm e1 hcu=>?_,fun r hm=>XFs.on (q2 r (by unfold pullD;rw [hm]))⟩
 obtain ⟨hc,hno,hbk⟩:=mov_ok hm
 obtain ⟨hcm,hcn⟩:=cd_in hc
 have Co:=So.c c hcm
 obtain ⟨_,kd,hk,p0,p1⟩:=id Co
 have p2:=not_out hk p1 hno
 have lk:=COk.kd Po Co
 obtain ⟨a,rfl,ha⟩:=Cd.view hcu
 have ep : pullD p sd x = match sd.ws.find? (bars p sd x (p.at c.kd (c.pl + 1))) with
  | some w=>.error (.waits w.ot)
  | none=>match fullD p sd (p.at c.kd (c.pl + 1)) c.kd with
   | some r=>.error r
   | none=>.ok { c with pl:=c.pl + 1 }:=by unfold pullD;rw [hm] <;> rfl
 refine ⟨_,_,rfl,SqT.of ha,rfl,_,_,rfl,_,_,rfl,_,_,rfl,_,_,rfl,rfl,?_⟩
 refine ⟨_,rfl,_,rfl,_,rfl,_,_,rfl,rfl,p,v,c.kd,c.pl + 1,kd,rfl,IsD.ext e1 hp,lk,hk,by omega,fun H2 e2=>?_⟩
 have e12:=e1.trans e2
 refine ⟨_,rfl,_,rfl,_,rfl,_,rfl,p,sd,v,u,x,_,rfl,IsD.ext e12 hp,IsD.ext e12 hs,hx,Po,So,fun hb H3 e3=>?_,fun w' hb=>XFs.on ((q2 (.waits w'.ot) (by rw [ep,hb])).up e12)⟩
 rw [hb] at ep
 have e13:=e12.trans e3
 refine ⟨_,rfl,_,rfl,_,rfl,_,rfl,p,sd,v,u,_,c.kd,x,kd,rfl,IsD.ext e13 hp,IsD.ext e13 hs,lk,Po,So,Bo,hk,fun h0 h1=>at_mem hk (by omega) h0 h1,fun hf H4 e4=>?_,fun r hf=>XFs.on ((q2 r (by rw [ep,hf])).up e13)⟩
 rw [hf] at ep
 have e14:=e13.trans e4
 refine ⟨_,rfl,_,rfl,_,rfl,_,rfl,_,_,rfl,rfl,_,rfl,by show 4 <= sizeLine;decide,fun t ht=>?_⟩
 have e5 : Ext [] H4 (upd H4 t (.tup [.str c.nm,.str c.kd,.int (c.pl + 1),.bl c.bk])):=Ext.new ht _
 have e15:=e14.trans e5
 exact ⟨sd,{ c with pl:=c.pl + 1 },u,.ref t,rfl,IsD.ext e15 hs,card_is upd_same,So.nc,e15.tb tb hts,fun r H6 e6 hr6=>q1 _ r H6 ep (e15.trans e6) hr6⟩
abbrev s_put_back : Stmt:=top 32
theorem sc_put_back : FnScope ["plan","stand","card","name","kind","place","blocked"] ["plan","stand","card"] (defScope s_put_back):=⟨rfl,rfl,rfl,by decide +kernel,rfl,by decide +kernel,by decide +kernel⟩
theorem ok_put_back {f : Addr} {fd : FuncData} (F : Fun K "put_back" "put_back" s_put_back f fd) (M_InYard : MakeOk P w K mg base "InYard" k.IY 2 ["self","card"] (spIniN k.IY ["card"])) (r1 : raisesIn K k.IY = true) (C_card_that_can_move : CallOkX P w K mg base "card_that_can_move" 9 ["plan","stand","card"] (spMove k)) (C_lane_at : CallOk P w K mg base "lane_at" 6 ["plan","kind","place"] spLaneAt)
  (C_refuse_if_full : CallOkX P w K mg base "refuse_if_full" 8 ["plan","stand","lane","kind"] (spFull k)) (C_with_card : CallOk P w K mg base "with_card" 3 ["stand","new"] (spWith ts)) (hts : ∀ t ∈ ts,t ∉ ([] : List Addr)) : FnOk P w K mg base (CXF P w) 10 f fd ["plan","stand","card"] (spPull k ts backD):=by
 refine F.okX sc_put_back (fun vs H Q E h=>?_) (fun cdv A outer s H vs Q E hr h=>?_)
 ·obtain ⟨p,sd,v,u,x,rfl,_⟩:=h
  rfl
 obtain ⟨p,sd,v,u,x,rfl,hp,hs,hx,Po,So,Bo,tb,q1,q2⟩:=h
 refine' ⟨_,?hh,?rr⟩
 case hh=>refine' pss_cons ?hW ?hX;(case hW=>refine' ps_asg ?hn ?ho;(case hn=>refine' pe_clX xe_cx C_card_that_can_move hr ?hd rfl ?he;(case hd=>refine' pa_c (pv 0) ?hc;(case hc=>refine' pa_c (pv 1) ?hb;(case hb=>refine' pa_c (pv 2) pa_nil)));(case he=>decide));(case ho=>refine' pg_tup rfl ?hm;(case hm=>refine' pgs_cons ?hk ?hl;(case hk=>refine' pg_name sc_put_back.nd (ixAt 3) (Or.inl rfl) (Or.inl rfl));(case hl=>refine' pgs_cons ?hi ?hj;(case hi=>refine' pg_name sc_put_back.nd (ixAt 4) (Or.inl rfl) (Or.inl rfl));(case hj=>refine' pgs_cons ?hg ?hh;(case hg=>refine' pg_name sc_put_back.nd (ixAt 5) (Or.inl rfl) (Or.inl rfl));(case hh=>refine' pgs_cons ?hf pgs_nil;(case hf=>refine' pg_name sc_put_back.nd (ixAt 6) (Or.inl rfl) (Or.inl rfl))))))));(case hX=>refine' pss_cons ?hU ?hV;(case hU=>refine' ps_if ?ht ?hu pss_nil;(case ht=>refine' pt_cmpR op_eq (pv 5) pe_int (nomark _));(case hu=>refine' pss_one ?hs;(case hs=>refine' ps_raise xe_cx ?hr;(case hr=>refine' pe_makeX M_InYard hr ?hp rfl ?hq;(case hp=>refine' pa_c (pv 2) pa_nil);(case hq=>decide)))));(case hV=>refine' pss_cons ?hS ?hT;(case hS=>refine' ps_expr ?hG;(case hG=>refine' pe_clX xe_cx C_refuse_if_full hr ?hE rfl ?hF;(case hE=>refine' pa_c (pv 0) ?hD;(case hD=>refine' pa_c (pv 1) ?hC;(case hC=>refine' pa_c ?hA ?hB;(case hA=>refine' pe_cl C_lane_at hr ?hy rfl ?hz;(case hy=>refine' pa_c (pv 0) ?hx;(case hx=>refine' pa_c (pv 4) ?hw;(case hw=>refine' pa_c ?hv pa_nil;(case hv=>refine' pe_op op_sub (pv 5) pe_int))));(case hz=>decide));(case hB=>refine' pa_c (pv 4) pa_nil))));(case hF=>decide)));(case hT=>refine' pss_one ?hR;(case hR=>refine' ps_ret ?hQ;(case hQ=>refine' pe_cl C_with_card hr ?hO rfl ?hP;(case hO=>refine' pa_c (pv 1) ?hN;(case hN=>refine' pa_c ?hM pa_nil;(case hM=>refine' pe_tup ?hL;(case hL=>refine' pa_c (pv 3) ?hK;(case hK=>refine' pa_c (pv 4) ?hJ;(case hJ=>refine' pa_c ?hH ?hI;(case hH=>refine' pe_op op_sub (pv 5) pe_int);(case hI=>refine' pa_c (pv 6) pa_nil)))))));(case hP=>decide))))))
 refine ⟨_,rfl,_,rfl,_,rfl,p,sd,v,u,x,rfl,hp,hs,hx,Po,So,fun c cu H1 hm e1 hcu=>?_,fun r hm=>XFs.on (q2 r (by unfold backD;rw [hm]))⟩
 obtain ⟨hc,hno,hbk⟩:=mov_ok hm
 obtain ⟨hcm,hcn⟩:=cd_in hc
 have Co:=So.c c hcm
 obtain ⟨_,kd,hk,p0,p1⟩:=id Co
 have p2:=not_out hk p1 hno
 have lk:=COk.kd Po Co
 obtain ⟨a,rfl,ha⟩:=Cd.view hcu
 have ep : backD p sd x = if c.pl = 0 then .error .inYard else match fullD p sd (p.at c.kd (c.pl - 1)) c.kd with
   | some r=>.error r
   | none=>.ok { c with pl:=c.pl - 1 }:=by unfold backD;rw [hm] <;> rfl
 refine ⟨_,_,rfl,SqT.of ha,rfl,_,_,rfl,_,_,rfl,_,_,rfl,_,_,rfl,rfl,?_⟩
 refine ⟨_,rfl,rfl,_,rfl,?_⟩
 refine ite2 (fun cc=>?_) (fun cc=>?_)
 ·have cc' : c.pl = 0:=by simpa using cc
  rw [if_pos cc'] at ep
  exact ⟨_,rfl,raise_x ["card"] [.str x] (q2 _ ep) e1 (says1 (says_str hx)) r1⟩
 have cc' : ¬ c.pl = 0:=by simpa using cc
 rw [if_neg cc'] at ep
 refine ⟨_,rfl,_,rfl,_,rfl,_,rfl,_,rfl,_,_,rfl,rfl,p,v,c.kd,c.pl - 1,kd,rfl,IsD.ext e1 hp,lk,hk,by omega,fun H2 e2=>?_⟩
 have e12:=e1.trans e2
 refine ⟨_,rfl,p,sd,v,u,_,c.kd,x,kd,rfl,IsD.ext e12 hp,IsD.ext e12 hs,lk,Po,So,Bo,hk,fun h0 h1=>at_mem hk (by omega) h0 h1,fun hf H4 e4=>?_,fun r hf=>XFs.on ((q2 r (by rw [ep,hf])).up e12)⟩
 rw [hf] at ep
 have e14:=e12.trans e4
 refine ⟨_,rfl,_,rfl,_,rfl,_,rfl,_,_,rfl,rfl,_,rfl,by show 4 <= sizeLine;decide,fun t ht=>?_⟩
 have e5 : Ext [] H4 (upd H4 t (.tup [.str c.nm,.str c.kd,.int (c.pl - 1),.bl c.bk])):=Ext.new ht _
 have e15:=e14.trans e5
 exact ⟨sd,{ c with pl:=c.pl - 1 },u,.ref t,rfl,IsD.ext e15 hs,card_is upd_same,So.nc,e15.tb tb hts,fun r H6 e6 hr6=>q1 _ r H6 ep (e15.trans e6) hr6⟩
end
end K12
end

section
set_option Elab.async false
set_option linter.all false
set_option maxRecDepth 100000
set_option maxHeartbeats 1000000
namespace K12
open PySem PySem.Spec L2 PyProof.Rows PySem.W
def Sd.less (s : Sd) (x y : Str) : List Wt:=s.ws.filter fun t=>t.cd != x || t.ot != y
def spLess (CC CW : Addr) (ts : List Addr) : Sp:=fun vs H Q E=>∃ (s : Sd) (u : V) (x y : Str),vs = [u,.str x,.str y]/\IsD [] H s.d u/\x.length <= 1000/\y.length <= 1000/\s.ws.length <= 900/\Tb ts H /\
 (s.cd? x = none->XFs CC [("card",.str x)] H E)/\(∀ c,s.cd? x = some c->s.cd? y = none->XFs CC [("card",.str y)] H E) /\
 (∀ c o,s.cd? x = some c->s.cd? y = some o->(Sd.less s x y).length = s.ws.length->XFs CW [("card",.str x)] H E) /\
 (∀ c o r H',s.cd? x = some c->s.cd? y = some o->(Sd.less s x y).length ≠ s.ws.length->Ext [] H H'->IsD [] H' (Sd.d { s with ws:=Sd.less s x y }) r->Q r H')
structure TxQ (K : PySem.W.Frag) (mg : Str->Option Value) : Prop where
 b_tuple : mg "tuple" = none
 b_len : mg "len" = none
section
variable {P : Program} {w : World} {K : PySem.W.Frag} {mg : Str->Option Value} {base : Heap} {CC CW : Addr} {ts : List Addr}
abbrev s_without_waits : Stmt:=top 38
theorem sc_without_waits : FnScope ["stand","card","other","bounds","cards","waits","left"] ["stand","card","other"] (defScope s_without_waits):=⟨rfl,rfl,rfl,by decide +kernel,rfl,by decide +kernel,by decide +kernel⟩
theorem ok_without {f c0 tP : Addr} {fd : FuncData} (F : FunC K "without_waits" "without_waits" s_without_waits f fd c0) (T : TxQ K mg) (hcd : PySem.W.CodeHd base c0 tP) (hbm : BltMod mg base) (hts : tP ∈ ts) (hte : ∀ t ∈ ts,t ∉ ([] : List Addr)) (M_NoWait : MakeOk P w K mg base "NoWait" CW 2 ["self","card"] (spIniN CW ["card"])) (r1 : raisesIn K CW = true) (C_card_of : CallOkX P w K mg base "card_of" 4 ["stand","card"] (spCard CC)) : FnOk P w K mg base (CXF P w) 5 f fd ["stand","card","other"] (spLess CC CW ts):=by
 refine F.okX sc_without_waits (fun vs H Q E h=>?_) (fun A outer s H vs Q E hr h=>?_)
 ·obtain ⟨sd,u,x,y,rfl,_⟩:=h
  rfl
 obtain ⟨sd,u,x,y,rfl,hs,hx,hy,hn,tb,q1,q2,q3,q4⟩:=h
 refine' ⟨_,?hh,?rr⟩
 case hh=>refine' pss_cons ?hgb ?hhb;(case hgb=>refine' ps_expr ?he;(case he=>refine' pe_clX xe_cx C_card_of hr ?hc rfl ?hd;(case hc=>refine' pa_c (pv 0) ?hb;(case hb=>refine' pa_c (pv 1) pa_nil));(case hd=>decide)));(case hhb=>refine' pss_cons ?heb ?hfb;(case heb=>refine' ps_expr ?hi;(case hi=>refine' pe_clX xe_cx C_card_of hr ?hg rfl ?hh;(case hg=>refine' pa_c (pv 0) ?hf;(case hf=>refine' pa_c (pv 2) pa_nil));(case hh=>decide)));(case hfb=>refine' pss_cons ?hcb ?hdb;(case hcb=>refine' ps_asg (pv 0) ?hp;(case hp=>refine' pg_tup rfl ?ho;(case ho=>refine' pgs_cons ?hm ?hn;(case hm=>refine' pg_name sc_without_waits.nd (ixAt 3) (Or.inl rfl) (Or.inl rfl));(case hn=>refine' pgs_cons ?hk ?hl;(case hk=>refine' pg_name sc_without_waits.nd (ixAt 4) (Or.inl rfl) (Or.inl rfl));(case hl=>refine' pgs_cons ?hj pgs_nil;(case hj=>refine' pg_name sc_without_waits.nd (ixAt 5) (Or.inl rfl) (Or.inl rfl)))))));(case hdb=>refine' pss_cons ?hab ?hbb;(case hab=>refine' ps_set sc_without_waits.nd (ixAt 6) (Or.inl rfl) ?hI;(case hI=>refine' pe_tupgen hr rfl rfl hcd hbm rfl T.b_tuple ?hA (compN ["wait","card","other"] 1 [1,2]) ?hB ?hC ?hD ?hE ?hF ?hG ?hH;(case hA=>exact ⟨rfl,rfl,by decide +kernel,rfl,(show ∀ y : Str × NameKind,y ∈ _->y.2 = NameKind.free->(defScope s_without_waits).names.lookup y.1 = some .cell\/(defScope s_without_waits).names.lookup y.1 = some .free from by decide +kernel)⟩);(case hB=>decide +kernel);(case hC=>decide);(case hD=>refine' pi_tup (pv 5));(case hE=>intro _ _ _ _ _ _;refine' pg_name ?hq (ixAt 0) (Or.inl rfl) (Or.inr rfl);(case hq=>exact (show (["wait","card","other"] : List Str).Nodup from by decide +kernel)));(case hF=>exact (gown_name (by decide)));(case hG=>intro _ _ _ _ _ _;refine' pts_one ?hz;(case hz=>refine' PW.pt ?hy;(case hy=>refine' pw_or ?hw ?hx;(case hw=>refine' pt_cmpR op_ne ?hs (pv 1) (nomark _);(case hs=>refine' pe_ix ?hr (pv 0) pe_int (fun _ _=>rfl);(case hr=>exact (show IxR _ (rIxT K) from ix_tup))));(case hx=>refine' pw_or1 ?hv;(case hv=>refine' pt_cmpR op_ne ?hu (pv 2) (nomark _);(case hu=>refine' pe_ix ?ht (pv 0) pe_int (fun _ _=>rfl);(case ht=>exact (show IxR _ (rIxT K) from ix_tup))))))));(case hH=>intro _ _ _ _ _ _;exact (pv 0))));(case hbb=>refine' pss_cons ?hY ?hZ;(case hY=>refine' ps_if ?hR ?hS pss_nil;(case hR=>refine' pt_cmpR op_eq ?hL ?hM (nomark _);(case hL=>refine' pe_callB call_len_seq rfl T.b_len PySem.boot_len ?hJ;(case hJ=>refine' pa_c (pv 6) pa_nil));(case hM=>refine' pe_callB call_len_seq rfl T.b_len PySem.boot_len ?hK;(case hK=>refine' pa_c (pv 5) pa_nil)));(case hS=>refine' pss_one ?hQ;(case hQ=>refine' ps_raise xe_cx ?hP;(case hP=>refine' pe_makeX M_NoWait hr ?hN rfl ?hO;(case hN=>refine' pa_c (pv 1) pa_nil);(case hO=>decide)))));(case hZ=>refine' pss_one ?hX;(case hX=>refine' ps_ret ?hW;(case hW=>refine' pe_tup ?hV;(case hV=>refine' pa_c (pv 3) ?hU;(case hU=>refine' pa_c (pv 4) ?hT;(case hT=>refine' pa_c (pv 6) pa_nil))))))))))
 refine ⟨_,rfl,_,rfl,sd,u,x,rfl,hs,hx,fun c cu H1 hc e1 _=>?_,fun hn=>(q1 hn).on⟩
 refine ⟨_,rfl,_,rfl,sd,u,y,rfl,IsD.ext e1 hs,hy,fun o ou H2 ho e2 _=>?_,fun hn=>((q2 c hc hn).up e1).on⟩
 have e12:=e1.trans e2
 have q3':=q3 c o hc ho
 have q4':=fun r H'=>q4 c o r H' hc ho
 clear q1 q2 q3 q4
 have hs2:=IsD.ext e12 hs
 obtain ⟨ps,hps⟩:=(e12.tb tb hte) tP hts
 obtain ⟨a,us,rfl,_,ha,v1,r1',rfl,h1,v2,r2,rfl,h2,v3,r3,rfl,h3,rfl⟩:=hs2
 obtain ⟨wa,wv,rfl,_,hwa,hws⟩:=h3
 have ew:=hws.length
 rw [List.length_map] at ew
 refine ⟨_,rfl,_,_,rfl,SqT.of ha,rfl,_,_,rfl,_,_,rfl,_,_,rfl,rfl,?_⟩
 refine ⟨_,rfl,wa,rfl,⟨wv,SqT.of hwa⟩,⟨ps,hps⟩,fun ps' tb' D hD=>?_⟩
 have e0 : Ext [] H2 (upd H2 tP (.tbl ps')):=Ext.tbl hps.1 tb'.2
 have hD0 : H2 D = none:=e0.free (by simp) hD
 have hws':=IsDs.more hD0 hws
 refine tupgen_by (yields_tup (ys:=wv)) (fun i xs H3=>Ext [] H2 H3/\H3 D = some (.lst xs)/\IsDs [D] H3 (((sd.ws.take i).filter fun t=>t.cd != x || t.ot != y).map Wt.d) xs) ⟨putE e0 hD0,upd_same,rfl⟩ (fun _ _ _ h=>SqT.of (h.1.tup (by simp) hwa)) (fun _ _ _ h=>h.2.1) ?_ ?_
 ·rintro i z xs H3 hz hi ⟨e,hDx,hxs⟩
  obtain ⟨t,ht,hdz⟩:=hws'.nth hz
  have e' : Ext [D] H2 H3:=e.mono (by simp)
  have hdz2:=IsD.ext e' hdz
  obtain ⟨b,rfl,hb⟩:=Wt.view hdz2
  have tk:=take_snoc ht
  have small : xs.length < sizeLine:=by
   have:=hxs.length
   rw [List.length_map] at this
   refine small1000 (Nat.le_trans (Nat.le_of_eq this) (Nat.le_trans (List.length_filter_le _ _) ?_))
   rw [List.length_take]
   omega
  have yes : (t.cd != x || t.ot != y) = true->H3 D = some (.lst xs)/\xs.length < sizeLine/\Nx wv.length i (Ext [] H2 (upd H3 D (.lst (xs ++ [.ref b])))/\(upd H3 D (.lst (xs ++ [.ref b]))) D = some (.lst (xs ++ [.ref b]))/\IsDs [D] (upd H3 D (.lst (xs ++ [.ref b]))) (((sd.ws.take (i + 1)).filter fun t=>t.cd != x || t.ot != y).map Wt.d) (xs ++ [.ref b])):=fun hy=>by
   refine ⟨hDx,small,nx hi ⟨putE e hD0,upd_same,?_⟩⟩
   rw [tk,List.filter_append,List.map_append]
   refine IsDs.ext (Ext.put (by simp) _) (IsDs.append hxs ?_)
   rw [List.filter_cons_of_pos (by simpa using hy)]
   exact ⟨_,_,rfl,hdz2,rfl⟩
  refine ⟨_,rfl,b,_,_,.str t.cd,rfl,rfl,SqT.of hb,rfl,_,rfl,rfl,_,rfl,?_⟩
  refine ite2 (fun cc=>?_) (fun cc=>?_)
  ·have c1 : (t.cd != x) = true:=by simpa using cc
   exact iteT ⟨_,rfl,yes (by rw [c1];rfl)⟩
  ·have c1 : (t.cd != x) = false:=by simpa using cc
   refine ⟨_,rfl,b,_,_,.str t.ot,rfl,rfl,SqT.of hb,rfl,_,rfl,rfl,_,rfl,?_⟩
   refine ite2 (fun c3=>?_) (fun c3=>?_)
   ·have c2 : (t.ot != y) = true:=by simpa using c3
    exact ⟨_,rfl,yes (by rw [c1,c2];rfl)⟩
   ·have c2 : (t.ot != y) = false:=by simpa using c3
    refine nx hi ⟨e,hDx,?_⟩
    rw [tk,List.filter_append,List.map_append,List.filter_cons_of_neg (by rw [c1,c2];decide)]
    simpa using hxs
 ·rintro xs H3 ⟨e,hDx,hxs⟩ t ht
  rw [ew,List.take_length] at hxs
  have hxs0:=IsDs.less (ex':=[]) (by simp) hxs
  have hxl : xs.length = (Sd.less sd x y).length:=by rw [hxs0.length,List.length_map];rfl
  have e3 : Ext [] H3 (upd H3 t (.tup xs)):=Ext.new ht _
  generalize hH4 : upd H3 t (.tup xs) = H4 at e3 ⊢
  have ht4 : H4 t = some (.tup xs):=by rw [<- hH4];exact upd_same
  have hx4:=IsDs.ext e3 hxs0
  have e24:=e.trans e3
  have e14:=e12.trans e24
  refine ⟨_,rfl,t,_,rfl,.inr (SqT.of ht4),_,rfl,wa,_,rfl,.inr (SqT.of (e24.tup (by simp) hwa)),rfl,_,rfl,?_⟩
  refine ite2 (fun cc=>?_) (fun cc=>?_)
  ·have cc' : xs.length = wv.length:=by
    have : (xs.length : Int) = (wv.length : Int):=by simpa using cc
    omega
   exact ⟨_,rfl,raise_x ["card"] [.str x] (q3' (by omega)) e14 (says1 (says_str hx)) r1⟩
  ·have cc' : ¬ xs.length = wv.length:=by
    have : ¬ (xs.length : Int) = (wv.length : Int):=by simpa using cc
    omega
   refine ⟨_,rfl,_,rfl,_,rfl,by show 3 <= sizeLine;decide,fun t2 ht2=>?_⟩
   have e5 : Ext [] H4 (upd H4 t2 (.tup [v1,v2,.ref t])):=Ext.new ht2 _
   have e25:=e24.trans e5
   refine q4' _ _ (by omega) (e12.trans e25) ⟨t2,_,rfl,by simp,upd_same,v1,_,rfl,IsD.ext e25 h1,v2,_,rfl,IsD.ext e25 h2,.ref t,_,rfl,⟨t,xs,rfl,by simp,e5.tup (by simp) ht4,IsDs.ext e5 hx4⟩,rfl⟩
end
end K12
end

section
set_option Elab.async false
set_option linter.all false
set_option maxRecDepth 100000
namespace L2
open PySem PySem.Spec PyProof.Rows
theorem strs_vals : ∀ {us : List Value} {ys : List Str},StrsAre us ys->Vals (ys.map V.str) us
 | _,_,.nil=>.nil
 | _,_,.cons y t r=>.cons ⟨t,rfl⟩ (strs_vals r)
def rSortS (K : PySem.W.Frag) : List V->Hp->VK->Prop:=fun vs H Q=>∃ (a : Addr) (ys : List Str),vs = [.ref a]/\SqL K H a (ys.map V.str)/\ys.length < 64/\∀ p zs,H p = none->zs.Perm ys->sortedS zs = true->Q (.ref p) (upd H p (.lst (zs.map V.str)))
theorem call_sortS {X : Cx} : CallR X (.builtin "sorted") (rSortS X.K):=by
 intro pins s σ H vs us Q I rv h
 obtain ⟨a,ys,rfl,hq,h64,q⟩:=h
 obtain ⟨u,rfl,ru⟩:=rv.one
 obtain rfl : u = .ref a:=ru
 obtain ⟨its,r,pl,hl⟩:=I.list hq
 have hlen:=r.length
 rw [List.length_map] at hlen
 refine sorted_strs pl.isList (strs_of r) (by omega) fun out ss' a1 a2 a3=>?_
 obtain ⟨e,he⟩:=sortedAll_at s.heap its out
 have hl2:=a2.length_eq
 refine ⟨.ref (s.heap.objs.size + 1),_,I.laid (t':=s.toks) (o:=.lst (ss'.map V.str)) (fun b o q=>sortedAll_old q) (Nat.le_succ _) ⟨?_,out.toList,e,strs_vals a1,by simpa using he⟩,rfl,q _ ss' (I.hok.fresh (Nat.le_succ _)) a2 a3⟩
 rw [List.length_map]
 exact Nat.le_of_lt (small1000 (by omega))
end L2
end

section
set_option Elab.async false
set_option linter.all false
set_option maxRecDepth 100000
namespace L2
open PySem PySem.Spec PyProof.Rows
structure Room0 (k : Nat) (A : Around) : Prop where
 dp : A.depth + 3 * k + 5 < recursionLimit
 un : A.units + 16 * k + 200 < cLine
theorem Room.zero {k : Nat} {A : Around} (r : Room k A) : Room0 k A:=⟨r.dp,r.un⟩
theorem Room.mark {k : Nat} {A : Around} {v : Option Value} (r : Room k A) : Room0 k (A.mark v):=⟨r.dp,r.un⟩
theorem Room0.mono {j k : Nat} {A : Around} (r : Room0 k A) (h : j <= k) : Room0 j A:=⟨by have:=r.dp;omega,by have:=r.un;omega⟩
theorem Room0.deeper {k : Nat} {A : Around} (r : Room0 (k + 1) A) (env : Env) : Room0 k (A.deeper env) :=
 ⟨by have:=r.dp;show A.depth + 1 + 3 * k + 5 < _;omega,by have:=r.un;show A.units + 3 + 16 * k + 200 < _;omega⟩
theorem Room0.depth {k : Nat} {A : Around} (r : Room0 k A) : A.depth < recursionLimit:=by have:=r.dp;omega
theorem Room0.units {k : Nat} {A : Around} (r : Room0 k A) : A.units + 64 < cLine:=by have:=r.un;omega
structure FnOkH (P : Program) (w : World) (K : PySem.W.Frag) (mg : Str->Option Value) (base : Heap) (CX : CXT) (k : Nat) (f : Addr) (fd : FuncData) (ps : List Str) (sp : Sp) : Prop where
 len : ∀ vs H Q E,sp vs H Q E->vs.length = ps.length
 run : ∀ (A : Around) (outer : List Env) (s : Shared) (H : Hp) (args : Args) (us : List Value) (vs : List V) (Q : VK) (E : XK),Room0 k A->Env0 P w K mg base A outer s H->BindsTo s fd args (ps.zip us)->Vals vs us->sp vs H Q E ->
  codeAny (model P w) A (.call (.ref f) args) (CR CX outer P w H s Q E) s
abbrev cxH (CX : CXT) (P : Program) (w : World) (K : PySem.W.Frag) (mg : Str->Option Value) (base : Heap) (N : List Str) (qual : Str) (scope : Scope) (f : Addr) (cd : Value) (A : Around) (outer : List Env) (s : Shared) (H : Hp) (E : XK) : Cx:={ cxOf CX P w K mg base N qual scope f cd A outer s H E with calm:=false }
theorem inv_startH {CX : CXT} {P : Program} {w : World} {K : PySem.W.Frag} {mg : Str->Option Value} {base : Heap} {N ps : List Str} {qual : Str} {scope : Scope} {f : Addr} {cd : Value} {A : Around} {outer : List Env} {s s1 : Shared} {H : Hp} {E : XK} {us : List Value} {vs : List V}
  (S : FnScope N ps scope) (e0 : Env0 P w K mg base A outer s H) (hl : vs.length = ps.length) (r : Vals vs us)
  (x : InCallC s s.heap.objs.size (bindL (envOfC qual scope s.heap.objs.size f cd).kindOf (ps.zip us) fun _=>none) (cellsFrom (s.heap.objs.size + 1) scope.names []) (bindC (envOfC qual scope s.heap.objs.size f cd).kindOf (ps.zip us) fun _=>none) s1) :
  Inv (cxH CX P w K mg base N qual scope f cd A outer s H E) [] (start N vs) H s1:=by
 have hpl : ps.length <= N.length:=by have:=congrArg List.length S.pre;rw [List.length_take] at this;omega
 obtain ⟨h1,tk,rfl,hk⟩:=x.done
 have noA : ∀ b : Addr,b ∉ (cxH CX P w K mg base N qual scope f cd A outer s H E).ex:=fun b z=>absurd (show b ∈ ([] : List Addr) from z) (by simp)
 refine ⟨⟨e0.mod,S.kind,rfl,rfl,Nat.le_refl _,fun y z c h1 h2=>?_,fun y hy=>?_,fun y c _ h=>?_,(fun z=>by cases z),Around.frames_deeper e0.frames,.inr ⟨rfl,rfl⟩,fun b z=>absurd z (noA b),e0.bs,e0.bsz,fun b _ _=>noA b,fun b z=>absurd z (noA b),e0.funs,e0.frf⟩,
  rfl,⟨e0.bare,Nat.le_refl _⟩,Un.kept hk,⟨_,x.toInCall.ns,fun i y v h1 h2 h3=>?_⟩,fun y c h=>⟨_,x.cell y c h⟩,e0.hok.fresh (Nat.le_refl _),fun y c h=>?_,fun p hp=>absurd (show p ∈ ([] : List (Addr × Obj)) from hp) (by simp),e0.hok.kept hk,?_⟩
 ·exact name_of_addr x.apart (PySem.mem_of_lookup h1) (PySem.mem_of_lookup h2)
 ·have hy : scope.names.lookup y = some .cell\/scope.names.lookup y = some .free:=hy
  rcases hy with hy | hy
  ·exact cell_has hy
  ·exact absurd rfl (S.nofree _ (PySem.mem_of_lookup hy))
 ·exact Nat.le_of_lt (x.above y c (PySem.mem_of_lookup h))
 ·have hi : i < vs.length:=by
   unfold start at h2
   by_cases hi : i < vs.length
   ·exact hi
   ·rw [List.getElem?_append_right (by simpa using hi)] at h2
    rw [List.getElem?_replicate] at h2
    split at h2 <;> cases h2
  have ha : vs[i]? = some v:=by
   unfold start at h2
   rw [List.getElem?_append_left (by simpa using hi),List.getElem?_map] at h2
   cases e : vs[i]? with
   | none=>rw [e] at h2;cases h2
   | some a=>rw [e] at h2;cases h2;rfl
  obtain ⟨u,hu,rv⟩:=r.get ha
  have hp : ps[i]? = some y:=by
   rw [<- S.pre,List.getElem?_take_of_lt (by omega)];exact h1
  have ndP : ps.Nodup:=by rw [<- S.pre];exact S.nd.sublist (List.take_sublist _ _)
  refine ⟨u,rv,?_⟩
  rcases S.par y (List.mem_of_getElem? hp) with k | k
  ·exact .inl ⟨k,bindL_get ndP hp hu k⟩
  ·obtain ⟨c,e⟩:=cell_has (n:=s.heap.objs.size + 1) k
   refine .inr ⟨.inl k,c,e,?_⟩
   have q:=x.cell y c e
   rw [bindC_get ndP hp hu (by show scope.names.lookup y ≠ _;rw [k];decide)] at q
   exact q
 ·exact e0.hok.fresh (Nat.le_of_lt (x.above y c (PySem.mem_of_lookup h)))
 ·unfold start
  show _ = N.length
  rw [List.length_append,List.length_map,List.length_replicate]
  omega
theorem fn_ofH {CX : CXT} {P : Program} {w : World} {K : PySem.W.Frag} {mg : Str->Option Value} {base : Heap} {k : Nat} {f : Addr} {name qual : Str} {params : Arguments} {body : List Stmt} {scope : Scope} {dV kV doc pm cdv ct oc : Value} {an od : Option Addr}
  {osl : Array (Option Value)} {N ps : List Str} {sp : Sp} (lk : K.lookup f = some ⟨oc,od,.func (PySem.W.fnOf name qual params body scope dV kV doc pm an cdv ct),osl⟩) (hcd : PySem.W.codeIn K cdv qual = true) (S : FnScope N ps scope)
  (len : ∀ vs H Q E,sp vs H Q E->vs.length = ps.length)
  (hbody : ∀ (A : Around) (outer : List Env) (s : Shared) (H : Hp) (vs : List V) (Q : VK) (E : XK),Room0 k (A.deeper (envOfC qual scope s.heap.objs.size f cdv))->sp vs H Q E ->
   ∃ t,PSs (cxH CX P w K mg base N qual scope f cdv A outer s H E) body t/\t { nx:=fun _ H'=>Q .non H',rt:=Q } (start N vs) H) :
  FnOkH P w K mg base CX (k + 1) f (PySem.W.fnOf name qual params body scope dV kV doc pm an cdv ct) ps sp:=by
 refine ⟨len,fun A outer s H args us vs Q E hr e0 hb r hsp=>?_⟩
 have hl:=len _ _ _ _ hsp
 have KX : K.In s.heap:=e0.mod.kin.keeps fun b o e=>(e0.bs b o e).1
 have lim : s.heap.NoLimit:=e0.mod.nolimit.keeps fun b o e=>(e0.bs b o e).1
 have hkind : ∀ y ∈ ps.zip us,scope.names.lookup y.1 = some .local\/(scope.names.lookup y.1 = some .cell/\((cellsFrom (s.heap.objs.size + 1) scope.names []).lookup y.1).isSome = true):=fun ⟨n,v⟩ hy=>by
  rcases S.par n (List.of_mem_zip hy).1 with q | q
  ·exact .inl q
  ·exact .inr ⟨q,PySem.W.cellsFrom_some _ _ _ (.inl q)⟩
 refine codeAny_call_function hr.depth (KX _ _ lk) rfl S.co S.gen rfl (PySem.W.codeRec_of KX hcd) (hb _ _ _ _ ?_)
 refine wpAny_newFunctionEnv_cells S.kind hkind fun env he s1 x=>?_
 subst he
 refine ⟨lim.keeps x.toInCall.keep,codeAny_func ?_⟩
 obtain ⟨t,ht,hq⟩:=hbody A outer s H vs Q E (hr.deeper _) hsp
 have I : Inv (cxH CX P w K mg base N qual scope f cdv A outer s H E) [] (start N vs) H s1:=inv_startH S e0 hl r x
 refine wpAny_mono (ht [] s1 (start N vs) H _ I hq) (fun fl s' hs=>?_) fun e s' hs=>hs
 have fin : ∀ {σ' : St} {H' : Hp} {v : V} {u : Value},Inv (cxH CX P w K mg base N qual scope f cdv A outer s H E) [] σ' H' s'->RelV v u->Q v H'->CE outer P w H s Q u s' :=
  fun {σ' H' v u} J rv q=>⟨v,H',J.os,J.bare,J.base,J.hok,rv,q⟩
 cases fl with
 | ret u =>
  obtain ⟨v,σ',H',J,rv,q⟩:=hs
  exact fin J rv q
 | next =>
  obtain ⟨σ',H',J,q⟩:=hs
  exact fin (v:=V.non) (u:=Value.none) J rfl q
 | brk =>
  obtain ⟨_,_,_,q⟩:=hs
  exact False.elim q
 | cont =>
  obtain ⟨_,_,_,q⟩:=hs
  exact False.elim q
section
variable {P : Program} {w : World} {K : PySem.W.Frag} {mg : Str->Option Value} {base : Heap}
theorem Fun.okH {x qual : Str} {st : Stmt} {f : Addr} {fd : FuncData} {N ps : List Str} {k : Nat} {sp : Sp} (F : Fun K x qual st f fd) (S : FnScope N ps (defScope st)) (len : ∀ vs H Q E,sp vs H Q E->vs.length = ps.length)
  (hbody : ∀ (cdv : Value) (A : Around) (outer : List Env) (s : Shared) (H : Hp) (vs : List V) (Q : VK) (E : XK),Room0 k (A.deeper (envOfC qual (defScope st) s.heap.objs.size f cdv))->sp vs H Q E ->
   ∃ t,PSs (cxH CX0 P w K mg base N qual (defScope st) f cdv A outer s H E).nox (defBody st) t/\t { nx:=fun _ H'=>Q .non H',rt:=Q } (start N vs) H) : FnOkH P w K mg base CX0 (k + 1) f fd ps sp:=by
 obtain ⟨oc,od,kV,doc,pm,an,cdv,ct,osl,rfl,lk,hcd⟩:=F.ex
 refine fn_ofH lk hcd S len fun A outer s H vs Q E hr hsp=>?_
 obtain ⟨t,h,q⟩:=hbody cdv A outer s H vs Q E hr hsp
 exact ⟨t,h.nox,q⟩
def CallOkH (P : Program) (w : World) (K : PySem.W.Frag) (mg : Str->Option Value) (base : Heap) (x : Str) (k : Nat) (ps : List Str) (sp : Sp) : Prop :=
 ∃ f fd,FnOkH P w K mg base CX0 k f fd ps sp/\mg x = some (.ref f)/\PySem.W.keepIn K (.ref f) = true/\Binds K fd ps []
variable {X : Cx} {x : Str} {k j : Nat} {ps : List Str} {sp : Sp} {e : Expr} {es : List Expr} {p pos : Pos} {t : TA}
theorem pe_clH (C : CallOkH X.prog X.w X.K X.mg X.base x k ps sp) (hr : Room0 j X.A) (ha : PA X (e :: es) t) (hg : Gl X x:=by rfl) (hj : k <= j:=by decide) (hdb : (x == ("__debug__" : Str)) = false:=by decide)
  (he : starEach (e :: es) X.env = (false,eval e X.env) :: starEach es X.env:=by rfl) (hpl : (backTo pos (starEach es X.env)).any (·.1) = false:=by rfl) :
  PE X (.Call (.Name x p) (e :: es) [] pos) (tCall sp [] E0 t):=by
 obtain ⟨f,fd,F,hm,hk,hb⟩:=C
 intro pins s σ H Q I h
 refine wpAny_Call_Name_kw (ld_glob I hg hm ?_ hdb)
 refine PySem.W.callWith_K (h₀:=X.base) I.ok.mod.kin hk (thn (ha pos pins s σ H _ I h) fun us s1 ⟨vs,H1,I1,r,q⟩=>⟨I1.kIn,?_⟩) he hpl
 have q' : sp vs H1 Q E0:=by have q0 : sp (vs ++ []) H1 Q E0:=q;rw [List.append_nil] at q0;exact q0
 have hl : us.length = ps.length:=by rw [<- r.length];exact F.len _ _ _ _ q'
 have hb':=hb s1 us I1.kIn (by simpa using hl)
 rw [List.append_nil] at hb'
 refine wpAny_call (codeAny_mono (F.run X.A X.stack s1 H1 ⟨us,[]⟩ us vs Q E0 (hr.mono hj) I1.env0 hb' r q') fun r s' hq=>?_)
 cases r with
 | error ev=>exact False.elim hq
 | ok fl =>
  cases fl with
  | ret u=>exact I1.after hq
  | next=>exact False.elim hq
  | brk=>exact False.elim hq
  | cont=>exact False.elim hq
end
end L2
end

section
set_option Elab.async false
set_option linter.all false
set_option maxRecDepth 100000
set_option maxHeartbeats 1000000
namespace K12
open PySem PySem.Spec L2 PyProof.Rows PySem.W
def spWaitR (CL CP : Addr) : Sp:=fun vs H _ E=>∃ (p : Pl) (s : Sd) (v u : V) (x y : Str) (l : Int) (c o : Cd),vs = [v,u,.str x,.int l,.str y]/\IsD [] H p.d v/\IsD [] H s.d u/\x.length <= 1000/\y.length <= 1000/\POk p/\SOk p s/\s.cd? x = some c/\s.cd? y = some o/\Says (.int l) /\
 ((¬ (0 <= l/\l <= p.n)/\XFs CL [("lane",.int l)] H E)\/(0 <= l/\l <= p.n/\¬ p.lane c < l/\¬ p.lane o = p.n/\XFs CP [("card",.str x)] H E))
section
variable {P : Program} {w : World} {K : PySem.W.Frag} {mg : Str->Option Value} {base : Heap} {CC CL CP : Addr}
abbrev s_with_wait : Stmt:=top 37
theorem sc_with_wait : FnScope ["plan","stand","card","lane","other","bounds","cards","waits","wait"] ["plan","stand","card","lane","other"] (defScope s_with_wait):=⟨rfl,rfl,rfl,by decide +kernel,rfl,by decide +kernel,by decide +kernel⟩
theorem ok_with_waitR {f : Addr} {fd : FuncData} (F : Fun K "with_wait" "with_wait" s_with_wait f fd) (M_NoLane : MakeOk P w K mg base "NoLane" CL 2 ["self","lane"] (spIniN CL ["lane"])) (M_Past : MakeOk P w K mg base "Past" CP 2 ["self","card"] (spIniN CP ["card"])) (r1 : raisesIn K CL = true) (r2 : raisesIn K CP = true)
  (C_card_of : CallOkX P w K mg base "card_of" 4 ["stand","card"] (spCard CC)) (C_may_wait_at : CallOk P w K mg base "may_wait_at" 1 ["plan","lane"] spMay) (C_holds : CallOk P w K mg base "holds" 9 ["plan","stand","wait"] spHolds) : FnOk P w K mg base (CXF P w) 10 f fd ["plan","stand","card","lane","other"] (spWaitR CL CP):=by
 refine F.okX sc_with_wait (fun vs H Q E h=>?_) (fun cdv A outer s H vs Q E hr h=>?_)
 ·obtain ⟨p,sd,v,u,x,y,l,c,o,rfl,_⟩:=h
  rfl
 obtain ⟨p,sd,v,u,x,y,l,c,o,rfl,hp,hs,hx,hy,Po,So,hc,ho,sl,q⟩:=h
 refine' ⟨_,?hh,?rr⟩
 case hh=>refine' pss_cons ?hab ?hbb;(case hab=>refine' ps_expr ?he;(case he=>refine' pe_clX xe_cx C_card_of hr ?hc rfl ?hd;(case hc=>refine' pa_c (pv 1) ?hb;(case hb=>refine' pa_c (pv 2) pa_nil));(case hd=>decide)));(case hbb=>refine' pss_cons ?hY ?hZ;(case hY=>refine' ps_expr ?hi;(case hi=>refine' pe_clX xe_cx C_card_of hr ?hg rfl ?hh;(case hg=>refine' pa_c (pv 1) ?hf;(case hf=>refine' pa_c (pv 4) pa_nil));(case hh=>decide)));(case hZ=>refine' pss_cons ?hW ?hX;(case hW=>refine' ps_if ?hs ?ht pss_nil;(case hs=>refine' pt_not ?hn;(case hn=>refine' pt_val ?hm;(case hm=>refine' pe_cl C_may_wait_at hr ?hk rfl ?hl;(case hk=>refine' pa_c (pv 0) ?hj;(case hj=>refine' pa_c (pv 3) pa_nil));(case hl=>decide))));(case ht=>refine' pss_one ?hr;(case hr=>refine' ps_raise xe_cx ?hq;(case hq=>refine' pe_makeX M_NoLane hr ?ho rfl ?hp;(case ho=>refine' pa_c (pv 3) pa_nil);(case hp=>decide)))));(case hX=>refine' pss_cons ?hU ?hV;(case hU=>refine' ps_asg (pv 1) ?hA;(case hA=>refine' pg_tup rfl ?hz;(case hz=>refine' pgs_cons ?hx ?hy;(case hx=>refine' pg_name sc_with_wait.nd (ixAt 5) (Or.inl rfl) (Or.inl rfl));(case hy=>refine' pgs_cons ?hv ?hw;(case hv=>refine' pg_name sc_with_wait.nd (ixAt 6) (Or.inl rfl) (Or.inl rfl));(case hw=>refine' pgs_cons ?hu pgs_nil;(case hu=>refine' pg_name sc_with_wait.nd (ixAt 7) (Or.inl rfl) (Or.inl rfl)))))));(case hV=>refine' pss_cons ?hS ?hT;(case hS=>refine' ps_set sc_with_wait.nd (ixAt 8) (Or.inl rfl) ?hE;(case hE=>refine' pe_tup ?hD;(case hD=>refine' pa_c (pv 2) ?hC;(case hC=>refine' pa_c (pv 3) ?hB;(case hB=>refine' pa_c (pv 4) pa_nil)))));(case hT=>refine' pss_cons ?hR pss_no;(case hR=>refine' ps_if ?hP ?hQ pss_nil;(case hP=>refine' pt_not ?hK;(case hK=>refine' pt_val ?hJ;(case hJ=>refine' pe_cl C_holds hr ?hH rfl ?hI;(case hH=>refine' pa_c (pv 0) ?hG;(case hG=>refine' pa_c (pv 1) ?hF;(case hF=>refine' pa_c (pv 8) pa_nil)));(case hI=>decide))));(case hQ=>refine' pss_one ?hO;(case hO=>refine' ps_raise xe_cx ?hN;(case hN=>refine' pe_makeX M_Past hr ?hL rfl ?hM;(case hL=>refine' pa_c (pv 2) pa_nil);(case hM=>decide))))))))))
 refine ⟨_,rfl,_,rfl,sd,u,x,rfl,hs,hx,fun c' cu H1 hc' e1 _=>?_,fun hn=>by rw [hc] at hn;cases hn⟩
 refine ⟨_,rfl,_,rfl,sd,u,y,rfl,IsD.ext e1 hs,hy,fun o' ou H2 ho' e2 _=>?_,fun hn=>by rw [ho] at hn;cases hn⟩
 have e12:=e1.trans e2
 refine ⟨_,rfl,_,rfl,p,v,l,rfl,IsD.ext e12 hp,_,rfl,?_⟩
 rcases q with ⟨hn,q⟩ | ⟨l0,l1,hnl,hno,q⟩
 ·have ef : (decide (0 <= l) && decide (l <= p.n)) = false:=by
   rw [Bool.eq_false_iff]
   intro z
   rw [Bool.and_eq_true,decide_eq_true_eq,decide_eq_true_eq] at z
   exact hn z
  rw [ef]
  refine iteT ?_
  exact ⟨_,rfl,raise_x ["lane"] [.int l] q e12 (says1 sl) r1⟩
 ·rw [decide_eq_true l0,decide_eq_true l1]
  refine iteF ?_
  have hs2:=IsD.ext e12 hs
  obtain ⟨a,ba,ca,wa,cv,wv,rfl,ha,hba,hca,hcs,hwa,hws,ec,ew⟩:=Sd.view hs2
  refine ⟨_,rfl,_,_,rfl,SqT.of ha,rfl,_,_,rfl,_,_,rfl,_,_,rfl,rfl,?_⟩
  refine ⟨_,rfl,_,rfl,_,rfl,by show 3 <= sizeLine;decide,fun t ht=>?_⟩
  have e3 : Ext [] H2 (upd H2 t (.tup [.str x,.int l,.str y])):=Ext.new ht _
  have e13:=e12.trans e3
  refine ⟨_,rfl,_,rfl,_,rfl,p,sd,v,_,.ref t,⟨x,l,y⟩,c,o,rfl,IsD.ext e13 hp,IsD.ext e13 hs,⟨t,_,rfl,by simp,upd_same,_,_,rfl,rfl,_,_,rfl,rfl,_,_,rfl,rfl,rfl⟩,Po,So,hc,ho,hx,hy,fun H4 e4=>?_⟩
  have ef : (decide (p.lane c < l) || decide (p.lane o = p.n)) = false:=by
   rw [decide_eq_false hnl,decide_eq_false hno]
   rfl
  rw [ef]
  refine ⟨_,rfl,iteT ?_⟩
  exact ⟨_,rfl,raise_x ["card"] [.str x] q (e13.trans e4) (says1 (says_str hx)) r2⟩
end
end K12
end

section
set_option Elab.async false
set_option linter.all false
set_option maxRecDepth 100000
namespace L2
open PySem PySem.Spec PyProof.Rows
section
variable {prog : Program} {w : World} {A : Around} {E : Value->Shared->Prop} {s : Shared} {z TI TO i j : Addr} {fp gp : List Addr} {n m k : Nat} {P R : Nat->Value->Prop} {St Su : Nat->Heap->Prop} {a b : Value}
theorem zip_ends2 {Q : Option Value->Shared->Prop} (Z : ZA z TI TO i j fp gp) (D : Draws prog w A.in1 i fp n P St) (G : Draws prog w A.in1 j gp m R Su) (hz : IsZip s.heap z TI TO .none) (hI : IsPair s.heap TI (.ref i) (.ref j)) (hO : IsPair s.heap TO a b) (hk : k < n) (h1 : St k s.heap) (hm : k = m) (h2 : Su k s.heap)
  (hQ : ∀ h' tk,(∀ c o,c ∉ [z,TO,i,j]->s.heap.get? c = some o->h'.get? c = some o)->Q none { s with heap:=h',toks:=tk }) : wpAny (model prog w) A (pyNext (.ref z)) Q E s:=by
 have nd:=Z.nd
 simp only [List.nodup_cons,List.mem_cons,List.not_mem_nil,or_false,not_or,List.nodup_nil,and_true,not_false_eq_true] at nd
 obtain ⟨⟨nzI,nzO,nzi,nzj⟩,⟨nIO,nIi,nIj⟩,⟨nOi,nOj⟩,nij⟩:=nd
 have hT : s.TypeIs (.ref z) "zip" := ⟨_,hz,rfl⟩
 obtain ⟨hp,g,d,t0,os⟩:=s
 unfold pyNext
 refine wpAny_bind (wpAny_attempt (wpAny_callSpecial?_slot (name:=Str.ofString "__next__") hT F.slot_zip_next (wpAny_call_entry F.slot_zip_next hT F.entry_zip_next ?_ (F.args_zip_next_1 _))))
 show wpAny _ _ (field (.ref z) 2 >>= _) _ _ _
 refine wpAny_bind (wpAny_field hz rfl (x:=.bool false) rfl ?_)
 show wpAny _ _ (field (.ref z) 3 >>= _) _ _ _
 refine wpAny_bind (wpAny_field hz rfl (x:=.ref TI) rfl (wpAny_bind (wpAny_seqItems hI rfl ?_)))
 show wpAny _ _ (Builtin.SmallTypes.ownedTupleIsFree (.ref z) >>= _) _ _ _
 refine wpAny_bind ?_
 unfold Builtin.SmallTypes.ownedTupleIsFree
 refine wpAny_bind (wpAny_field hz rfl (x:=.none) rfl (wpAny_pure ?_))
 simp only [if_true]
 refine wpAny_bind (wpAny_rule (wpAny_bind (wpAny_field hz rfl (x:=.ref TO) rfl (wpAny_bind (wpAny_setField_rec hz (by simp) fun hA zA sA=>wpAny_bind ?_)))))
 replace zA : IsZip hA z TI TO .ellipsis:=zA
 replace sA : Heap.SameBut z hp hA:=sA
 simp only [List.zipIdx_cons,List.zipIdx_nil,List.forIn_cons,List.forIn_nil]
 refine wpAny_bind (wpAny_bind (wpAny_onRaise ?_))
 show wpAny _ _ (Builtin.SmallTypes.nextOf (.ref i) >>= _) _ _ _
 have h1A : St k hA:=D.frame _ _ _ h1 fun b hb o q=>(sA.2 b (Z.f b hb).1).trans q
 refine wpAny_bind (D.item k ⟨hA,g,d,t0,os⟩ _ _ hk h1A fun x hB tB px h1B sB=>wpAny_pure ?_)
 replace sB : Heap.SameBut i hA hB:=sB
 have OB : IsPair hB TO a b:=(sB.2 _ nOi).trans ((sA.2 _ (Ne.symm nzO)).trans hO)
 refine wpAny_bind (wpAny_seqItems OB rfl (wpAny_bind (wpAny_updateSeq_pair (s:=⟨hB,g,d,tB,os⟩) OB fun hC OC sC=>wpAny_bind (wpAny_letGo (wpAny_pure ?_)))))
 replace sC : Heap.SameBut TO hB hC:=sC
 refine wpAny_bind (wpAny_bind (wpAny_onRaise ?_))
 show wpAny _ _ (Builtin.SmallTypes.nextOf (.ref j) >>= _) _ _ _
 have h2C : Su k hC:=G.frame _ _ _ h2 fun b hb o q=>(sC.2 b (Z.g b hb).2.1).trans ((sB.2 b (Z.g b hb).2.2.1).trans ((sA.2 b (Z.g b hb).1).trans q))
 rw [hm] at h2C
 refine wpAny_bind (G.done ⟨hC,g,d,tB,os⟩ _ _ h2C fun hD e sD ⟨oe,he,hce⟩=>?_)
 have zD : IsZip hD z TI TO .ellipsis:=sD _ _ nzj ((sC.2 _ nzO).trans ((sB.2 _ nzi).trans zA))
 have nez : e ≠ z:=fun x=>by subst x;rw [zD] at he;cases he;simp at hce
 refine wpAny_setField_rec zD (by simp) fun hE _ sE=>?_
 replace sE : Heap.SameBut z hD hE:=sE
 refine wpAny_bind (wpAny_isInstance (T := "StopIteration") (b:=true) ⟨oe,(sE.2 _ nez).trans he,hce⟩ isSubtype_stop (wpAny_pure (hQ _ tB fun c o hc q=>?_)))
 simp only [List.mem_cons,List.not_mem_nil,or_false,not_or] at hc
 exact (sE.2 _ hc.1).trans (sD _ _ hc.2.2.2 ((sC.2 _ hc.2.1).trans ((sB.2 _ hc.2.2.1).trans ((sA.2 _ hc.1).trans q))))
end
theorem fp_neL {X : Cx} {pins : List (Addr × Obj)} {σ : St} {H : Hp} {s : Shared} {a b : Addr} {xs : List V} (I : Inv X pins σ H s) (hf : FpOk X pins H b) (hq : SqL X.K H a xs) : a ≠ b:=by
 intro e
 subst e
 obtain ⟨f0,_,_,f3,_,_⟩:=hf
 rcases hq with (h | ⟨o,h⟩) | ⟨o,_,_,hk,_⟩
 ·rw [f0] at h;cases h
 ·rw [f0] at h;cases h
 ·have hb:=I.ok.mod.kin _ _ hk
  rcases f3 with z | z
  ·exact I.ok.noex _ _ hb z
  ·exact absurd (Nat.lt_of_lt_of_le (Heap.lt_size (I.ok.bs _ _ hb).1) z) (Nat.lt_irrefl _)
section
variable {prog : Program} {w : World} {A : Around} {E : Value->Shared->Prop} {s : Shared}
end
section
variable {X : Cx} {elts : List Expr} {q : Nat} {tpos : Pos}
end
section
variable {prog : Program} {w : World} {A : Around} {E : Value->Shared->Prop} {s : Shared}
abbrev tiOL (l : Addr) : Obj:={ cls:=.type "list_iterator",data:=.fields #[.ref l,.int 0 0] }
abbrev zaLx (h : Heap) (l : Addr) : Heap:=h.push (tiOL l)
abbrev zbLx (h : Heap) (l c : Addr) : Heap:=(zaLx h l).push (tiOL c)
abbrev zcLx (h : Heap) (l c : Addr) : Heap:=(zbLx h l c).push (tpO (.ref h.objs.size) (.ref (zaLx h l).objs.size))
abbrev zdLx (h : Heap) (l c : Addr) : Heap:=(zcLx h l c).push (tpO .none .none)
abbrev zeLx (h : Heap) (l c : Addr) : Heap:=(zdLx h l c).push (zpO (.ref (zbLx h l c).objs.size) (.ref (zcLx h l c).objs.size))
theorem new_zipXL (l c : Addr) (xs ys : Array Value) : Meets (Builtin.«zip.__new__» ⟨[.type "zip",.ref l,.ref c],[]⟩) (fun _ R s=>(s.heap.IsList l xs/\s.heap.IsList c ys)/\R (.ok (.ret (.ref (zdLx s.heap l c).objs.size))) { s with heap:=zeLx s.heap l c }) :=
 .of_wp fun prog w A R s h=>by
  obtain ⟨hp,g,d,tk,os⟩:=s;obtain ⟨⟨hl1,hl2⟩,h⟩:=h
  have hsub:=sub_zip
  have hL1 : Heap.IsList (Shared.heap ⟨hp,g,d,tk,os⟩) l xs:=hl1
  have hL2 : Heap.IsList (Shared.heap ⟨zaLx hp l,g,d,tk,os⟩) c ys:=hl2.at fun o e=>Heap.get?_push_of_some _ e
  wp_walk using wpAny_pyIter_list hL1,wpAny_pyIter_list hL2
  exact ⟨_,rfl,h⟩
theorem call_zipXL {l c : Addr} {xs ys : Array Value} {Q : Value->Shared->Prop} (h1 : s.heap.IsList l xs) (h2 : s.heap.IsList c ys)
  (h : ∀ h',IsZip h' (s.heap.objs.size + 4) (s.heap.objs.size + 2) (s.heap.objs.size + 3) .none->IsPair h' (s.heap.objs.size + 2) (.ref s.heap.objs.size) (.ref (s.heap.objs.size + 1))->IsPair h' (s.heap.objs.size + 3) .none .none ->
   h'.IsListIter s.heap.objs.size l 0->h'.IsListIter (s.heap.objs.size + 1) c 0->(∀ b o,s.heap.get? b = some o->h'.get? b = some o)->Q (.ref (s.heap.objs.size + 4)) { s with heap:=h' }) : wpAny (model prog w) A (call (.type "zip") [.ref l,.ref c]) Q E s:=by
 refine callType_new F.called_zip (by decide) (F.typeCall_zip_2 _ _) (F.newCall_zip_2 _ _) (fun obj=>F.args_object_init_3 obj _ _) F.entry_zip_new (new_zipXL l c xs ys) ⟨⟨h1,h2⟩,?_⟩
 have z1 : (zaLx s.heap l).objs.size = s.heap.objs.size + 1:=Heap.size_push ..
 have z2 : (zbLx s.heap l c).objs.size = s.heap.objs.size + 2:=(Heap.size_push ..).trans (congrArg (· + 1) z1)
 have z3 : (zcLx s.heap l c).objs.size = s.heap.objs.size + 3:=(Heap.size_push ..).trans (congrArg (· + 1) z2)
 have z4 : (zdLx s.heap l c).objs.size = s.heap.objs.size + 4:=(Heap.size_push ..).trans (congrArg (· + 1) z3)
 have up : ∀ {hh : Heap} {o o' : Obj} {b : Addr},hh.get? b = some o->(hh.push o').get? b = some o:=fun e=>Heap.get?_push_of_some _ e
 have p1 : (zeLx s.heap l c).get? s.heap.objs.size = some (tiOL l):=up (up (up (up (Heap.get?_push_size _ rfl))))
 have p2 : (zeLx s.heap l c).get? (zaLx s.heap l).objs.size = some (tiOL c):=up (up (up (Heap.get?_push_size _ rfl)))
 have p3 : (zeLx s.heap l c).get? (zbLx s.heap l c).objs.size = some (tpO (.ref s.heap.objs.size) (.ref (zaLx s.heap l).objs.size)):=up (up (Heap.get?_push_size _ rfl))
 have p4 : (zeLx s.heap l c).get? (zcLx s.heap l c).objs.size = some (tpO .none .none):=up (Heap.get?_push_size _ rfl)
 have p5 : (zeLx s.heap l c).get? (zdLx s.heap l c).objs.size = some (zpO (.ref (zbLx s.heap l c).objs.size) (.ref (zcLx s.heap l c).objs.size)):=Heap.get?_push_size _ rfl
 have pp:=fun b o (e : s.heap.get? b = some o)=>show (zeLx s.heap l c).get? b = some o from up (up (up (up (up e))))
 show _/\_
 generalize zeLx s.heap l c = hh at p1 p2 p3 p4 p5 pp ⊢
 rw [z1] at p2 p3
 rw [z2] at p3 p5
 rw [z3] at p4 p5
 rw [z4] at p5 ⊢
 exact ⟨⟨_,p5,rfl⟩,h _ p5 p3 p4 ⟨_,p1,rfl,rfl⟩ ⟨_,p2,rfl,rfl⟩ pp⟩
end
def ItzxL (K : PySem.W.Frag) (a c : Addr) : It :=
  ⟨fun k H => ∃ xs ys x y, SqL K H a xs ∧ SqL K H c ys ∧ xs[k]? = some x ∧ ys[k]? = some y,
   fun k H v H' => ∃ T x y, v = .ref T ∧ H T = none ∧ H' = upd H T (.tup [x, y]) ∧ (∀ xs, SqL K H a xs → xs[k]? = some x) ∧ (∀ ys, SqL K H c ys → ys[k]? = some y),
   fun k H => ∃ xs ys, SqL K H a xs ∧ SqL K H c ys ∧ (xs.length = k ∨ (k < xs.length ∧ ys.length = k))⟩
theorem turn_zipXL {P : Program} {w : World} {K : PySem.W.Frag} {elts : List Expr} {q} {pos : Pos} (a c z TI TO i j : Addr) (nd : [z,TI,TO,i,j].Nodup) :
  Turn P w K (.Tuple elts q pos) (ItzxL K a c) [z,TI,TO,i,j] z (fun k h=>IsZip h z TI TO .none/\IsPair h TI (.ref i) (.ref j)/\(∃ u v,IsPair h TO u v)/\h.IsListIter i a k/\h.IsListIter j c k) where
 mem:=by simp
 obj:=fun k h st b hb=>by
  obtain ⟨h1,h2,⟨u,v,h3⟩,⟨o4,h4,_,d4⟩,⟨o5,h5,_,d5⟩⟩:=st
  simp only [List.mem_cons,List.not_mem_nil,or_false] at hb
  rcases hb with rfl | rfl | rfl | rfl | rfl
  ·exact ⟨_,h1,fun v z=>by cases z⟩
  ·exact ⟨_,h2,fun v z=>by cases z⟩
  ·exact ⟨_,h3,fun v z=>by cases z⟩
  ·exact ⟨_,h4,fun v z=>by rw [d4] at z;cases z⟩
  ·exact ⟨_,h5,fun v z=>by rw [d5] at z;cases z⟩
 keep:=fun k h h' st kk=>by
  obtain ⟨h1,h2,⟨u,v,h3⟩,h4,h5⟩:=st
  exact ⟨kk _ (by simp) _ h1,kk _ (by simp) _ h2,⟨u,v,kk _ (by simp) _ h3⟩,h4.at fun o e=>kk i (by simp) o e,h5.at fun o e=>kk j (by simp) o e⟩
 item:=by
  intro X hP hw hK hc k pins s σ H E I hf st hg
  subst hP hw hK
  obtain ⟨xs,ys,x,y,hq1,hq2,hx,hy⟩:=hg
  obtain ⟨h1,h2,⟨u,v,h3⟩,h4,h5⟩:=st
  obtain ⟨its1,rv1,p1,_⟩:=I.list hq1
  obtain ⟨its2,rv2,p2,_⟩:=I.list hq2
  obtain ⟨u1,hu1,ru1⟩:=rv1.get hx
  obtain ⟨u2,hu2,ru2⟩:=rv2.get hy
  have na : ∀ b ∈ [z,TI,TO,i,j],a ≠ b:=fun b hb=>fp_neL I (hf b hb) hq1
  have nc : ∀ b ∈ [z,TI,TO,i,j],c ≠ b:=fun b hb=>fp_neL I (hf b hb) hq2
  have nd':=nd
  simp only [List.nodup_cons,List.mem_cons,List.not_mem_nil,or_false,not_or,List.nodup_nil,and_true,not_false_eq_true] at nd'
  obtain ⟨⟨nzI,nzO,nzi,nzj⟩,⟨nIO,nIi,nIj⟩,⟨nOi,nOj⟩,nij⟩:=nd'
  have Z : ZA z TI TO i j [i,a] [j,c]:=⟨nd,fun b hb=>by
   rcases List.mem_cons.mp hb with rfl | hb
   ·exact ⟨Ne.symm nzi,Ne.symm nOi,nij,Ne.symm nIi⟩
   ·rw [show b = a by simpa using hb];exact ⟨na z (by simp),na TO (by simp),na j (by simp),na TI (by simp)⟩,fun b hb=>by
   rcases List.mem_cons.mp hb with rfl | hb
   ·exact ⟨Ne.symm nzj,Ne.symm nOj,Ne.symm nij,Ne.symm nIj⟩
   ·rw [show b = c by simpa using hb];exact ⟨nc z (by simp),nc TO (by simp),nc i (by simp),nc TI (by simp)⟩⟩
  have D1:=Draws.list (prog:=X.prog) (w:=X.w) (A:=X.A.in1) (I.ok.hd hc) i a (na i (by simp)) its1.toArray
  have D2:=Draws.list (prog:=X.prog) (w:=X.w) (A:=X.A.in1) (I.ok.hd hc) j c (nc j (by simp)) its2.toArray
  refine pyNext_zip Z D1 D2 h1 h2 h3 ⟨h4,p1.isList⟩ ⟨h5,p2.isList⟩ (by rw [List.size_toArray];exact (List.getElem?_eq_some_iff.mp hu1).1) (by rw [List.size_toArray];exact (List.getElem?_eq_some_iff.mp hu2).1) fun v1 v2 h' tk e1 e2 a1 a2 a3 a4 a5 a6 a7=>?_
  have e1' : its1[k]? = some v1:=by simpa using e1
  have e2' : its2[k]? = some v2:=by simpa using e2
  rw [hu1] at e1'
  rw [hu2] at e2'
  cases e1'
  cases e2'
  refine ⟨_,rfl,wpAny_letOwnedTupleGo_zip (s:={ s with heap:=h',toks:=tk }) a1 fun h3' b1 sb=>?_⟩
  replace sb : Heap.SameBut z h' h3':=sb
  have lt : ∀ b ∈ [z,TI,TO,i,j],b < s.heap.objs.size:=fun b hb=>by
   obtain ⟨_,q4,_⟩:=id h4
   obtain ⟨_,q5,_⟩:=id h5
   simp only [List.mem_cons,List.not_mem_nil,or_false] at hb
   rcases hb with rfl | rfl | rfl | rfl | rfl
   ·exact Heap.lt_size h1
   ·exact Heap.lt_size h2
   ·exact Heap.lt_size h3
   ·exact Heap.lt_size q4
   ·exact Heap.lt_size q5
  have stn : IsZip h3' z TI TO .none/\IsPair h3' TI (.ref i) (.ref j)/\(∃ u v,IsPair h3' TO u v)/\h3'.IsListIter i a (k + 1)/\h3'.IsListIter j c (k + 1) :=
   ⟨b1,(sb.2 _ (Ne.symm nzI)).trans a2,⟨_,_,(sb.2 _ (Ne.symm nzO)).trans a3⟩,a4.1.at fun o e=>(sb.2 i (Ne.symm nzi)).trans e,a5.1.at fun o e=>(sb.2 j (Ne.symm nzj)).trans e⟩
  have J : Inv X pins σ (upd H s.heap.objs.size (.tup [x,y])) { s with heap:=h3',toks:=tk }:=by
   refine I.turnedNew (fp:=[z,TI,TO,i,j]) (its:=[u1,u2]) hf (fun b o hb q=>(sb.2 b (fun e=>hb (by simp [e]))).trans (a7 b o (fun e=>hb (by simp only [List.mem_cons,List.not_mem_nil,or_false] at e ⊢;rcases e with e | e | e | e <;> simp [e])) q)) (fun b hb=>?_) (Nat.le_refl _) ⟨⟨_,(sb.2 _ (Nat.ne_of_gt (lt z (by simp)))).trans a6,rfl,0,rfl⟩,_,(sb.2 _ (Nat.ne_of_gt (lt z (by simp)))).trans a6,rfl⟩ (.cons ru1 (.cons ru2 .nil)) (by show 2 <= sizeLine;decide)
   obtain ⟨t1,t2,⟨_,_,t3⟩,⟨_,t4,_⟩,⟨_,t5,_⟩⟩:=id stn
   simp only [List.mem_cons,List.not_mem_nil,or_false] at hb
   rcases hb with rfl | rfl | rfl | rfl | rfl
   ·exact ⟨_,t1⟩
   ·exact ⟨_,t2⟩
   ·exact ⟨_,t3⟩
   ·exact ⟨_,t4⟩
   ·exact ⟨_,t5⟩
  refine ⟨.ref s.heap.objs.size,upd H s.heap.objs.size (.tup [x,y]),J,rfl,⟨_,x,y,rfl,I.hok.fresh (Nat.le_refl _),rfl,fun zs hz=>by rw [I.list_inj hz hq1];exact hx,fun zs hz=>by rw [I.list_inj hz hq2];exact hy⟩,stn,fun b hb=>?_⟩
  rw [upd_ne (Nat.ne_of_lt (lt b hb))]
  exact (hf b hb).1
 done:=by
  intro X hP hw hK hc k pins s σ H E I hf st hg
  subst hP hw hK
  obtain ⟨xs,ys,hq1,hq2,hl⟩:=hg
  obtain ⟨h1,h2,⟨u,v,h3⟩,h4,h5⟩:=st
  obtain ⟨its1,rv1,p1,_⟩:=I.list hq1
  have na : ∀ b ∈ [z,TI,TO,i,j],a ≠ b:=fun b hb=>fp_neL I (hf b hb) hq1
  have nd':=nd
  simp only [List.nodup_cons,List.mem_cons,List.not_mem_nil,or_false,not_or,List.nodup_nil,and_true,not_false_eq_true] at nd'
  obtain ⟨⟨nzI,nzO,nzi,nzj⟩,⟨nIO,nIi,nIj⟩,⟨nOi,nOj⟩,nij⟩:=nd'
  obtain ⟨its2,rv2,p2,_⟩:=I.list hq2
  have nc : ∀ b ∈ [z,TI,TO,i,j],c ≠ b:=fun b hb=>fp_neL I (hf b hb) hq2
  have Z : ZA z TI TO i j [i,a] [j,c]:=⟨nd,fun b hb=>by
   rcases List.mem_cons.mp hb with rfl | hb
   ·exact ⟨Ne.symm nzi,Ne.symm nOi,nij,Ne.symm nIi⟩
   ·rw [show b = a by simpa using hb];exact ⟨na z (by simp),na TO (by simp),na j (by simp),na TI (by simp)⟩,fun b hb=>by
   rcases List.mem_cons.mp hb with rfl | hb
   ·exact ⟨Ne.symm nzj,Ne.symm nOj,Ne.symm nij,Ne.symm nIj⟩
   ·rw [show b = c by simpa using hb];exact ⟨nc z (by simp),nc TO (by simp),nc i (by simp),nc TI (by simp)⟩⟩
  have D1:=Draws.list (prog:=X.prog) (w:=X.w) (A:=X.A.in1) (I.ok.hd hc) i a (na i (by simp)) its1.toArray
  have D2:=Draws.list (prog:=X.prog) (w:=X.w) (A:=X.A.in1) (I.ok.hd hc) j c (nc j (by simp)) its2.toArray
  have stepped : ∀ (h' : Heap) (tk : Nat),(∀ c o,c ∉ [z,TO,i,j]->s.heap.get? c = some o->h'.get? c = some o)->Inv X pins σ H { s with heap:=h',toks:=tk }:=by
   intro h' tk kk
   refine I.step (g':=s.gens) (d':=s.drawn) (t':=tk) (ch:=[z,TO,i,j]) (fun b hb=>?_) (fun b o _ _ hb q _=>kk b o hb q) (fun b o _ _ hb q _=>⟨o.slots,kk b o hb q⟩) (fun _ _ _ _ n=>n) (fun b o hb q=>⟨o,kk b o hb q⟩) (fun _ _ e=>e) (fun _ _ _ e=>e) (fun b ps e=>⟨#[],by rw [e];simp⟩) (fun m hn=>?_) (fun b u q=>?_) ⟨I.bare.1,Nat.le_refl _⟩
   ·have hb' : b ∈ [z,TI,TO,i,j]:=by simp only [List.mem_cons,List.not_mem_nil,or_false] at hb ⊢;rcases hb with e | e | e | e <;> simp [e]
    obtain ⟨f0,f1,f2,f3,f4,f5⟩:=hf b hb'
    exact ⟨f3,f1,f4,f5⟩
   ·obtain ⟨o,es,ep,ho,r⟩:=hn
    refine ⟨o,es,ep,kk _ o (fun hb=>?_) ho,r⟩
    have hb' : X.env.locals ∈ [z,TI,TO,i,j]:=by simp only [List.mem_cons,List.not_mem_nil,or_false] at hb ⊢;rcases hb with e | e | e | e <;> simp [e]
    exact (hf _ hb').2.1 rfl
   ·refine (I.hok b u q).stay (fun c' v' hc' y=>kk c' v' (fun hb=>?_) y) (fun _ y=>y) fun _ _ y=>y
    have hb' : c' ∈ [z,TI,TO,i,j]:=by simp only [List.mem_cons,List.not_mem_nil,or_false] at hb ⊢;rcases hb with e | e | e | e <;> simp [e]
    have:=(hf _ hb').1
    rcases hc' with e | e
    ·rw [e] at this;rw [this] at q;cases q
    ·rw [this] at e;cases e
  rcases hl with hl | ⟨hl,hl2⟩
  ·have hk : its1.toArray.size = k:=by rw [List.size_toArray,<- rv1.length];exact hl
   exact zip_ends Z D1 h1 h2 ⟨by rw [hk];exact h4,p1.isList⟩ fun h' kk=>⟨rfl,stepped h' s.toks kk⟩
  ·have hk : k < its1.toArray.size:=by rw [List.size_toArray,<- rv1.length];exact hl
   have hk2 : k = its2.toArray.size:=by rw [List.size_toArray,<- rv2.length];exact hl2.symm
   exact zip_ends2 Z D1 D2 h1 h2 h3 hk ⟨h4,p1.isList⟩ hk2 ⟨h5,p2.isList⟩ fun h' tk kk=>⟨rfl,stepped h' tk kk⟩
 self:=fun _ _ _ _ _ st h=>wpAny_pyIter_zip st.1 h
section
variable {X : Cx} {elts : List Expr} {q : Nat} {tpos : Pos}
def iZipXL (K : PySem.W.Frag) (ta : TA) : TI:=fun σ H R=>ta σ H fun vs H1=>∃ a c,vs = [.ref a,.ref c]/\(∃ xs,SqL K H1 a xs)/\(∃ ys,SqL K H1 c ys)/\R (ItzxL K a c) H1
theorem pi_zipXL {l m : Expr} {ta : TA} {p pos : Pos} (hg : Gl X "zip") (hm : X.mg "zip" = none) (ha : PA X [l,m] ta) (hs : starEach [l,m] X.env = (false,eval l X.env) :: starEach [m] X.env:=by rfl) (hs2 : (backTo pos (starEach [m] X.env)).any (·.1) = false:=by rfl) : PI X (.Tuple elts q tpos) (.Call (.Name "zip" p) [l,m] [] pos) (iZipXL X.K ta):=by
 intro pins s σ H R I h
 refine Call_ (ld_blt I hg hm boot_zip (PyProof.Rows.callWith_type1 (thn (ha pos pins s σ H _ I h) fun us s1 ⟨vs,H1,I1,r1,q1⟩=>?_) hs hs2))
 obtain ⟨a,c,e,⟨xs,hq1⟩,⟨ys,hq2⟩,qq⟩:=q1
 subst e
 cases r1 with
 | cons r rr =>
  cases rr with
  | cons r' rr' =>
   cases rr'
   cases r
   cases r'
   obtain ⟨its1,rv1,p1,_⟩:=I1.list hq1
   obtain ⟨its2,rv2,p2,_⟩:=I1.list hq2
   refine call_zipXL (s:=s1) (show s1.heap.IsList a its1.toArray from p1.isList) (show s1.heap.IsList c its2.toArray from p2.isList) fun h' h1 h2 h3 h4 h5 kp=>wpAny_pyIter_zip (s:={ s1 with heap:=h' }) h1 ?_
   refine ⟨s1.heap.objs.size + 4,[s1.heap.objs.size + 4,s1.heap.objs.size + 2,s1.heap.objs.size + 3,s1.heap.objs.size,s1.heap.objs.size + 1],_,_,H1,rfl,I1.kept (t':=s1.toks) kp,turn_zipXL a c _ _ _ _ _ (by simp <;> omega),⟨h1,h2,⟨_,_,h3⟩,h4,h5⟩,fun b hb=>?_,qq⟩
   have : s1.heap.objs.size <= b:=by
    simp only [List.mem_cons,List.not_mem_nil,or_false] at hb
    rcases hb with rfl | rfl | rfl | rfl | rfl <;> omega
   exact I1.fpOk this (I1.hok.fresh this)
end
end L2
end

section
set_option Elab.async false
set_option linter.all false
set_option maxRecDepth 100000
namespace L2
open PySem PySem.Spec PyProof.Rows
theorem for_zipXL {K : PySem.W.Frag} {a c : Addr} {xs ys : List V} {g : TG} {tb : TS} {D : Ends} {σ : St} {H : Hp} (n : Nat) (hn1 : n <= xs.length) (hn2 : n <= ys.length) (hn : xs.length = n\/ys.length = n) (Pv : Nat->St->Hp->Prop) (h0 : Pv 0 σ H) (hl : ∀ i σ H,i <= n->Pv i σ H->SqL K H a xs/\SqL K H c ys)
  (hs : ∀ i x y T σ H,xs[i]? = some x->ys[i]? = some y->Pv i σ H->H T = none->g (.ref T) σ (upd H T (.tup [x,y])) fun σ2 H2=>tb { D with nx:=Pv (i + 1),ct:=Pv (i + 1),bk:=D.nx } σ2 H2) (hd : ∀ σ H,Pv n σ H->D.nx σ H) :
  ∃ W : Nat->Nat->St->Hp->Prop,(∃ m,W 0 m σ H)/\∀ i m σ H,W i m σ H ->
   ((ItzxL K a c).stop i H/\D.nx σ H)\/((ItzxL K a c).go i H/\∃ N : St->Hp->Prop,(∀ σ' H',N σ' H'->∃ m',m' < m/\W (i + 1) m' σ' H')/\∀ x H',(ItzxL K a c).yld i H x H'->g x σ H' fun σ2 H2=>tb { D with nx:=N,ct:=N,bk:=D.nx } σ2 H2):=by
 refine ⟨fun i m σ H=>m = n - i/\i <= n/\Pv i σ H,⟨n,by simp,Nat.zero_le _,h0⟩,?_⟩
 rintro i m σ H ⟨rfl,hi,p⟩
 obtain ⟨q1,q2⟩:=hl i σ H hi p
 by_cases hlt : i < n
 ·have h1 : i < xs.length:=by omega
  have h2 : i < ys.length:=by omega
  refine .inr ⟨⟨xs,ys,xs[i],ys[i],q1,q2,List.getElem?_eq_getElem h1,List.getElem?_eq_getElem h2⟩,Pv (i + 1),fun σ' H' p'=>⟨n - (i + 1),by omega,rfl,hlt,p'⟩,?_⟩
  rintro v H' ⟨T,x,y,rfl,hT,rfl,hx,hy⟩
  exact hs i x y T σ H (hx xs q1) (hy ys q2) p hT
 ·have e : i = n:=by omega
  subst e
  refine .inl ⟨⟨xs,ys,q1,q2,?_⟩,hd σ H p⟩
  rcases hn with h | h
  ·exact .inl h
  ·by_cases h3 : xs.length = i
   ·exact .inl h3
   ·exact .inr ⟨by omega,h⟩
end L2
end

section
set_option Elab.async false
set_option linter.all false
set_option maxRecDepth 100000
set_option maxHeartbeats 1000000
namespace K12
open PySem L2 PyProof.Rows
structure Txt (K : PySem.W.Frag) (mg : Str->Option Value) : Prop where
 b_len : mg "len" = none
 b_range : mg "range" = none
 b_sorted : mg "sorted" = none
 b_zip : mg "zip" = none
 b_tuple : mg "tuple" = none
 b_isinstance : mg "isinstance" = none
 b_ValueError : mg "ValueError" = none
section
variable {P : Program} {w : World} {K : PySem.W.Frag} {mg : Str->Option Value} {base : Heap}
abbrev s__law_take : Stmt:=top 41
theorem sc__law_take : FnScope ["_law_held","_law_many","_law_found"] ["_law_held","_law_many"] (defScope s__law_take):=⟨rfl,rfl,rfl,by decide +kernel,rfl,by decide +kernel,by decide +kernel⟩
theorem ok_take {f : Addr} {fd : FuncData} (F : Fun K "_law_take" "_law_take" s__law_take f fd) : FnOk P w K mg base CX0 1 f fd ["_law_held","_law_many"] spTake:=by
 refine F.ok sc__law_take (fun vs H Q E h=>?_) (fun cdv A outer s H vs Q E hr h=>?_)
 ·obtain ⟨z,m,rfl,_⟩:=h
  rfl
 obtain ⟨z,m,rfl,c,h0,h1,q⟩:=h
 obtain ⟨n,hp⟩:=c.held
 refine' ⟨_,?hh,?rr⟩
 case hh=>(refine' pss_cons ?hj ?hk;(case hj=>refine' ps_set sc__law_take.nd (ixAt 2) (Or.inl rfl) ?hc;(case hc=>refine' pe_op op_mod ?hb (pv 1);(case hb=>refine' pe_ix ix_list (pv 0) pe_int (fun _ _=>rfl))));(case hk=>refine' pss_cons ?hh ?hi;(case hh=>refine' ps_asg ?he ?hf;(case he=>refine' pe_op op_fdiv ?hd (pv 1);(case hd=>refine' pe_ix ix_list (pv 0) pe_int (fun _ _=>rfl)));(case hf=>refine' pg_sub (pv 0) pe_int set_list));(case hi=>refine' pss_one ?hg;(case hg=>refine' ps_ret (pv 2)))))
 refine ⟨_,rfl,z.p,_,_,_,rfl,rfl,SqL.of hp,rfl,_,rfl,_,_,rfl,rfl,h0,?_⟩
 refine ⟨_,rfl,z.p,_,_,_,rfl,rfl,SqL.of hp,rfl,_,rfl,_,_,rfl,rfl,⟨h0,h1⟩,?_⟩
 refine ⟨_,rfl,z.p,_,_,_,rfl,rfl,hp,rfl,?_⟩
 exact ⟨_,rfl,q _ _ (Int.emod_nonneg _ (by omega)) (Int.emod_lt_of_pos _ h0) ⟨Ext.put (by simp) _,c.extp (Ext.put (by simp) _) ⟨_,upd_same⟩⟩⟩
abbrev s__law_digits : Stmt:=top 40
theorem sc__law_digits : FnScope ["_law_script","_law_k","_law_cell","_law_total","_law_number","_law_turn"] ["_law_script","_law_k"] (defScope s__law_digits):=⟨rfl,rfl,rfl,by decide +kernel,rfl,by decide +kernel,by decide +kernel⟩
theorem ok_digits {f : Addr} {fd : FuncData} (F : Fun K "_law_digits" "_law_digits" s__law_digits f fd) (T : Txt K mg) : FnOk P w K mg base CX0 1 f fd ["_law_script","_law_k"] (spDigits K):=by
 refine F.ok sc__law_digits (fun vs H Q E h=>?_) (fun cdv A outer s H vs Q E hr h=>?_)
 ·obtain ⟨a,ns,k,rfl,_⟩:=h
  rfl
 obtain ⟨a,ns,k,rfl,hS,h63,h0,h1,q⟩:=h
 refine' ⟨_,?hh,?rr⟩
 case hh=>(refine' pss_cons ?hU ?hV;(case hU=>refine' ps_set sc__law_digits.nd (ixAt 2) (Or.inl rfl) ?hf;(case hf=>refine' pe_ifExp ?hd ?he pe_int;(case hd=>refine' pt_cmpR op_lt (pv 1) ?hc (nomark _);(case hc=>refine' pe_callB call_len_seq rfl T.b_len PySem.boot_len ?hb;(case hb=>refine' pa_c (pv 0) pa_nil)));(case he=>refine' pe_ix ix_list (pv 0) (pv 1) (fun _ _=>rfl))));(case hV=>refine' pss_cons ?hS ?hT;(case hS=>refine' ps_if ?hm ?hn pss_nil;(case hm=>refine' pt_cmpR op_ge (pv 2) ?hg (nomark _);(case hg=>refine' pe_op op_pow pe_int pe_int));(case hn=>refine' pss_one ?hl;(case hl=>refine' ps_ret ?hk;(case hk=>refine' pe_lst ?hj;(case hj=>refine' pa_c ?hi pa_nil;(case hi=>refine' pe_op op_sub (pv 2) ?hh;(case hh=>refine' pe_op op_pow pe_int pe_int)))))));(case hT=>refine' pss_cons ?hQ ?hR;(case hQ=>refine' ps_set sc__law_digits.nd (ixAt 3) (Or.inl rfl) pe_int);(case hR=>refine' pss_cons ?hO ?hP;(case hO=>refine' ps_set sc__law_digits.nd (ixAt 4) (Or.inl rfl) ?hs;(case hs=>refine' pe_op op_mod ?hr pe_int;(case hr=>refine' pe_op op_add ?hq pe_int;(case hq=>refine' pe_op op_add ?ho ?hp;(case ho=>refine' pe_op op_mul (pv 2) pe_int);(case hp=>refine' pe_op op_mul pe_int (pv 1))))));(case hP=>refine' pss_cons ?hM ?hN;(case hM=>refine' ps_for PassesOwn.never rfl ?hG ?hH ?hI;(case hG=>refine' pi_range1 rfl T.b_range ?ht;(case ht=>refine' pa_c pe_int pa_nil));(case hH=>refine' pg_name sc__law_digits.nd (ixAt 5) (Or.inl rfl) (Or.inl rfl));(case hI=>refine' pss_cons ?hE ?hF;(case hE=>refine' ps_set sc__law_digits.nd (ixAt 4) (Or.inl rfl) ?hy;(case hy=>refine' pe_op op_mod ?hx pe_int;(case hx=>refine' pe_op op_add ?hw (pv 5);(case hw=>refine' pe_op op_add ?hu ?hv;(case hu=>refine' pe_op op_mul (pv 4) (pv 4));(case hv=>refine' pe_op op_mul pe_int (pv 4))))));(case hF=>refine' pss_one ?hD;(case hD=>refine' ps_set sc__law_digits.nd (ixAt 3) (Or.inl rfl) ?hC;(case hC=>refine' pe_op op_add ?hA ?hB;(case hA=>refine' pe_op op_mul (pv 3) pe_int);(case hB=>refine' pe_op op_mod ?hz pe_int;(case hz=>refine' pe_op op_mul (pv 4) pe_int)))))));(case hN=>refine' pss_one ?hL;(case hL=>refine' ps_ret ?hK;(case hK=>refine' pe_lst ?hJ;(case hJ=>refine' pa_c (pv 3) pa_nil)))))))))
 have hl : (ns.map V.int).length = ns.length:=List.length_map _
 have d1 : CPow 10 18:=⟨by decide,by decide,by decide⟩
 have one : ∀ x : V,([x] : List V).length <= sizeLine:=fun x=>by show 1 <= sizeLine;decide
 refine ⟨_,rfl,_,rfl,a,_,rfl,.inl hS,_,_,rfl,rfl,_,rfl,?_⟩
 refine ite2 (fun c=>?_) (fun c=>?_)
 ·have c' : k < (((ns.map V.int).length : Nat) : Int):=of_decide_eq_true c
  rw [hl] at c'
  have hk : k.toNat < ns.length:=by omega
  have hv : atI (ns.map V.int) k = some (.int ns[k.toNat]):=atI_pos h0 (by rw [List.getElem?_map,List.getElem?_eq_getElem hk] <;> rfl)
  refine ⟨_,rfl,_,rfl,a,_,_,_,rfl,rfl,hS,hv,?_⟩
  refine ⟨_,rfl,_,_,rfl,rfl,d1,_,_,rfl,rfl,_,rfl,?_⟩
  refine ite2 (fun c1=>?_) (fun c1=>?_)
  ·exact ⟨_,rfl,_,_,rfl,rfl,d1,_,_,rfl,rfl,one _,fun p hp=>q p _ hp⟩
  ·refine ⟨_,rfl,_,_,rfl,rfl,.inr ⟨by decide,by decide⟩,_,rfl,_,_,rfl,rfl,.inl ⟨by decide,by decide⟩,_,_,rfl,rfl,_,_,rfl,rfl,_,_,rfl,rfl,(by show (0 : Int) < 2147483647;decide),?_⟩
   refine ⟨12,rfl,by decide,by decide,for_range (n:=12) (fun i σ H2=>∃ (c : Option V) (total number : Int) (t : Option V),σ = [some (V.ref a),some (V.int k),c,some (V.int total),some (V.int number),t]/\H2 = H/\0 <= number/\number < 2147483648)
    ⟨_,_,_,_,rfl,rfl,Int.emod_nonneg _ (by decide),Int.lt_trans (Int.emod_lt_of_pos _ (by decide)) (by decide)⟩ ?_ ?_⟩
   ·rintro i σ H2 hi ⟨c,total,number,t,rfl,rfl,n0,n1⟩
    refine ⟨_,rfl,_,rfl,_,_,rfl,rfl,.inl ⟨by omega,by omega⟩,_,rfl,_,_,rfl,rfl,.inl ⟨by decide,by decide⟩,_,_,rfl,rfl,_,rfl,_,_,rfl,rfl,_,_,rfl,rfl,(by show (0 : Int) < 2147483629;decide),?_⟩
    refine ⟨_,rfl,_,_,rfl,rfl,.inr ⟨by decide,by decide⟩,_,rfl,_,_,rfl,rfl,.inr ⟨by decide,by decide⟩,_,_,rfl,rfl,(by show (0 : Int) < 2147483587;decide),_,_,rfl,rfl,?_⟩
    exact ⟨_,_,_,_,rfl,rfl,Int.emod_nonneg _ (by decide),Int.lt_trans (Int.emod_lt_of_pos _ (by decide)) (by decide)⟩
   ·rintro σ H2 ⟨c,total,number,t,rfl,rfl,_,_⟩
    exact ⟨_,rfl,one _,fun p hp=>q p _ hp⟩
 ·skip
  refine ⟨_,rfl,_,_,rfl,rfl,d1,_,_,rfl,rfl,_,rfl,?_⟩
  refine ite2 (fun c1=>?_) (fun c1=>?_)
  ·exact ⟨_,rfl,_,_,rfl,rfl,d1,_,_,rfl,rfl,one _,fun p hp=>q p _ hp⟩
  ·refine ⟨_,rfl,_,_,rfl,rfl,.inr ⟨by decide,by decide⟩,_,rfl,_,_,rfl,rfl,.inl ⟨by decide,by decide⟩,_,_,rfl,rfl,_,_,rfl,rfl,_,_,rfl,rfl,(by show (0 : Int) < 2147483647;decide),?_⟩
   refine ⟨12,rfl,by decide,by decide,for_range (n:=12) (fun i σ H2=>∃ (c : Option V) (total number : Int) (t : Option V),σ = [some (V.ref a),some (V.int k),c,some (V.int total),some (V.int number),t]/\H2 = H/\0 <= number/\number < 2147483648)
    ⟨_,_,_,_,rfl,rfl,Int.emod_nonneg _ (by decide),Int.lt_trans (Int.emod_lt_of_pos _ (by decide)) (by decide)⟩ ?_ ?_⟩
   ·rintro i σ H2 hi ⟨c,total,number,t,rfl,rfl,n0,n1⟩
    refine ⟨_,rfl,_,rfl,_,_,rfl,rfl,.inl ⟨by omega,by omega⟩,_,rfl,_,_,rfl,rfl,.inl ⟨by decide,by decide⟩,_,_,rfl,rfl,_,rfl,_,_,rfl,rfl,_,_,rfl,rfl,(by show (0 : Int) < 2147483629;decide),?_⟩
    refine ⟨_,rfl,_,_,rfl,rfl,.inr ⟨by decide,by decide⟩,_,rfl,_,_,rfl,rfl,.inr ⟨by decide,by decide⟩,_,_,rfl,rfl,(by show (0 : Int) < 2147483587;decide),_,_,rfl,rfl,?_⟩
    exact ⟨_,_,_,_,rfl,rfl,Int.emod_nonneg _ (by decide),Int.lt_trans (Int.emod_lt_of_pos _ (by decide)) (by decide)⟩
   ·rintro σ H2 ⟨c,total,number,t,rfl,rfl,_,_⟩
    exact ⟨_,rfl,one _,fun p hp=>q p _ hp⟩
abbrev s__law_words : Stmt:=top 42
theorem sc__law_words : FnScope ["_law_held","_law_many","_law_letters","_law_word","_law_at","_law_start","_law_signs","_law_ahead","_law_behind","_law_turned","_law_found"] ["_law_held","_law_many"] (defScope s__law_words):=⟨rfl,rfl,rfl,by decide +kernel,rfl,by decide +kernel,by decide +kernel⟩
theorem ok_words {f : Addr} {fd : FuncData} (F : Fun K "_law_words" "_law_words" s__law_words f fd) (T : Txt K mg) (C__law_take : CallOk P w K mg base "_law_take" 1 ["_law_held","_law_many"] spTake) : FnOk P w K mg base CX0 2 f fd ["_law_held","_law_many"] spWordsN:=by
 refine F.ok sc__law_words (fun vs H Q E h=>?_) (fun cdv A outer s H vs Q E hr h=>?_)
 ·obtain ⟨z,m,rfl,_⟩:=h
  rfl
 obtain ⟨z,many,rfl,my0,my52,c,q⟩:=h
 refine' ⟨_,?hh,?rr⟩
 case hh=>(refine' pss_cons ?hFb ?hGb;(case hFb=>refine' ps_set sc__law_words.nd (ixAt 2) (Or.inr rfl) pe_str);(case hGb=>refine' pss_cons ?hDb ?hEb;(case hDb=>refine' ps_set sc__law_words.nd (ixAt 3) (Or.inl rfl) ?hw;(case hw=>refine' pe_bm PySem.F.plainAttrs_str PySem.F.slot_str_join PySem.F.type_str_join mt_join pe_str ?hv;(case hv=>refine' pa_c ?hu pa_nil;(case hu=>refine' pe_lcomp rfl ?hm (compN ["_law_k","_law_held","_law_letters"] 1 [0,2]) ?hn ?ho ?hp ?hq ?hr ?hs ?ht;(case hm=>exact ⟨rfl,by decide +kernel,by decide +kernel,(show ∀ y : Str × NameKind,y ∈ _->y.2 = NameKind.free->(defScope s__law_words).names.lookup y.1 = some .cell\/(defScope s__law_words).names.lookup y.1 = some .free from by decide +kernel)⟩);(case hn=>decide +kernel);(case ho=>decide);(case hp=>refine' pi_range1 rfl T.b_range ?hg;(case hg=>refine' pa_c ?hf pa_nil;(case hf=>refine' pe_op op_add pe_int ?he;(case he=>refine' pe_cl C__law_take hr ?hc rfl ?hd;(case hc=>refine' pa_c (pv 0) ?hb;(case hb=>refine' pa_c pe_int pa_nil));(case hd=>decide)))));(case hq=>intro _ _ _ _;refine' pg_name ?hh (ixAt 0) (Or.inl rfl) (Or.inr rfl);(case hh=>exact (show (["_law_k","_law_held","_law_letters"] : List Str).Nodup from by decide +kernel)));(case hr=>exact (gown_name (by decide)));(case hs=>intro _ _ _ _;exact pts_nil);(case ht=>intro _ _ _ _;refine' pe_ix ix_str (pv 2) ?hl (fun _ _=>rfl);(case hl=>refine' pe_cl C__law_take hr ?hj rfl ?hk;(case hj=>refine' pa_c (pv 1) ?hi;(case hi=>refine' pa_c pe_int pa_nil));(case hk=>decide)))))));(case hEb=>refine' pss_cons ?hBb ?hCb;(case hBb=>refine' ps_set sc__law_words.nd (ixAt 4) (Or.inl rfl) ?hC;(case hC=>refine' pe_cl C__law_take hr ?hA rfl ?hB;(case hA=>refine' pa_c (pv 0) ?hz;(case hz=>refine' pa_c ?hy pa_nil;(case hy=>refine' pe_callB call_len_str rfl T.b_len PySem.boot_len ?hx;(case hx=>refine' pa_c (pv 3) pa_nil))));(case hB=>decide)));(case hCb=>refine' pss_cons ?hzb ?hAb;(case hzb=>refine' ps_set sc__law_words.nd (ixAt 5) (Or.inl rfl) ?hG;(case hG=>refine' pe_cl C__law_take hr ?hE rfl ?hF;(case hE=>refine' pa_c (pv 0) ?hD;(case hD=>refine' pa_c pe_int pa_nil));(case hF=>decide)));(case hAb=>refine' pss_cons ?hxb ?hyb;(case hxb=>refine' ps_set sc__law_words.nd (ixAt 6) (Or.inl rfl) pe_str);(case hyb=>refine' pss_cons ?hvb ?hwb;(case hvb=>refine' ps_set sc__law_words.nd (ixAt 7) (Or.inr rfl) ?hI;(case hI=>refine' pe_slice sl_str (pv 3) po_none ?hH;(case hH=>refine' po_some (pv 4))));(case hwb=>refine' pss_cons ?htb ?hub;(case htb=>refine' ps_set sc__law_words.nd (ixAt 8) (Or.inr rfl) ?hL;(case hL=>refine' pe_slice sl_str (pv 3) ?hK po_none;(case hK=>refine' po_some ?hJ;(case hJ=>refine' pe_op op_add (pv 4) pe_int))));(case hub=>refine' pss_cons ?hrb ?hsb;(case hrb=>refine' ps_set sc__law_words.nd (ixAt 9) (Or.inl rfl) ?hQ;(case hQ=>refine' pe_op op_add_str ?hO ?hP;(case hO=>refine' pe_slice sl_str (pv 6) ?hM po_none;(case hM=>refine' po_some (pv 5)));(case hP=>refine' pe_slice sl_str (pv 6) po_none ?hN;(case hN=>refine' po_some (pv 5)))));(case hsb=>refine' pss_cons ?hpb ?hqb;(case hpb=>refine' ps_setC sc__law_words.nd (ixAt 10) (Or.inl rfl) rfl ?hT (compN ["_law_sign","_law_ahead","_law_behind"] 1 [7,8]) ?hU ?hV ?hW ?hX ?hY ?hZ ?hab;(case hT=>exact ⟨rfl,by decide +kernel,by decide +kernel,(show ∀ y : Str × NameKind,y ∈ _->y.2 = NameKind.free->(defScope s__law_words).names.lookup y.1 = some .cell\/(defScope s__law_words).names.lookup y.1 = some .free from by decide +kernel)⟩);(case hU=>decide +kernel);(case hV=>decide);(case hW=>refine' pi_str (pv 9));(case hX=>intro _ _ _ _;refine' pg_name ?hR (ixAt 0) (Or.inl rfl) (Or.inr rfl);(case hR=>exact (show (["_law_sign","_law_ahead","_law_behind"] : List Str).Nodup from by decide +kernel)));(case hY=>exact (gown_name (by decide)));(case hZ=>intro _ _ _ _;exact pts_nil);(case hab=>intro _ _ _ _;refine' pe_op op_add_str ?hS (pv 2);(case hS=>refine' pe_op op_add_str (pv 1) (pv 0))));(case hqb=>refine' pss_one ?hob;(case hob=>refine' ps_ret ?hnb;(case hnb=>refine' pe_slice sl_listD ?hlb po_none ?hmb;(case hlb=>refine' pe_op op_catLD (pv 10) ?hkb;(case hkb=>refine' pe_lcomp rfl ?hcb (compN ["_law_one"] 1 []) ?hdb ?heb ?hfb ?hgb ?hhb ?hib ?hjb;(case hcb=>exact ⟨rfl,by decide +kernel,by decide +kernel,(show ∀ y : Str × NameKind,y ∈ _->y.2 = NameKind.free->(defScope s__law_words).names.lookup y.1 = some .cell\/(defScope s__law_words).names.lookup y.1 = some .free from by decide +kernel)⟩);(case hdb=>decide +kernel);(case heb=>decide);(case hfb=>refine' pi_list (pv 10));(case hgb=>intro _ _ _ _;refine' pg_name ?hbb (ixAt 0) (Or.inl rfl) (Or.inr rfl);(case hbb=>exact (show (["_law_one"] : List Str).Nodup from by decide +kernel)));(case hhb=>exact (gown_name (by decide)));(case hib=>intro _ _ _ _;exact pts_nil);(case hjb=>intro _ _ _ _;refine' pe_op op_add_str (pv 0) pe_str)));(case hmb=>refine' po_some (pv 1))))))))))))))
 refine ⟨rfl,_,rfl,z,7,rfl,c,by decide,by decide,fun m H1 m0 m1 s1=>?_⟩
 refine ⟨_,_,rfl,rfl,_,rfl,by omega,by omega,lcomp_by0 yields_range (fun i xs H3=>Stp z H H3/\∃ l : List Nat,xs = (l.map fun c=>tx [c]).map V.str/\l.length = i/\∀ c ∈ l,97 <= c/\c <= 109) ⟨s1,[],rfl,rfl,by simp⟩ (fun _ _ _ _=>trivial) ?_ ?_⟩
 ·rintro i x xs H3 hx hi ⟨s3,l,rfl,hl,hc⟩
  rw [List.length_map,List.length_range] at hi
  have hi' : i < 8:=by omega
  refine ⟨_,rfl,_,rfl,z,13,rfl,s3.cz,by decide,by decide,fun k H4 k0 k1 s4=>?_⟩
  obtain ⟨c1,hc1,mc1⟩:=atI_in (xs:=(("abcdefghijklm" : Str)).cps.toList) (i:=k) k0 (by
   have : ((("abcdefghijklm" : Str)).cps.toList.length : Int) = 13:=by decide +kernel
   rw [this]
   exact k1)
  refine ⟨_,_,c1,rfl,rfl,line (by decide +kernel),hc1,?_,nx (by rw [List.length_map,List.length_range];exact hi) ⟨s3.trans s4,l ++ [c1],?_,by simp [hl],?_⟩⟩
  ·rw [List.length_map,List.length_map,hl]
   exact small1000 (by omega)
  ·rw [List.map_append,List.map_append]
   rfl
  ·intro y hm
   rcases List.mem_append.mp hm with hm | hm
   ·exact hc y hm
   ·simp only [List.mem_cons,List.not_mem_nil,or_false] at hm
    subst hm
    exact am_in _ mc1
 ·rintro xs H3 ⟨s3,l,rfl,hl,hc⟩ a ha
  rw [List.length_map,List.length_range] at hl
  have hl1 : 1 <= l.length:=by omega
  have hl7 : l.length <= 7:=by omega
  have s4 : Stp z H (upd H3 a (.lst ((l.map fun c=>tx [c]).map V.str))):=s3.trans (Stp.of s3.cz (Ext.new ha _))
  refine ⟨_,a,_,rfl,rfl,SqL.of upd_same,(by rw [map_len1,List.length_map,show (("" : Str)).length = 0 by decide +kernel];omega),?_⟩
  generalize upd H3 a (.lst ((l.map fun c=>tx [c]).map V.str)) = H4 at s4 ⊢
  generalize hj : Txt.join ("" : Str) (l.map fun c=>tx [c]) = wd
  rw [tx_join] at hj
  subst hj
  have hw : (tx l).length <= sizeLine:=line (by rw [tx_len];omega)
  refine ⟨_,rfl,_,rfl,_,rfl,hw,z,_,rfl,s4.cz,(by rw [tx_len];omega),(by rw [tx_len];omega),fun k H5 k0 k1 s5=>?_⟩
  rw [tx_len] at k1
  refine ⟨_,rfl,z,26,rfl,s5.cz,by decide,by decide,fun st H6 st0 st1 s6=>?_⟩
  have s06:=(s4.trans s5).trans s6
  refine ⟨_,rfl,_,rfl,_,rfl,_,rfl,hw,?_⟩
  generalize ha' : Txt.slice (tx l) none (some k) = ahead
  rw [tx_slice_to k0 (by omega)] at ha'
  subst ha'
  refine ⟨_,rfl,_,rfl,_,_,rfl,rfl,_,rfl,_,rfl,hw,?_⟩
  generalize hb' : Txt.slice (tx l) (some (k + 1)) none = behind
  rw [tx_slice_from (by omega) (by omega)] at hb'
  subst hb'
  have hz26 : (("abcdefghijklmnopqrstuvwxyz" : Str)).length <= sizeLine:=line (by decide +kernel)
  refine ⟨_,rfl,_,rfl,_,rfl,_,rfl,hz26,_,rfl,_,rfl,_,rfl,_,rfl,hz26,_,_,rfl,rfl,?_,?_⟩
  ·have h1:=Txt.slice_le ("abcdefghijklmnopqrstuvwxyz" : Str) (some st) none
   have h2:=Txt.slice_le ("abcdefghijklmnopqrstuvwxyz" : Str) none (some st)
   have h3 : (("abcdefghijklmnopqrstuvwxyz" : Str)).length = 26:=by decide +kernel
   exact line (by omega)
  generalize ht : Txt.slice ("abcdefghijklmnopqrstuvwxyz" : Str) (some st) none ++ Txt.slice ("abcdefghijklmnopqrstuvwxyz" : Str) none (some st) = turned
  rw [az_tx,tx_slice_from st0 (by show st <= 26;omega),tx_slice_to st0 (by show st <= 26;omega),tx_append] at ht
  subst ht
  have nodup:=az_turned st.toNat (by omega)
  have inaz : ∀ c ∈ azl.drop st.toNat ++ azl.take st.toNat,97 <= c/\c <= 122:=fun c hc=>by
   rcases List.mem_append.mp hc with h | h
   ·exact az_in c (List.mem_of_mem_drop h)
   ·exact az_in c (List.mem_of_mem_take h)
  have hlen : (azl.drop st.toNat ++ azl.take st.toNat).length = 26:=by
   rw [List.length_append,List.length_drop,List.length_take,show azl.length = 26 by decide]
   omega
  have hA : ∀ x ∈ l.take k.toNat,97 <= x/\x <= 109:=fun x hx=>hc x (List.mem_of_mem_take hx)
  have hB : ∀ x ∈ l.drop (k + 1).toNat,97 <= x/\x <= 109:=fun x hx=>hc x (List.mem_of_mem_drop hx)
  have hAB : (l.take k.toNat).length + (l.drop (k + 1).toNat).length <= 6:=by
   rw [List.length_take,List.length_drop]
   omega
  generalize l.take k.toNat = A' at hA hAB ⊢
  generalize l.drop (k + 1).toNat = B' at hB hAB ⊢
  generalize azl.drop st.toNat ++ azl.take st.toNat = S at nodup inaz hlen ⊢
  refine ⟨_,rfl,_,rfl,lcomp_by0 yields_str (fun i xs H7=>H7 = H6/\xs = (L2.namesOf A' B' (S.take i)).map V.str) ⟨rfl,rfl⟩ (fun _ _ _ _=>trivial) ?_ ?_⟩
  ·rintro i y xs H7 hy hi ⟨rfl,rfl⟩
   have hi2:=hi
   rw [sgV_tx] at hy
   rw [sgV_tx,List.length_map] at hi
   rw [List.getElem?_map,List.getElem?_eq_getElem hi] at hy
   obtain rfl:=Option.some.inj hy
   have l1 : ∀ c : Nat,(tx [c]).length = 1:=fun c=>tx_len _
   refine ⟨_,rfl,_,rfl,_,_,rfl,rfl,line (by rw [tx_len,l1];omega),_,rfl,_,_,rfl,rfl,line (by rw [Str.length_append,tx_len,l1,tx_len];omega),?_,nx hi2 ⟨rfl,?_⟩⟩
   ·rw [List.length_map]
    unfold L2.namesOf
    rw [List.length_map,List.length_take]
    exact small1000 (by omega)
   ·rw [tx_append,tx_append,List.append_assoc]
    unfold L2.namesOf
    rw [List.take_add_one,List.getElem?_eq_getElem hi,List.map_append,List.map_append]
    rfl
  ·rintro xs H7 ⟨rfl,rfl⟩ b hb
   have e7 : (sgV (tx S)).length = S.length:=by rw [sgV_tx,List.length_map]
   rw [e7,List.take_length]
   have e8 : Ext [] H7 (upd H7 b (.lst ((L2.namesOf A' B' S).map V.str))):=Ext.new hb _
   have s8 : Stp z H7 (upd H7 b (.lst ((L2.namesOf A' B' S).map V.str))):=Stp.of s06.cz e8
   have f8 : IsD z.ex (upd H7 b (.lst ((L2.namesOf A' B' S).map V.str))) (.list ((L2.namesOf A' B' S).map .str)) (.ref b):=⟨b,_,rfl,s06.cz.free hb,upd_same,IsDs.strs _⟩
   have hb8 : (upd H7 b (.lst ((L2.namesOf A' B' S).map V.str))) b = some (.lst ((L2.namesOf A' B' S).map V.str)):=upd_same
   generalize upd H7 b (.lst ((L2.namesOf A' B' S).map V.str)) = H8 at s8 f8 hb8 ⊢
   have hnl : (L2.namesOf A' B' S).length = 26:=by unfold L2.namesOf;rw [List.length_map,hlen]
   have hnn : ∀ x ∈ L2.namesOf A' B' S,x.length <= 8:=fun x hx=>by
    obtain ⟨y,_,rfl⟩:=List.mem_map.mp hx
    rw [tx_len,List.length_append,List.length_cons]
    omega
   have nd : (L2.namesOf A' B' S).Nodup:=names_nodup nodup
   have nms : ∀ x ∈ L2.namesOf A' B' S,nm x = true:=fun x hx=>by
    obtain ⟨y,hy,rfl⟩:=List.mem_map.mp hx
    exact name_ok (by omega) hA hB (inaz y hy)
   have ndz : (L2.namesOf A' B' S ++ (L2.namesOf A' B' S).map fun x=>x ++ ("z" : Str)).Nodup:=namesz_nodup nodup
   have nmz : ∀ x ∈ (L2.namesOf A' B' S).map (fun x=>x ++ ("z" : Str)),nm x = true:=fun x hx=>by
    obtain ⟨y,hy,rfl⟩:=List.mem_map.mp hx
    obtain ⟨u,hu,rfl⟩:=List.mem_map.mp hy
    exact name_okz (by omega) hA hB (inaz u hu)
   generalize L2.namesOf A' B' S = names at hnl hnn nd nms ndz nmz f8 hb8 ⊢
   refine ⟨_,rfl,_,rfl,b,rfl,⟨_,SqL.of hb8⟩,lcomp_by0 (yields_list (ys:=names.map V.str)) (fun i xs H9=>H9 = H8/\xs = ((names.take i).map fun x=>x ++ ("z" : Str)).map V.str) ⟨rfl,rfl⟩ (fun _ _ _ h=>by rw [h.1];exact SqL.of hb8) ?_ ?_⟩
   ·rintro i y xs H9 hy hi ⟨rfl,rfl⟩
    have hi2:=hi
    rw [List.length_map] at hi
    rw [List.getElem?_map,List.getElem?_eq_getElem hi] at hy
    obtain rfl:=Option.some.inj hy
    have hx:=hnn _ (List.getElem_mem hi)
    refine ⟨_,rfl,_,_,rfl,rfl,line (by rw [show (("z" : Str)).length = 1 by decide +kernel];omega),?_,nx hi2 ⟨rfl,?_⟩⟩
    ·rw [List.length_map,List.length_map,List.length_take]
     exact small1000 (by omega)
    ·rw [List.take_add_one,List.getElem?_eq_getElem hi,List.map_append,List.map_append]
     rfl
   ·rintro xs H9 ⟨rfl,rfl⟩ b2 hb2
    rw [List.length_map,List.take_length]
    have s9 : Stp z H9 (upd H9 b2 (.lst ((names.map fun x=>x ++ ("z" : Str)).map V.str))):=Stp.of s8.cz (Ext.new hb2 _)
    have f9 : IsD z.ex (upd H9 b2 (.lst ((names.map fun x=>x ++ ("z" : Str)).map V.str))) (.list ((names.map fun x=>x ++ ("z" : Str)).map .str)) (.ref b2):=⟨b2,_,rfl,s8.cz.free hb2,upd_same,IsDs.strs _⟩
    generalize upd H9 b2 (.lst ((names.map fun x=>x ++ ("z" : Str)).map V.str)) = H10 at s9 f9 ⊢
    refine ⟨z,_,_,f8.stp s9,f9,(by simp [hnl]),s9.cz,fun v H11 s11 f11=>?_⟩
    refine ⟨_,rfl,_,rfl,z,_,f11,s11.cz,fun v2 H12 s12 f12=>?_⟩
    rw [cut_to my0,<- List.map_append,<- List.map_take] at f12
    refine q _ v2 H12 ?_ (ndz.sublist (List.take_sublist _ _)) (fun x hx=>?_) ((((s06.trans s8).trans s9).trans s11).trans s12) f12
    ·rw [List.length_take,List.length_append,List.length_map,hnl]
     omega
    ·rcases List.mem_append.mp (List.mem_of_mem_take hx) with h | h
     ·exact nms x h
     ·exact nmz x h
end
end K12
end

section
set_option Elab.async false
set_option linter.all false
set_option maxRecDepth 100000
set_option maxHeartbeats 1000000
namespace K12
open PySem PySem.Spec L2 PyProof.Rows PySem.W
def bdP (l0 l1 l2 k0 k1 : Str) : Pl:=⟨[(l0,1),(l1,2),(l2,1)],[⟨k0,[0,1],[1,1]⟩,⟨k1,[2],[1]⟩]⟩
def bdC (k0 k1 c0 c1 c2 c3 c4 c5 c6 : Str) : List Cd:=[⟨c0,k0,3,false⟩,⟨c1,k0,1,false⟩,⟨c2,k0,0,true⟩,⟨c3,k0,2,false⟩,⟨c4,k1,0,false⟩,⟨c5,k1,1,false⟩,⟨c6,k0,0,false⟩]
def bdS (k0 k1 c0 c1 c2 c3 c4 c5 c6 : Str) : Sd:=⟨[1,2,1],bdC k0 k1 c0 c1 c2 c3 c4 c5 c6,[⟨c4,2,c5⟩]⟩
def placesD : List PyData:=[.tuple [.int 0,.int 3],.tuple [.int 0,.int 1],.tuple [.int 0,.int 0],.tuple [.int 0,.int 2],.tuple [.int 1,.int 0],.tuple [.int 1,.int 1],.tuple [.int 0,.int 0]]
def spBoard : Sp:=fun vs H Q _=>∃ z : Zn,vs = [.ref z.p]/\Cz z H/\∀ (l0 l1 l2 k0 k1 c0 c1 c2 c3 c4 c5 c6 x : Str) (r : V) (H' : Hp),Stp z H H'->[l0,l1,l2,k0,k1].Nodup->[c0,c1,c2,c3,c4,c5,c6,x].Nodup->(∀ y ∈ [l0,l1,l2,k0,k1,c0,c1,c2,c3,c4,c5,c6,x],nm y = true) ->
 IsD z.ex H' (.tuple [(bdP l0 l1 l2 k0 k1).d,(bdS k0 k1 c0 c1 c2 c3 c4 c5 c6).d,.list ([c0,c1,c2,c3,c4,c5,c6].map .str),.str x]) r->Q r H'
section
variable {P : Program} {w : World} {K : PySem.W.Frag} {mg : Str->Option Value} {base : Heap}
abbrev s__law_board : Stmt:=top 43
theorem sc__law_board : FnScope ["_law_held","_law_names","_law_lanes","_law_kinds","_law_cards","_law_places","_law_rows","_law_name","_law_two","_law_stand"] ["_law_held"] (defScope s__law_board):=⟨rfl,rfl,rfl,by decide +kernel,rfl,by decide +kernel,by decide +kernel⟩
theorem ok_board {f : Addr} {fd : FuncData} (F : Fun K "_law_board" "_law_board" s__law_board f fd) (T : Txt K mg) (C__law_words : CallOk P w K mg base "_law_words" 2 ["_law_held","_law_many"] spWordsN) : FnOk P w K mg base CX0 3 f fd ["_law_held"] spBoard:=by
 refine F.ok sc__law_board (fun vs H Q E h=>?_) (fun cdv A outer s H vs Q E hr h=>?_)
 ·obtain ⟨z,rfl,_⟩:=h
  rfl
 obtain ⟨z,rfl,c,q⟩:=h
 refine' ⟨_,?hh,?rr⟩
 case hh=>(refine' pss_cons ?g1 ?g2;(case g1=>(refine' ps_set ?g3 ?g4 ?g5 ?g6;(case g3=>(exact sc__law_board.nd));(case g4=>(exact (ixAt 1)));(case g5=>(exact (Or.inl rfl)));(case g6=>(refine' pe_cl ?g7 ?g8 ?g9 ?g10 ?g11;(case g7=>(exact C__law_words));(case g8=>(exact hr));(case g9=>(refine' pa_c ?g12 ?g13;(case g12=>(exact (pv 0)));(case g13=>(refine' pa_c ?g14 ?g15;(case g14=>(exact pe_int));(case g15=>(exact pa_nil))))));(case g10=>(exact rfl));(case g11=>(decide))))));(case g2=>(refine' pss_cons ?g16 ?g17;(case g16=>(refine' ps_set ?g18 ?g19 ?g20 ?g21;(case g18=>(exact sc__law_board.nd));(case g19=>(exact (ixAt 2)));(case g20=>(exact (Or.inl rfl)));(case g21=>(refine' pe_tupD ?g22;(case g22=>(refine' pa_c ?g23 ?g24;(case g23=>(refine' pe_tupD ?g25;(case g25=>(refine' pa_c ?g26 ?g27;(case g26=>(refine' pe_ix ?g28 ?g29 ?g30 ?g31;(case g28=>(exact ix_D));(case g29=>(exact (pv 1)));(case g30=>(exact pe_int));(case g31=>(exact (fun _ _=>rfl)))));(case g27=>(refine' pa_c ?g32 ?g33;(case g32=>(exact pe_int));(case g33=>(exact pa_nil))))))));(case g24=>(refine' pa_c ?g34 ?g35;(case g34=>(refine' pe_tupD ?g36;(case g36=>(refine' pa_c ?g37 ?g38;(case g37=>(refine' pe_ix ?g39 ?g40 ?g41 ?g42;(case g39=>(exact ix_D));(case g40=>(exact (pv 1)));(case g41=>(exact pe_int));(case g42=>(exact (fun _ _=>rfl)))));(case g38=>(refine' pa_c ?g43 ?g44;(case g43=>(exact pe_int));(case g44=>(exact pa_nil))))))));(case g35=>(refine' pa_c ?g45 ?g46;(case g45=>(refine' pe_tupD ?g47;(case g47=>(refine' pa_c ?g48 ?g49;(case g48=>(refine' pe_ix ?g50 ?g51 ?g52 ?g53;(case g50=>(exact ix_D));(case g51=>(exact (pv 1)));(case g52=>(exact pe_int));(case g53=>(exact (fun _ _=>rfl)))));(case g49=>(refine' pa_c ?g54 ?g55;(case g54=>(exact pe_int));(case g55=>(exact pa_nil))))))));(case g46=>(exact pa_nil))))))))))));(case g17=>(refine' pss_cons ?g56 ?g57;(case g56=>(refine' ps_set ?g58 ?g59 ?g60 ?g61;(case g58=>(exact sc__law_board.nd));(case g59=>(exact (ixAt 3)));(case g60=>(exact (Or.inl rfl)));(case g61=>(refine' pe_tupD ?g62;(case g62=>(refine' pa_c ?g63 ?g64;(case g63=>(refine' pe_tupD ?g65;(case g65=>(refine' pa_c ?g66 ?g67;(case g66=>(refine' pe_ix ?g68 ?g69 ?g70 ?g71;(case g68=>(exact ix_D));(case g69=>(exact (pv 1)));(case g70=>(exact pe_int));(case g71=>(exact (fun _ _=>rfl)))));(case g67=>(refine' pa_c ?g72 ?g73;(case g72=>(refine' pe_tupD ?g74;(case g74=>(refine' pa_c ?g75 ?g76;(case g75=>(exact pe_int));(case g76=>(refine' pa_c ?g77 ?g78;(case g77=>(exact pe_int));(case g78=>(exact pa_nil))))))));(case g73=>(refine' pa_c ?g79 ?g80;(case g79=>(refine' pe_tupD ?g81;(case g81=>(refine' pa_c ?g82 ?g83;(case g82=>(exact pe_int));(case g83=>(refine' pa_c ?g84 ?g85;(case g84=>(exact pe_int));(case g85=>(exact pa_nil))))))));(case g80=>(exact pa_nil))))))))));(case g64=>(refine' pa_c ?g86 ?g87;(case g86=>(refine' pe_tupD ?g88;(case g88=>(refine' pa_c ?g89 ?g90;(case g89=>(refine' pe_ix ?g91 ?g92 ?g93 ?g94;(case g91=>(exact ix_D));(case g92=>(exact (pv 1)));(case g93=>(exact pe_int));(case g94=>(exact (fun _ _=>rfl)))));(case g90=>(refine' pa_c ?g95 ?g96;(case g95=>(refine' pe_tupD ?g97;(case g97=>(refine' pa_c ?g98 ?g99;(case g98=>(exact pe_int));(case g99=>(exact pa_nil))))));(case g96=>(refine' pa_c ?g100 ?g101;(case g100=>(refine' pe_tupD ?g102;(case g102=>(refine' pa_c ?g103 ?g104;(case g103=>(exact pe_int));(case g104=>(exact pa_nil))))));(case g101=>(exact pa_nil))))))))));(case g87=>(exact pa_nil))))))))));(case g57=>(refine' pss_cons ?g105 ?g106;(case g105=>(refine' ps_set ?g107 ?g108 ?g109 ?g110;(case g107=>(exact sc__law_board.nd));(case g108=>(exact (ixAt 4)));(case g109=>(exact (Or.inl rfl)));(case g110=>(refine' pe_callB ?g111 ?g112 ?g113 ?g114 ?g115;(case g111=>(exact call_sortS));(case g112=>(exact rfl));(case g113=>(exact T.b_sorted));(case g114=>(exact boot_sorted));(case g115=>(refine' pa_c ?g116 ?g117;(case g116=>(refine' pe_slice ?g118 ?g119 ?g120 ?g121;(case g118=>(exact sl_listD));(case g119=>(exact (pv 1)));(case g120=>(refine' po_some ?g122;(case g122=>(exact pe_int))));(case g121=>(refine' po_some ?g123;(case g123=>(exact pe_int))))));(case g117=>(exact pa_nil))))))));(case g106=>(refine' pss_cons ?g124 ?g125;(case g124=>(refine' ps_set ?g126 ?g127 ?g128 ?g129;(case g126=>(exact sc__law_board.nd));(case g127=>(exact (ixAt 5)));(case g128=>(exact (Or.inl rfl)));(case g129=>(refine' pe_lstD ?g130;(case g130=>(refine' pa_c ?g131 ?g132;(case g131=>(refine' pe_tupD ?g133;(case g133=>(refine' pa_c ?g134 ?g135;(case g134=>(exact pe_int));(case g135=>(refine' pa_c ?g136 ?g137;(case g136=>(exact pe_int));(case g137=>(exact pa_nil))))))));(case g132=>(refine' pa_c ?g138 ?g139;(case g138=>(refine' pe_tupD ?g140;(case g140=>(refine' pa_c ?g141 ?g142;(case g141=>(exact pe_int));(case g142=>(refine' pa_c ?g143 ?g144;(case g143=>(exact pe_int));(case g144=>(exact pa_nil))))))));(case g139=>(refine' pa_c ?g145 ?g146;(case g145=>(refine' pe_tupD ?g147;(case g147=>(refine' pa_c ?g148 ?g149;(case g148=>(exact pe_int));(case g149=>(refine' pa_c ?g150 ?g151;(case g150=>(exact pe_int));(case g151=>(exact pa_nil))))))));(case g146=>(refine' pa_c ?g152 ?g153;(case g152=>(refine' pe_tupD ?g154;(case g154=>(refine' pa_c ?g155 ?g156;(case g155=>(exact pe_int));(case g156=>(refine' pa_c ?g157 ?g158;(case g157=>(exact pe_int));(case g158=>(exact pa_nil))))))));(case g153=>(refine' pa_c ?g159 ?g160;(case g159=>(refine' pe_tupD ?g161;(case g161=>(refine' pa_c ?g162 ?g163;(case g162=>(exact pe_int));(case g163=>(refine' pa_c ?g164 ?g165;(case g164=>(exact pe_int));(case g165=>(exact pa_nil))))))));(case g160=>(refine' pa_c ?g166 ?g167;(case g166=>(refine' pe_tupD ?g168;(case g168=>(refine' pa_c ?g169 ?g170;(case g169=>(exact pe_int));(case g170=>(refine' pa_c ?g171 ?g172;(case g171=>(exact pe_int));(case g172=>(exact pa_nil))))))));(case g167=>(refine' pa_c ?g173 ?g174;(case g173=>(refine' pe_tupD ?g175;(case g175=>(refine' pa_c ?g176 ?g177;(case g176=>(exact pe_int));(case g177=>(refine' pa_c ?g178 ?g179;(case g178=>(exact pe_int));(case g179=>(exact pa_nil))))))));(case g174=>(exact pa_nil))))))))))))))))))));(case g125=>(refine' pss_cons ?g180 ?g181;(case g180=>(refine' ps_set ?g182 ?g183 ?g184 ?g185;(case g182=>(exact sc__law_board.nd));(case g183=>(exact (ixAt 6)));(case g184=>(exact (Or.inl rfl)));(case g185=>(refine' pe_lst ?g186;(case g186=>(exact pa_nil))))));(case g181=>(refine' pss_cons ?g187 ?g188;(case g187=>(refine' ps_for ?g189 ?g190 ?g191 ?g192 ?g193;(case g189=>(exact PassesOwn.never));(case g190=>(exact rfl));(case g191=>(refine' pi_zipXL ?g194 ?g195 ?g196;(case g194=>(exact rfl));(case g195=>(exact T.b_zip));(case g196=>(refine' pa_c ?g197 ?g198;(case g197=>(exact (pv 4)));(case g198=>(refine' pa_c ?g199 ?g200;(case g199=>(exact (pv 5)));(case g200=>(exact pa_nil))))))));(case g192=>(refine' pg_tup ?g201 ?g202;(case g201=>(exact rfl));(case g202=>(refine' pgs_cons ?g203 ?g204;(case g203=>(refine' pg_name ?g205 ?g206 ?g207 ?g208;(case g205=>(exact sc__law_board.nd));(case g206=>(exact (ixAt 7)));(case g207=>(exact (Or.inl rfl)));(case g208=>(exact (Or.inl rfl)))));(case g204=>(refine' pgs_cons ?g209 ?g210;(case g209=>(refine' pg_name ?g211 ?g212 ?g213 ?g214;(case g211=>(exact sc__law_board.nd));(case g212=>(exact (ixAt 8)));(case g213=>(exact (Or.inl rfl)));(case g214=>(exact (Or.inl rfl)))));(case g210=>(exact pgs_nil))))))));(case g193=>(refine' pss_one ?g215;(case g215=>(refine' ps_expr ?g216;(case g216=>(refine' pe_bm ?g217 ?g218 ?g219 ?g220 ?g221 ?g222;(case g217=>(exact PySem.F.plainAttrs_list));(case g218=>(exact PySem.F.slot_list_append));(case g219=>(exact PySem.F.type_list_append));(case g220=>(exact mt_append));(case g221=>(exact (pv 6)));(case g222=>(refine' pa_c ?g223 ?g224;(case g223=>(refine' pe_tupD ?g225;(case g225=>(refine' pa_c ?g226 ?g227;(case g226=>(exact (pv 7)));(case g227=>(refine' pa_c ?g228 ?g229;(case g228=>(refine' pe_ix ?g230 ?g231 ?g232 ?g233;(case g230=>(exact ix_D));(case g231=>(refine' pe_ix ?g234 ?g235 ?g236 ?g237;(case g234=>(exact ix_D));(case g235=>(exact (pv 3)));(case g236=>(refine' pe_ix ?g238 ?g239 ?g240 ?g241;(case g238=>(exact ix_D));(case g239=>(exact (pv 8)));(case g240=>(exact pe_int));(case g241=>(exact (fun _ _=>rfl)))));(case g237=>(exact (fun _ _=>rfl)))));(case g232=>(exact pe_int));(case g233=>(exact (fun _ _=>rfl)))));(case g229=>(refine' pa_c ?g242 ?g243;(case g242=>(refine' pe_ix ?g244 ?g245 ?g246 ?g247;(case g244=>(exact ix_D));(case g245=>(exact (pv 8)));(case g246=>(exact pe_int));(case g247=>(exact (fun _ _=>rfl)))));(case g243=>(refine' pa_c ?g248 ?g249;(case g248=>(refine' pe_cmpR ?g250 ?g251 ?g252 ?g253;(case g250=>(exact op_eq));(case g251=>(refine' pe_callB ?g254 ?g255 ?g256 ?g257 ?g258;(case g254=>(exact call_len_seq));(case g255=>(exact rfl));(case g256=>(exact T.b_len));(case g257=>(exact PySem.boot_len));(case g258=>(refine' pa_c ?g259 ?g260;(case g259=>(exact (pv 6)));(case g260=>(exact pa_nil))))));(case g252=>(exact pe_int));(case g253=>(exact (nomark _)))));(case g249=>(exact pa_nil))))))))))));(case g224=>(exact pa_nil))))))))))));(case g188=>(refine' pss_cons ?g261 ?g262;(case g261=>(refine' ps_set ?g263 ?g264 ?g265 ?g266;(case g263=>(exact sc__law_board.nd));(case g264=>(exact (ixAt 9)));(case g265=>(exact (Or.inl rfl)));(case g266=>(refine' pe_tupD ?g267;(case g267=>(refine' pa_c ?g268 ?g269;(case g268=>(refine' pe_tupD ?g270;(case g270=>(refine' pa_c ?g271 ?g272;(case g271=>(exact pe_int));(case g272=>(refine' pa_c ?g273 ?g274;(case g273=>(exact pe_int));(case g274=>(refine' pa_c ?g275 ?g276;(case g275=>(exact pe_int));(case g276=>(exact pa_nil))))))))));(case g269=>(refine' pa_c ?g277 ?g278;(case g277=>(refine' pe_callTy ?g279 ?g280 ?g281 ?g282 ?g283;(case g279=>(exact call_tuple_of));(case g280=>(exact rfl));(case g281=>(exact T.b_tuple));(case g282=>(exact boot_ttuple));(case g283=>(refine' pa_c ?g284 ?g285;(case g284=>(exact (pv 6)));(case g285=>(exact pa_nil))))));(case g278=>(refine' pa_c ?g286 ?g287;(case g286=>(refine' pe_tupD ?g288;(case g288=>(refine' pa_c ?g289 ?g290;(case g289=>(refine' pe_tupD ?g291;(case g291=>(refine' pa_c ?g292 ?g293;(case g292=>(refine' pe_ix ?g294 ?g295 ?g296 ?g297;(case g294=>(exact ix_D));(case g295=>(exact (pv 4)));(case g296=>(exact pe_int));(case g297=>(exact (fun _ _=>rfl)))));(case g293=>(refine' pa_c ?g298 ?g299;(case g298=>(exact pe_int));(case g299=>(refine' pa_c ?g300 ?g301;(case g300=>(refine' pe_ix ?g302 ?g303 ?g304 ?g305;(case g302=>(exact ix_D));(case g303=>(exact (pv 4)));(case g304=>(exact pe_int));(case g305=>(exact (fun _ _=>rfl)))));(case g301=>(exact pa_nil))))))))));(case g290=>(exact pa_nil))))));(case g287=>(exact pa_nil))))))))))));(case g262=>(refine' pss_one ?g306;(case g306=>(refine' ps_ret ?g307;(case g307=>(refine' pe_tupD ?g308;(case g308=>(refine' pa_c ?g309 ?g310;(case g309=>(refine' pe_tupD ?g311;(case g311=>(refine' pa_c ?g312 ?g313;(case g312=>(exact (pv 2)));(case g313=>(refine' pa_c ?g314 ?g315;(case g314=>(exact (pv 3)));(case g315=>(exact pa_nil))))))));(case g310=>(refine' pa_c ?g316 ?g317;(case g316=>(exact (pv 9)));(case g317=>(refine' pa_c ?g318 ?g319;(case g318=>(refine' pe_slice ?g320 ?g321 ?g322 ?g323;(case g320=>(exact sl_listD));(case g321=>(exact (pv 4)));(case g322=>(exact po_none));(case g323=>(refine' po_some ?g324;(case g324=>(exact pe_int))))));(case g319=>(refine' pa_c ?g325 ?g326;(case g325=>(refine' pe_ix ?g327 ?g328 ?g329 ?g330;(case g327=>(exact ix_D));(case g328=>(exact (pv 1)));(case g329=>(exact pe_int));(case g330=>(exact (fun _ _=>rfl)))));(case g326=>(exact pa_nil)))))))))))))))))))))))))))))))
 refine ⟨_,rfl,z,14,rfl,by decide,by decide,c,fun ns v1 H1 hn hnd hm S f1=>?_⟩
 replace c:=S.cz
 obtain ⟨l0,l1,l2,k0,k1,d0,d1,d2,d3,d4,d5,d6,d7,x,rfl⟩ : ∃ l0 l1 l2 k0 k1 d0 d1 d2 d3 d4 d5 d6 d7 x,ns = [l0,l1,l2,k0,k1,d0,d1,d2,d3,d4,d5,d6,d7,x]:=by
  match ns,hn with
  | [a0,a1,a2,a3,a4,a5,a6,a7,a8,a9,a10,a11,a12,a13],_=>exact ⟨_,_,_,_,_,_,_,_,_,_,_,_,_,_,rfl⟩
 refine ⟨_,rfl,z,([l0,l1,l2,k0,k1,d0,d1,d2,d3,d4,d5,d6,d7,x].map PyData.str),0,.str l0,.inr f1,rfl,(by decide),rfl,fun vn0 n0=>?_⟩
 refine ⟨z,[.str l0,.int 1],⟨_,_,rfl,n0,_,_,rfl,rfl,rfl⟩,(by show 2 <= 1000;decide),c,fun vb1 Hb1 sb1 t0=>?_⟩
 replace f1:=f1.stp sb1
 replace n0:=n0.stp sb1
 replace c:=sb1.cz
 replace S:=S.trans sb1
 refine ⟨_,rfl,z,([l0,l1,l2,k0,k1,d0,d1,d2,d3,d4,d5,d6,d7,x].map PyData.str),1,.str l1,.inr f1,rfl,(by decide),rfl,fun vn1 n1=>?_⟩
 refine ⟨z,[.str l1,.int 2],⟨_,_,rfl,n1,_,_,rfl,rfl,rfl⟩,(by show 2 <= 1000;decide),c,fun vb2 Hb2 sb2 t1=>?_⟩
 replace f1:=f1.stp sb2
 replace t0:=t0.stp sb2
 replace n1:=n1.stp sb2
 replace c:=sb2.cz
 replace S:=S.trans sb2
 refine ⟨_,rfl,z,([l0,l1,l2,k0,k1,d0,d1,d2,d3,d4,d5,d6,d7,x].map PyData.str),2,.str l2,.inr f1,rfl,(by decide),rfl,fun vn2 n2=>?_⟩
 refine ⟨z,[.str l2,.int 1],⟨_,_,rfl,n2,_,_,rfl,rfl,rfl⟩,(by show 2 <= 1000;decide),c,fun vb3 Hb3 sb3 t2=>?_⟩
 replace f1:=f1.stp sb3
 replace t0:=t0.stp sb3
 replace t1:=t1.stp sb3
 replace n2:=n2.stp sb3
 replace c:=sb3.cz
 replace S:=S.trans sb3
 refine ⟨z,[.tuple [.str l0,.int 1],.tuple [.str l1,.int 2],.tuple [.str l2,.int 1]],⟨_,_,rfl,t0,_,_,rfl,t1,_,_,rfl,t2,rfl⟩,(by show 3 <= 1000;decide),c,fun vb4 Hb4 sb4 fl=>?_⟩
 replace f1:=f1.stp sb4
 replace t0:=t0.stp sb4
 replace t1:=t1.stp sb4
 replace t2:=t2.stp sb4
 replace c:=sb4.cz
 replace S:=S.trans sb4
 refine ⟨_,rfl,z,([l0,l1,l2,k0,k1,d0,d1,d2,d3,d4,d5,d6,d7,x].map PyData.str),3,.str k0,.inr f1,rfl,(by decide),rfl,fun vm0 m0=>?_⟩
 refine ⟨z,[.int 0,.int 1],⟨_,_,rfl,rfl,_,_,rfl,rfl,rfl⟩,(by show 2 <= 1000;decide),c,fun vb5 Hb5 sb5 w0=>?_⟩
 replace f1:=f1.stp sb5
 replace fl:=fl.stp sb5
 replace m0:=m0.stp sb5
 replace c:=sb5.cz
 replace S:=S.trans sb5
 refine ⟨z,[.int 1,.int 1],⟨_,_,rfl,rfl,_,_,rfl,rfl,rfl⟩,(by show 2 <= 1000;decide),c,fun vb6 Hb6 sb6 u0=>?_⟩
 replace f1:=f1.stp sb6
 replace fl:=fl.stp sb6
 replace m0:=m0.stp sb6
 replace w0:=w0.stp sb6
 replace c:=sb6.cz
 replace S:=S.trans sb6
 refine ⟨z,[.str k0,.tuple [.int 0,.int 1],.tuple [.int 1,.int 1]],⟨_,_,rfl,m0,_,_,rfl,w0,_,_,rfl,u0,rfl⟩,(by show 3 <= 1000;decide),c,fun vb7 Hb7 sb7 g0=>?_⟩
 replace f1:=f1.stp sb7
 replace fl:=fl.stp sb7
 replace m0:=m0.stp sb7
 replace w0:=w0.stp sb7
 replace u0:=u0.stp sb7
 replace c:=sb7.cz
 replace S:=S.trans sb7
 refine ⟨_,rfl,z,([l0,l1,l2,k0,k1,d0,d1,d2,d3,d4,d5,d6,d7,x].map PyData.str),4,.str k1,.inr f1,rfl,(by decide),rfl,fun vm1 m1=>?_⟩
 refine ⟨z,[.int 2],⟨_,_,rfl,rfl,rfl⟩,(by show 1 <= 1000;decide),c,fun vb8 Hb8 sb8 w1=>?_⟩
 replace f1:=f1.stp sb8
 replace fl:=fl.stp sb8
 replace g0:=g0.stp sb8
 replace m1:=m1.stp sb8
 replace c:=sb8.cz
 replace S:=S.trans sb8
 refine ⟨z,[.int 1],⟨_,_,rfl,rfl,rfl⟩,(by show 1 <= 1000;decide),c,fun vb9 Hb9 sb9 u1=>?_⟩
 replace f1:=f1.stp sb9
 replace fl:=fl.stp sb9
 replace g0:=g0.stp sb9
 replace m1:=m1.stp sb9
 replace w1:=w1.stp sb9
 replace c:=sb9.cz
 replace S:=S.trans sb9
 refine ⟨z,[.str k1,.tuple [.int 2],.tuple [.int 1]],⟨_,_,rfl,m1,_,_,rfl,w1,_,_,rfl,u1,rfl⟩,(by show 3 <= 1000;decide),c,fun vb10 Hb10 sb10 g1=>?_⟩
 replace f1:=f1.stp sb10
 replace fl:=fl.stp sb10
 replace g0:=g0.stp sb10
 replace m1:=m1.stp sb10
 replace w1:=w1.stp sb10
 replace u1:=u1.stp sb10
 replace c:=sb10.cz
 replace S:=S.trans sb10
 refine ⟨z,[.tuple [.str k0,.tuple [.int 0,.int 1],.tuple [.int 1,.int 1]],.tuple [.str k1,.tuple [.int 2],.tuple [.int 1]]],⟨_,_,rfl,g0,_,_,rfl,g1,rfl⟩,(by show 2 <= 1000;decide),c,fun vb11 Hb11 sb11 fk=>?_⟩
 replace f1:=f1.stp sb11
 replace fl:=fl.stp sb11
 replace g0:=g0.stp sb11
 replace g1:=g1.stp sb11
 replace c:=sb11.cz
 replace S:=S.trans sb11
 refine ⟨_,rfl,_,rfl,_,rfl,z,([l0,l1,l2,k0,k1,d0,d1,d2,d3,d4,d5,d6,d7,x].map PyData.str),f1,c,fun vb12 Hb12 sb12 f2=>?_⟩
 replace f1:=f1.stp sb12
 replace fl:=fl.stp sb12
 replace fk:=fk.stp sb12
 replace c:=sb12.cz
 replace S:=S.trans sb12
 rw [show cutD ([l0,l1,l2,k0,k1,d0,d1,d2,d3,d4,d5,d6,d7,x].map PyData.str) (some 5) (some 13) = ([d0,d1,d2,d3,d4,d5,d6,d7].map PyData.str) from rfl] at f2
 obtain ⟨ad,xd,rfl,nad,had,hxd⟩:=f2
 obtain rfl:=IsDs.strs_of hxd
 refine ⟨ad,[d0,d1,d2,d3,d4,d5,d6,d7],rfl,SqL.of had,by show 8 < 64;decide,fun ac zs hac hperm hsort=>?_⟩
 have sS : Stp z Hb12 (upd Hb12 ac (.lst (zs.map V.str))):=Stp.of c (Ext.new hac _)
 have fc : IsD z.ex (upd Hb12 ac (.lst (zs.map V.str))) (.list (zs.map .str)) (.ref ac):=⟨ac,_,rfl,c.free hac,upd_same,IsDs.strs _⟩
 generalize upd Hb12 ac (.lst (zs.map V.str)) = HS at sS fc ⊢
 replace f1:=f1.stp sS
 replace fl:=fl.stp sS
 replace fk:=fk.stp sS
 replace c:=sS.cz
 replace S:=S.trans sS
 obtain ⟨c0,c1,c2,c3,c4,c5,c6,c7,rfl⟩ : ∃ c0 c1 c2 c3 c4 c5 c6 c7,zs = [c0,c1,c2,c3,c4,c5,c6,c7]:=by
  have hl8:=hperm.length_eq
  match zs,hl8 with
  | [a0,a1,a2,a3,a4,a5,a6,a7],_=>exact ⟨_,_,_,_,_,_,_,_,rfl⟩
 refine ⟨z,[.int 0,.int 3],⟨_,_,rfl,rfl,_,_,rfl,rfl,rfl⟩,(by show 2 <= 1000;decide),c,fun vb13 Hb13 sb13 p0=>?_⟩
 replace f1:=f1.stp sb13
 replace fl:=fl.stp sb13
 replace fk:=fk.stp sb13
 replace fc:=fc.stp sb13
 replace c:=sb13.cz
 replace S:=S.trans sb13
 refine ⟨z,[.int 0,.int 1],⟨_,_,rfl,rfl,_,_,rfl,rfl,rfl⟩,(by show 2 <= 1000;decide),c,fun vb14 Hb14 sb14 p1=>?_⟩
 replace f1:=f1.stp sb14
 replace fl:=fl.stp sb14
 replace fk:=fk.stp sb14
 replace fc:=fc.stp sb14
 replace p0:=p0.stp sb14
 replace c:=sb14.cz
 replace S:=S.trans sb14
 refine ⟨z,[.int 0,.int 0],⟨_,_,rfl,rfl,_,_,rfl,rfl,rfl⟩,(by show 2 <= 1000;decide),c,fun vb15 Hb15 sb15 p2=>?_⟩
 replace f1:=f1.stp sb15
 replace fl:=fl.stp sb15
 replace fk:=fk.stp sb15
 replace fc:=fc.stp sb15
 replace p0:=p0.stp sb15
 replace p1:=p1.stp sb15
 replace c:=sb15.cz
 replace S:=S.trans sb15
 refine ⟨z,[.int 0,.int 2],⟨_,_,rfl,rfl,_,_,rfl,rfl,rfl⟩,(by show 2 <= 1000;decide),c,fun vb16 Hb16 sb16 p3=>?_⟩
 replace f1:=f1.stp sb16
 replace fl:=fl.stp sb16
 replace fk:=fk.stp sb16
 replace fc:=fc.stp sb16
 replace p0:=p0.stp sb16
 replace p1:=p1.stp sb16
 replace p2:=p2.stp sb16
 replace c:=sb16.cz
 replace S:=S.trans sb16
 refine ⟨z,[.int 1,.int 0],⟨_,_,rfl,rfl,_,_,rfl,rfl,rfl⟩,(by show 2 <= 1000;decide),c,fun vb17 Hb17 sb17 p4=>?_⟩
 replace f1:=f1.stp sb17
 replace fl:=fl.stp sb17
 replace fk:=fk.stp sb17
 replace fc:=fc.stp sb17
 replace p0:=p0.stp sb17
 replace p1:=p1.stp sb17
 replace p2:=p2.stp sb17
 replace p3:=p3.stp sb17
 replace c:=sb17.cz
 replace S:=S.trans sb17
 refine ⟨z,[.int 1,.int 1],⟨_,_,rfl,rfl,_,_,rfl,rfl,rfl⟩,(by show 2 <= 1000;decide),c,fun vb18 Hb18 sb18 p5=>?_⟩
 replace f1:=f1.stp sb18
 replace fl:=fl.stp sb18
 replace fk:=fk.stp sb18
 replace fc:=fc.stp sb18
 replace p0:=p0.stp sb18
 replace p1:=p1.stp sb18
 replace p2:=p2.stp sb18
 replace p3:=p3.stp sb18
 replace p4:=p4.stp sb18
 replace c:=sb18.cz
 replace S:=S.trans sb18
 refine ⟨z,[.int 0,.int 0],⟨_,_,rfl,rfl,_,_,rfl,rfl,rfl⟩,(by show 2 <= 1000;decide),c,fun vb19 Hb19 sb19 p6=>?_⟩
 replace f1:=f1.stp sb19
 replace fl:=fl.stp sb19
 replace fk:=fk.stp sb19
 replace fc:=fc.stp sb19
 replace p0:=p0.stp sb19
 replace p1:=p1.stp sb19
 replace p2:=p2.stp sb19
 replace p3:=p3.stp sb19
 replace p4:=p4.stp sb19
 replace p5:=p5.stp sb19
 replace c:=sb19.cz
 replace S:=S.trans sb19
 refine ⟨z,[.tuple [.int 0,.int 3],.tuple [.int 0,.int 1],.tuple [.int 0,.int 0],.tuple [.int 0,.int 2],.tuple [.int 1,.int 0],.tuple [.int 1,.int 1],.tuple [.int 0,.int 0]],⟨_,_,rfl,p0,_,_,rfl,p1,_,_,rfl,p2,_,_,rfl,p3,_,_,rfl,p4,_,_,rfl,p5,_,_,rfl,p6,rfl⟩,(by show 7 <= 1000;decide),c,fun vb20 Hb20 sb20 fp=>?_⟩
 replace f1:=f1.stp sb20
 replace fl:=fl.stp sb20
 replace fk:=fk.stp sb20
 replace fc:=fc.stp sb20
 replace p0:=p0.stp sb20
 replace p1:=p1.stp sb20
 replace p2:=p2.stp sb20
 replace p3:=p3.stp sb20
 replace p4:=p4.stp sb20
 replace p5:=p5.stp sb20
 replace p6:=p6.stp sb20
 replace c:=sb20.cz
 replace S:=S.trans sb20
 replace fp : IsD z.ex Hb20 (.list placesD) vb20:=fp
 refine ⟨(by show 0 <= sizeLine;decide),fun l hl=>?_⟩
 have hl0:=hl
 have c00:=c
 have lp : l ≠ z.p:=fun e=>by
  obtain ⟨n,h⟩:=c.held
  rw [e,h] at hl
  cases hl
 have nlp : l ∉ [z.p]:=fun h=>lp (List.mem_singleton.mp h)
 have a2 : Stl z l Hb20 (upd Hb20 l (.lst [])):=Stl.new c hl
 have hl2 : (upd Hb20 l (.lst [])) l = some (.lst []):=upd_same
 replace f1:=IsD.more hl f1
 replace fl:=IsD.more hl fl
 replace fk:=IsD.more hl fk
 replace fc:=IsD.more hl fc
 replace fp:=IsD.more hl fp
 generalize upd Hb20 l (.lst []) = H2 at a2 hl2 ⊢
 have fc0:=fc
 have fp0:=fp
 obtain ⟨ac',xc,ee,nac,hac2,hxc⟩:=fc0
 cases ee
 obtain rfl:=IsDs.strs_of hxc
 obtain ⟨ap,xp,rfl,nap,hap,hxp⟩:=fp0
 have lxp : xp.length = 7:=hxp.length
 refine ⟨_,rfl,_,rfl,ac,ap,rfl,⟨_,SqL.of (a2.ex.lst nac hac2)⟩,⟨_,SqL.of (a2.ex.lst nap hap)⟩,for_zipXL (xs:=[c0,c1,c2,c3,c4,c5,c6,c7].map V.str) (ys:=xp) 7 (by show 7 <= 8;decide) (by omega) (.inr lxp) (fun i σ H4=>∃ (xs : List V) (nn tt : Option V),σ = [some (V.ref z.p),some v1,some vb4,some vb11,some (V.ref ac),some (V.ref ap),some (V.ref l),nn,tt,none]/\Stl z l Hb20 H4/\H4 l = some (.lst xs)/\IsDs (z.with l).ex H4 (((bdC k0 k1 c0 c1 c2 c3 c4 c5 c6).map Cd.d).take i) xs/\xs.length = i) ⟨[],none,none,rfl,a2,hl2,rfl,rfl⟩ (fun i σ H4 _ ⟨_,_,_,_,a4,_⟩=>⟨SqL.of (a4.ex.lst nac hac2),SqL.of (a4.ex.lst nap hap)⟩) ?_ ?_⟩
 ·rintro i xv yv tA σ H4 hxv hyv ⟨xs,nn,tt,rfl,a4,hx,hds,hxl⟩ htA
  have hi7 : i < 7:=by have:=(List.getElem?_eq_some_iff.mp hyv).1;omega
  have a5 : Stl z l Hb20 (upd H4 tA (.tup [xv,yv])):=a4.stp (Stp.of a4.cz (Ext.new htA _))
  have e5 : Ext (z.with l).ex H4 (upd H4 tA (.tup [xv,yv])):=(Ext.new htA _)
  have hx5 : (upd H4 tA (.tup [xv,yv])) l = some (.lst xs):=(upd_ne (ne_of_none hx htA)).trans hx
  have hds5:=IsDs.ext e5 hds
  have hT5 : (upd H4 tA (.tup [xv,yv])) tA = some (.tup [xv,yv]):=upd_same
  generalize upd H4 tA (.tup [xv,yv]) = H5 at a5 hx5 hds5 hT5 ⊢
  obtain ⟨ci,ki,pi,kn,wy,by',e1,e2,e3,e4,e6⟩ : ∃ (ci : Str) (ki pi : Int) (kn : Str) (wy by' : PyData),[c0,c1,c2,c3,c4,c5,c6,c7][i]? = some ci/\placesD[i]? = some (.tuple [.int ki,.int pi])/\0 <= ki/\[PyData.tuple [.str k0,.tuple [.int 0,.int 1],.tuple [.int 1,.int 1]],.tuple [.str k1,.tuple [.int 2],.tuple [.int 1]]][ki.toNat]? = some (.tuple [.str kn,wy,by'])/\((bdC k0 k1 c0 c1 c2 c3 c4 c5 c6).map Cd.d)[i]? = some (.tuple [.str ci,.str kn,.int pi,.bool (decide (i = 2))]):=by
   have : i = 0\/i = 1\/i = 2\/i = 3\/i = 4\/i = 5\/i = 6:=by omega
   rcases this with rfl | rfl | rfl | rfl | rfl | rfl | rfl
   ·exact ⟨c0,0,3,k0,_,_,rfl,rfl,by decide,rfl,rfl⟩
   ·exact ⟨c1,0,1,k0,_,_,rfl,rfl,by decide,rfl,rfl⟩
   ·exact ⟨c2,0,0,k0,_,_,rfl,rfl,by decide,rfl,rfl⟩
   ·exact ⟨c3,0,2,k0,_,_,rfl,rfl,by decide,rfl,rfl⟩
   ·exact ⟨c4,1,0,k1,_,_,rfl,rfl,by decide,rfl,rfl⟩
   ·exact ⟨c5,1,1,k1,_,_,rfl,rfl,by decide,rfl,rfl⟩
   ·exact ⟨c6,0,0,k0,_,_,rfl,rfl,by decide,rfl,rfl⟩
  obtain rfl : xv = .str ci:=by
   rw [List.getElem?_map,e1] at hxv
   exact (Option.some.inj hxv).symm
  obtain ⟨yv',hyv',fy⟩:=hxp.get e2
  rw [hyv] at hyv'
  cases hyv'
  have fy5:=fy.stl a5
  have fk5:=fk.stl a5
  refine ⟨_,_,rfl,SqT.of hT5,rfl,_,_,rfl,_,_,rfl,rfl,?_⟩
  refine ⟨_,rfl,.inl ⟨rfl,xs,SqL.of hx5⟩,?_⟩
  refine ⟨_,rfl,_,rfl,_,rfl,z.with l,_,0,.int ki,.inl fy5,rfl,by decide,rfl,fun vq fq=>?_⟩
  obtain rfl : vq = .int ki:=fq
  refine ⟨z.with l,_,ki,_,.inl fk5,rfl,e3,e4,fun vr fr=>?_⟩
  refine ⟨z.with l,_,0,.str kn,.inl fr,rfl,by decide,rfl,fun vn fn=>?_⟩
  refine ⟨_,rfl,z.with l,_,1,.int pi,.inl fy5,rfl,by decide,rfl,fun vq2 fq2=>?_⟩
  refine ⟨_,rfl,l,xs,rfl,.inl (SqL.of hx5),rfl,?_⟩
  have eb : decide (V.int ((xs.length : Nat) : Int) = V.int 2) = decide (i = 2):=by
   rw [hxl]
   by_cases h : i = 2
   ·subst h;rfl
   ·rw [decide_eq_false h,decide_eq_false]
    intro z
    injection z with z
    omega
  rw [eb]
  refine ⟨z.with l,[.str ci,.str kn,.int pi,.bool (decide (i = 2))],⟨_,_,rfl,rfl,_,_,rfl,fn,_,_,rfl,fq2,_,_,rfl,rfl,rfl⟩,(by show 4 <= 1000;decide),a5.cz,fun v6 H6 s6 f6=>?_⟩
  refine ⟨l,xs,v6,rfl,rfl,s6.ext.lst nlp hx5,small1000 (by omega),?_⟩
  refine ⟨xs ++ [v6],_,_,rfl,(a5.stp s6).put lp,upd_same,?_,by simp [hxl]⟩
  rw [List.take_add_one,e6]
  exact put_ext List.mem_cons_self (IsDs.append (hds5.stp s6) ⟨v6,_,rfl,f6,rfl⟩)
 rintro σ H4 ⟨xs,nn,tt,rfl,S4,hx,hds,hxl⟩
 replace hds : IsDs (z.with l).ex H4 ((bdC k0 k1 c0 c1 c2 c3 c4 c5 c6).map Cd.d) xs:=hds
 replace f1:=f1.stl S4
 replace fl:=fl.stl S4
 replace fk:=fk.stl S4
 replace fc:=fc.stl S4
 replace c:=S4.cz
 refine ⟨(z.with l),[.int 1,.int 2,.int 1],⟨_,_,rfl,rfl,_,_,rfl,rfl,_,_,rfl,rfl,rfl⟩,(by show 3 <= 1000;decide),c,fun ve1 He1 se1 fb=>?_⟩
 replace f1:=f1.stp se1
 replace fl:=fl.stp se1
 replace fk:=fk.stp se1
 replace fc:=fc.stp se1
 replace hds:=hds.stp se1
 replace hx:=se1.ext.lst nlp hx
 replace c:=se1.cz
 replace S4:=S4.stp se1
 refine ⟨_,rfl,l,xs,rfl,.inl ⟨SqL.of hx,fun tr htr=>?_⟩⟩
 have sR : Stp (z.with l) He1 (upd He1 tr (.tup xs)):=Stp.of c (Ext.new htr _)
 have fr : IsD (z.with l).ex (upd He1 tr (.tup xs)) (.tuple ((bdC k0 k1 c0 c1 c2 c3 c4 c5 c6).map Cd.d)) (.ref tr):=⟨tr,xs,rfl,c.free htr,upd_same,hds.stp sR⟩
 generalize upd He1 tr (.tup xs) = HR at sR fr ⊢
 replace f1:=f1.stp sR
 replace fl:=fl.stp sR
 replace fk:=fk.stp sR
 replace fc:=fc.stp sR
 replace hds:=hds.stp sR
 replace fb:=fb.stp sR
 replace hx:=sR.ext.lst nlp hx
 replace c:=sR.cz
 replace S4:=S4.stp sR
 refine ⟨_,rfl,(z.with l),([c0,c1,c2,c3,c4,c5,c6,c7].map PyData.str),4,.str c4,.inr fc,rfl,(by decide),rfl,fun vq4 q4=>?_⟩
 refine ⟨_,rfl,(z.with l),([c0,c1,c2,c3,c4,c5,c6,c7].map PyData.str),5,.str c5,.inr fc,rfl,(by decide),rfl,fun vq5 q5=>?_⟩
 refine ⟨(z.with l),[.str c4,.int 2,.str c5],⟨_,_,rfl,q4,_,_,rfl,rfl,_,_,rfl,q5,rfl⟩,(by show 3 <= 1000;decide),c,fun ve2 He2 se2 fw=>?_⟩
 replace f1:=f1.stp se2
 replace fl:=fl.stp se2
 replace fk:=fk.stp se2
 replace fc:=fc.stp se2
 replace hds:=hds.stp se2
 replace fb:=fb.stp se2
 replace fr:=fr.stp se2
 replace q4:=q4.stp se2
 replace q5:=q5.stp se2
 replace hx:=se2.ext.lst nlp hx
 replace c:=se2.cz
 replace S4:=S4.stp se2
 refine ⟨(z.with l),[.tuple [.str c4,.int 2,.str c5]],⟨_,_,rfl,fw,rfl⟩,(by show 1 <= 1000;decide),c,fun ve3 He3 se3 fws=>?_⟩
 replace f1:=f1.stp se3
 replace fl:=fl.stp se3
 replace fk:=fk.stp se3
 replace fc:=fc.stp se3
 replace hds:=hds.stp se3
 replace fb:=fb.stp se3
 replace fr:=fr.stp se3
 replace fw:=fw.stp se3
 replace hx:=se3.ext.lst nlp hx
 replace c:=se3.cz
 replace S4:=S4.stp se3
 refine ⟨(z.with l),[.tuple [.int 1,.int 2,.int 1],.tuple ((bdC k0 k1 c0 c1 c2 c3 c4 c5 c6).map Cd.d),.tuple [.tuple [.str c4,.int 2,.str c5]]],⟨_,_,rfl,fb,_,_,rfl,fr,_,_,rfl,fws,rfl⟩,(by show 3 <= 1000;decide),c,fun ve4 He4 se4 fs=>?_⟩
 replace f1:=f1.stp se4
 replace fl:=fl.stp se4
 replace fk:=fk.stp se4
 replace fc:=fc.stp se4
 replace hds:=hds.stp se4
 replace fb:=fb.stp se4
 replace fr:=fr.stp se4
 replace fws:=fws.stp se4
 replace hx:=se4.ext.lst nlp hx
 replace c:=se4.cz
 replace S4:=S4.stp se4
 refine ⟨_,rfl,_,rfl,(z.with l),[.tuple [.tuple [.str l0,.int 1],.tuple [.str l1,.int 2],.tuple [.str l2,.int 1]],.tuple [.tuple [.str k0,.tuple [.int 0,.int 1],.tuple [.int 1,.int 1]],.tuple [.str k1,.tuple [.int 2],.tuple [.int 1]]]],⟨_,_,rfl,fl,_,_,rfl,fk,rfl⟩,(by show 2 <= 1000;decide),c,fun ve5 He5 se5 fpl=>?_⟩
 replace f1:=f1.stp se5
 replace fl:=fl.stp se5
 replace fk:=fk.stp se5
 replace fc:=fc.stp se5
 replace hds:=hds.stp se5
 replace fs:=fs.stp se5
 replace hx:=se5.ext.lst nlp hx
 replace c:=se5.cz
 replace S4:=S4.stp se5
 refine ⟨_,rfl,_,rfl,_,rfl,(z.with l),([c0,c1,c2,c3,c4,c5,c6,c7].map PyData.str),fc,c,fun ve6 He6 se6 f7=>?_⟩
 replace f1:=f1.stp se6
 replace fl:=fl.stp se6
 replace fk:=fk.stp se6
 replace fc:=fc.stp se6
 replace hds:=hds.stp se6
 replace fs:=fs.stp se6
 replace fpl:=fpl.stp se6
 replace hx:=se6.ext.lst nlp hx
 replace c:=se6.cz
 replace S4:=S4.stp se6
 refine ⟨_,rfl,(z.with l),([l0,l1,l2,k0,k1,d0,d1,d2,d3,d4,d5,d6,d7,x].map PyData.str),13,.str x,.inr f1,rfl,(by decide),rfl,fun vq13 q13=>?_⟩
 replace f7 : IsD (z.with l).ex _ (.list ([c0,c1,c2,c3,c4,c5,c6].map .str)) _:=f7
 refine ⟨(z.with l),[(bdP l0 l1 l2 k0 k1).d,(bdS k0 k1 c0 c1 c2 c3 c4 c5 c6).d,.list ([c0,c1,c2,c3,c4,c5,c6].map .str),.str x],⟨_,_,rfl,fpl,_,_,rfl,fs,_,_,rfl,f7,_,_,rfl,q13,rfl⟩,(by show 4 <= 1000;decide),c,fun ve7 He7 se7 fz=>?_⟩
 replace f1:=f1.stp se7
 replace fl:=fl.stp se7
 replace fk:=fk.stp se7
 replace fc:=fc.stp se7
 replace hds:=hds.stp se7
 replace fs:=fs.stp se7
 replace fpl:=fpl.stp se7
 replace f7:=f7.stp se7
 replace q13:=q13.stp se7
 replace hx:=se7.ext.lst nlp hx
 replace c:=se7.cz
 replace S4:=S4.stp se7
 have hnd8 : [c0,c1,c2,c3,c4,c5,c6,c7].Nodup:=(hperm.nodup_iff).mpr (hnd.sublist (List.Sublist.trans (List.sublist_append_left [d0,d1,d2,d3,d4,d5,d6,d7] [x]) (List.sublist_append_right [l0,l1,l2,k0,k1] [d0,d1,d2,d3,d4,d5,d6,d7,x])))
 have hmc : ∀ y,y ∈ [c0,c1,c2,c3,c4,c5,c6,c7]->y ∈ [d0,d1,d2,d3,d4,d5,d6,d7]:=fun y hy=>hperm.mem_iff.mp hy
 have hx8 : x ∉ [c0,c1,c2,c3,c4,c5,c6,c7]:=fun hm0=>by
  have h1:=hmc x hm0
  have h2 : [d0,d1,d2,d3,d4,d5,d6,d7,x].Nodup:=hnd.sublist (List.sublist_append_right [l0,l1,l2,k0,k1] _)
  have h3 : ([d0,d1,d2,d3,d4,d5,d6,d7] ++ [x]).Nodup:=h2
  rw [List.nodup_append] at h3
  exact h3.2.2 x h1 x (by simp) rfl
 refine q l0 l1 l2 k0 k1 c0 c1 c2 c3 c4 c5 c6 x _ _ (S.trans (S4.back hl0 c00.mem)) ?_ ?_ ?_ (IsD.less (fun b hb=>List.mem_cons_of_mem _ hb) fz)
 ·exact hnd.sublist (List.sublist_append_left [l0,l1,l2,k0,k1] _)
 ·have h7 : [c0,c1,c2,c3,c4,c5,c6].Nodup:=hnd8.sublist (List.sublist_append_left [c0,c1,c2,c3,c4,c5,c6] [c7])
  show ([c0,c1,c2,c3,c4,c5,c6] ++ [x]).Nodup
  rw [List.nodup_append]
  refine ⟨h7,by simp,fun a ha b hb=>?_⟩
  rw [List.mem_singleton.mp hb]
  rintro rfl
  exact hx8 (List.mem_append_left [c7] ha)
 ·intro y hy
  have hy' : y ∈ [l0,l1,l2,k0,k1] ++ ([c0,c1,c2,c3,c4,c5,c6] ++ [x]):=hy
  have : y ∈ [l0,l1,l2,k0,k1]\/y ∈ [c0,c1,c2,c3,c4,c5,c6]\/y = x:=by
   rcases List.mem_append.mp hy' with h | h
   ·exact .inl h
   ·rcases List.mem_append.mp h with h | h
    ·exact .inr (.inl h)
    ·exact .inr (.inr (List.mem_singleton.mp h))
  have hmem : y ∈ [l0,l1,l2,k0,k1,d0,d1,d2,d3,d4,d5,d6,d7,x]:=by
   rcases this with h | h | h
   ·exact List.mem_append_left [d0,d1,d2,d3,d4,d5,d6,d7,x] h
   ·exact List.mem_append_right [l0,l1,l2,k0,k1] (List.mem_append_left [x] (hmc y (List.mem_append_left [c7] h)))
   ·rw [h];simp
  exact hm y hmem
end
end K12
end

section
set_option Elab.async false
set_option linter.all false
set_option maxRecDepth 100000
set_option maxHeartbeats 1000000
namespace K12
open PySem PySem.Spec L2 PyProof.Rows PySem.W
def fldN (j : Nat) : List Str:=match j with
 | 3=>["card","other"]
 | 4=>["lane","bound"]
 | 5=>["lane","kind","bound"]
 | 7=>["lane"]
 | _=>["card"]
structure XcT (K : PySem.W.Frag) (Cs : List Addr) : Prop where
 len : Cs.length = 10
 kind : ∀ C ∈ Cs,kindIn K C = true
 kit : ∀ (i j : Nat) (C D : Addr),Cs[i]? = some C->Cs[j]? = some D->kitOne K (.ref C) (.ref D) = some (i == j)
 val : ∀ C ∈ Cs,kitOne K (.ref C) (.type "ValueError") = some true
 att : ∀ (i : Nat) (C : Addr) (f : Str),Cs[i]? = some C->f ∈ fldN i->attrIn K C f = true
structure TxT (K : PySem.W.Frag) (mg : Str->Option Value) (Cs : List Addr) : Prop extends Txt K mg where
 c_NoCard : ∀ h : 0 < Cs.length,∃ u,mg "NoCard" = some u/\RelV (.ref Cs[0]) u
 c_Out : ∀ h : 1 < Cs.length,∃ u,mg "Out" = some u/\RelV (.ref Cs[1]) u
 c_Blocked : ∀ h : 2 < Cs.length,∃ u,mg "Blocked" = some u/\RelV (.ref Cs[2]) u
 c_Waits : ∀ h : 3 < Cs.length,∃ u,mg "Waits" = some u/\RelV (.ref Cs[3]) u
 c_Full : ∀ h : 4 < Cs.length,∃ u,mg "Full" = some u/\RelV (.ref Cs[4]) u
 c_KindFull : ∀ h : 5 < Cs.length,∃ u,mg "KindFull" = some u/\RelV (.ref Cs[5]) u
 c_InYard : ∀ h : 6 < Cs.length,∃ u,mg "InYard" = some u/\RelV (.ref Cs[6]) u
 c_NoLane : ∀ h : 7 < Cs.length,∃ u,mg "NoLane" = some u/\RelV (.ref Cs[7]) u
 c_Past : ∀ h : 8 < Cs.length,∃ u,mg "Past" = some u/\RelV (.ref Cs[8]) u
 c_NoWait : ∀ h : 9 < Cs.length,∃ u,mg "NoWait" = some u/\RelV (.ref Cs[9]) u
def ib (j i : Nat) : V:=.bl (j == i)
def ibs (j : Nat) : List V:=[ib j 0,ib j 1,ib j 2,ib j 3,ib j 4,ib j 5,ib j 6,ib j 7,ib j 8,ib j 9]
theorem ibs_flat (j : Nat) : (ibs j).all flatV = true:=rfl
theorem ibs_count : ∀ j,j < 10->(ibs j).countP (fun x=>eqV x (.bl true)) = 1:=by decide +kernel
theorem ibs_first : ∀ j,j < 10->firstV (.bl true) (ibs j) j:=fun j hj=>by
 have h : j = 0\/j = 1\/j = 2\/j = 3\/j = 4\/j = 5\/j = 6\/j = 7\/j = 8\/j = 9:=by omega
 have go : ∀ k,k < 10->(∃ x,(ibs k)[k]? = some x/\eqV x (.bl true) = true)/\∀ m,m < k->∀ x,(ibs k)[m]? = some x->eqV x (.bl true) = false:=fun k hk=>by
  have hx : (ibs k)[k]? = some (.bl true):=by
   have h : k = 0\/k = 1\/k = 2\/k = 3\/k = 4\/k = 5\/k = 6\/k = 7\/k = 8\/k = 9:=by omega
   rcases h with rfl | rfl | rfl | rfl | rfl | rfl | rfl | rfl | rfl | rfl <;> rfl
  refine ⟨⟨_,hx,rfl⟩,fun m hm x hmx=>?_⟩
  have hm0 : (ibs k)[m]? = some (.bl (k == m)):=by
   have h : m = 0\/m = 1\/m = 2\/m = 3\/m = 4\/m = 5\/m = 6\/m = 7\/m = 8\/m = 9:=by omega
   rcases h with rfl | rfl | rfl | rfl | rfl | rfl | rfl | rfl | rfl | rfl <;> rfl
  rw [hm0] at hmx
  obtain rfl:=Option.some.inj hmx
  have hne : (k == m) = false:=by
   rw [beq_eq_false_iff_ne]
   omega
  rw [hne]
  rfl
 obtain ⟨g1,g2⟩:=go j hj
 exact ⟨g1,fun m x hm hx=>g2 m hm x hx⟩
def spTold (Cs : List Addr) : Sp:=fun vs H Q _=>∃ (e : Addr) (j : Nat) (C d : Addr) (ds : List PyData) (us : List V),vs = [.ref e]/\j < 10/\Cs[j]? = some C/\H e = some (excO e C (some d))/\H d = some (.xd ((fldN j).zip us))/\us.length = (fldN j).length/\IsDs [] H ds us/\∀ u H',Ext [] H H'->IsD [] H' (.tuple (.int j :: ds)) u->Q u H'
section
variable {P : Program} {w : World} {K : PySem.W.Frag} {mg : Str->Option Value} {base : Heap} {Cs : List Addr}
abbrev s__law_told : Stmt:=top 45
theorem sc__law_told : FnScope ["_law_error","_law_some","_law_way"] ["_law_error"] (defScope s__law_told):=⟨rfl,rfl,rfl,by decide +kernel,rfl,by decide +kernel,by decide +kernel⟩
theorem ok_told {f : Addr} {fd : FuncData} (F : Fun K "_law_told" "_law_told" s__law_told f fd) (T : TxT K mg Cs) (Xc : XcT K Cs) : FnOkH P w K mg base CX0 2 f fd ["_law_error"] (spTold Cs):=by
 refine F.okH sc__law_told (fun vs H Q E h=>?_) (fun cdv A outer s H vs Q E hr h=>?_)
 ·obtain ⟨e,j,C,d,ds,us,rfl,_⟩:=h
  rfl
 obtain ⟨e,j,C,d,ds,us,rfl,hj,hC,he,hd,hul,hus,q⟩:=h
 have hC10:=Xc.len
 have hmem : C ∈ Cs:=List.mem_of_getElem? hC
 have kC:=Xc.kind C hmem
 have kt : ∀ i (hi : i < 10),kitOne K (.ref C) (.ref (Cs[i]'(by omega))) = some (j == i):=fun i hi=>Xc.kit j i C _ hC (List.getElem?_eq_getElem (by omega))
 refine' ⟨_,?hh,?rr⟩
 case hh=>refine' pss_cons ?g1 ?g2;(case g1=>(refine' ps_set ?g3 ?g4 ?g5 ?g6;(case g3=>(exact sc__law_told.nd));(case g4=>(exact (ixAt 1)));(case g5=>(exact (Or.inl rfl)));(case g6=>(refine' pe_lst ?g7;(case g7=>(refine' pa_c ?g8 ?g9;(case g8=>(refine' pe_callB ?g10 ?g11 ?g12 ?g13 ?g14;(case g10=>(exact call_isix));(case g11=>(exact rfl));(case g12=>(exact T.b_isinstance));(case g13=>(exact boot_isi));(case g14=>(refine' pa_c ?g15 ?g16;(case g15=>(exact (pv 0)));(case g16=>(refine' pa_c ?g17 ?g18;(case g17=>(exact (pe_gl (T.c_NoCard (by omega)))));(case g18=>(exact pa_nil))))))));(case g9=>(refine' pa_c ?g19 ?g20;(case g19=>(refine' pe_callB ?g21 ?g22 ?g23 ?g24 ?g25;(case g21=>(exact call_isix));(case g22=>(exact rfl));(case g23=>(exact T.b_isinstance));(case g24=>(exact boot_isi));(case g25=>(refine' pa_c ?g26 ?g27;(case g26=>(exact (pv 0)));(case g27=>(refine' pa_c ?g28 ?g29;(case g28=>(exact (pe_gl (T.c_Out (by omega)))));(case g29=>(exact pa_nil))))))));(case g20=>(exact pa_nil))))))))));(case g2=>(refine' pss_cons ?g30 ?g31;(case g30=>(refine' ps_set ?g32 ?g33 ?g34 ?g35;(case g32=>(exact sc__law_told.nd));(case g33=>(exact (ixAt 1)));(case g34=>(exact (Or.inl rfl)));(case g35=>(refine' pe_op ?g36 ?g37 ?g38;(case g36=>(exact op_cat));(case g37=>(exact (pv 1)));(case g38=>(refine' pe_lst ?g39;(case g39=>(refine' pa_c ?g40 ?g41;(case g40=>(refine' pe_callB ?g42 ?g43 ?g44 ?g45 ?g46;(case g42=>(exact call_isix));(case g43=>(exact rfl));(case g44=>(exact T.b_isinstance));(case g45=>(exact boot_isi));(case g46=>(refine' pa_c ?g47 ?g48;(case g47=>(exact (pv 0)));(case g48=>(refine' pa_c ?g49 ?g50;(case g49=>(exact (pe_gl (T.c_Blocked (by omega)))));(case g50=>(exact pa_nil))))))));(case g41=>(refine' pa_c ?g51 ?g52;(case g51=>(refine' pe_callB ?g53 ?g54 ?g55 ?g56 ?g57;(case g53=>(exact call_isix));(case g54=>(exact rfl));(case g55=>(exact T.b_isinstance));(case g56=>(exact boot_isi));(case g57=>(refine' pa_c ?g58 ?g59;(case g58=>(exact (pv 0)));(case g59=>(refine' pa_c ?g60 ?g61;(case g60=>(exact (pe_gl (T.c_Waits (by omega)))));(case g61=>(exact pa_nil))))))));(case g52=>(exact pa_nil))))))))))));(case g31=>(refine' pss_cons ?g62 ?g63;(case g62=>(refine' ps_set ?g64 ?g65 ?g66 ?g67;(case g64=>(exact sc__law_told.nd));(case g65=>(exact (ixAt 1)));(case g66=>(exact (Or.inl rfl)));(case g67=>(refine' pe_op ?g68 ?g69 ?g70;(case g68=>(exact op_cat));(case g69=>(exact (pv 1)));(case g70=>(refine' pe_lst ?g71;(case g71=>(refine' pa_c ?g72 ?g73;(case g72=>(refine' pe_callB ?g74 ?g75 ?g76 ?g77 ?g78;(case g74=>(exact call_isix));(case g75=>(exact rfl));(case g76=>(exact T.b_isinstance));(case g77=>(exact boot_isi));(case g78=>(refine' pa_c ?g79 ?g80;(case g79=>(exact (pv 0)));(case g80=>(refine' pa_c ?g81 ?g82;(case g81=>(exact (pe_gl (T.c_Full (by omega)))));(case g82=>(exact pa_nil))))))));(case g73=>(refine' pa_c ?g83 ?g84;(case g83=>(refine' pe_callB ?g85 ?g86 ?g87 ?g88 ?g89;(case g85=>(exact call_isix));(case g86=>(exact rfl));(case g87=>(exact T.b_isinstance));(case g88=>(exact boot_isi));(case g89=>(refine' pa_c ?g90 ?g91;(case g90=>(exact (pv 0)));(case g91=>(refine' pa_c ?g92 ?g93;(case g92=>(exact (pe_gl (T.c_KindFull (by omega)))));(case g93=>(exact pa_nil))))))));(case g84=>(exact pa_nil))))))))))));(case g63=>(refine' pss_cons ?g94 ?g95;(case g94=>(refine' ps_set ?g96 ?g97 ?g98 ?g99;(case g96=>(exact sc__law_told.nd));(case g97=>(exact (ixAt 1)));(case g98=>(exact (Or.inl rfl)));(case g99=>(refine' pe_op ?g100 ?g101 ?g102;(case g100=>(exact op_cat));(case g101=>(exact (pv 1)));(case g102=>(refine' pe_lst ?g103;(case g103=>(refine' pa_c ?g104 ?g105;(case g104=>(refine' pe_callB ?g106 ?g107 ?g108 ?g109 ?g110;(case g106=>(exact call_isix));(case g107=>(exact rfl));(case g108=>(exact T.b_isinstance));(case g109=>(exact boot_isi));(case g110=>(refine' pa_c ?g111 ?g112;(case g111=>(exact (pv 0)));(case g112=>(refine' pa_c ?g113 ?g114;(case g113=>(exact (pe_gl (T.c_InYard (by omega)))));(case g114=>(exact pa_nil))))))));(case g105=>(refine' pa_c ?g115 ?g116;(case g115=>(refine' pe_callB ?g117 ?g118 ?g119 ?g120 ?g121;(case g117=>(exact call_isix));(case g118=>(exact rfl));(case g119=>(exact T.b_isinstance));(case g120=>(exact boot_isi));(case g121=>(refine' pa_c ?g122 ?g123;(case g122=>(exact (pv 0)));(case g123=>(refine' pa_c ?g124 ?g125;(case g124=>(exact (pe_gl (T.c_NoLane (by omega)))));(case g125=>(exact pa_nil))))))));(case g116=>(exact pa_nil))))))))))));(case g95=>(refine' pss_cons ?g126 ?g127;(case g126=>(refine' ps_set ?g128 ?g129 ?g130 ?g131;(case g128=>(exact sc__law_told.nd));(case g129=>(exact (ixAt 1)));(case g130=>(exact (Or.inl rfl)));(case g131=>(refine' pe_op ?g132 ?g133 ?g134;(case g132=>(exact op_cat));(case g133=>(exact (pv 1)));(case g134=>(refine' pe_lst ?g135;(case g135=>(refine' pa_c ?g136 ?g137;(case g136=>(refine' pe_callB ?g138 ?g139 ?g140 ?g141 ?g142;(case g138=>(exact call_isix));(case g139=>(exact rfl));(case g140=>(exact T.b_isinstance));(case g141=>(exact boot_isi));(case g142=>(refine' pa_c ?g143 ?g144;(case g143=>(exact (pv 0)));(case g144=>(refine' pa_c ?g145 ?g146;(case g145=>(exact (pe_gl (T.c_Past (by omega)))));(case g146=>(exact pa_nil))))))));(case g137=>(refine' pa_c ?g147 ?g148;(case g147=>(refine' pe_callB ?g149 ?g150 ?g151 ?g152 ?g153;(case g149=>(exact call_isix));(case g150=>(exact rfl));(case g151=>(exact T.b_isinstance));(case g152=>(exact boot_isi));(case g153=>(refine' pa_c ?g154 ?g155;(case g154=>(exact (pv 0)));(case g155=>(refine' pa_c ?g156 ?g157;(case g156=>(exact (pe_gl (T.c_NoWait (by omega)))));(case g157=>(exact pa_nil))))))));(case g148=>(exact pa_nil))))))))))));(case g127=>(refine' pss_cons ?g158 ?g159;(case g158=>(refine' ps_if ?g160 ?g161 ?g162;(case g160=>(refine' PW.pt ?g163;(case g163=>(refine' pw_or ?g164 ?g165;(case g164=>(refine' pt_cmpR ?g166 ?g167 ?g168 ?g169;(case g166=>(exact op_ne));(case g167=>(refine' pe_bm ?g170 ?g171 ?g172 ?g173 ?g174 ?g175;(case g170=>(exact PySem.F.plainAttrs_list));(case g171=>(exact PySem.F.slot_list_count));(case g172=>(exact PySem.F.type_list_count));(case g173=>(exact mt_countV));(case g174=>(exact (pv 1)));(case g175=>(refine' pa_c ?g176 ?g177;(case g176=>(exact pe_bl));(case g177=>(exact pa_nil))))));(case g168=>(exact pe_int));(case g169=>(exact (nomark _)))));(case g165=>(refine' pw_or1 ?g178;(case g178=>(refine' pt_not ?g179;(case g179=>(refine' pt_val ?g180;(case g180=>(refine' pe_callB ?g181 ?g182 ?g183 ?g184 ?g185;(case g181=>(exact call_isix));(case g182=>(exact rfl));(case g183=>(exact T.b_isinstance));(case g184=>(exact boot_isi));(case g185=>(refine' pa_c ?g186 ?g187;(case g186=>(exact (pv 0)));(case g187=>(refine' pa_c ?g188 ?g189;(case g188=>(exact (pe_bltn (v:=.ty "ValueError") rfl T.b_ValueError boot_tVE rfl)));(case g189=>(exact pa_nil))))))))))))))))));(case g161=>(refine' pss_one ?g190;(case g190=>(refine' ps_ret ?g191;(case g191=>(refine' pe_tup ?g192;(case g192=>(refine' pa_c ?g193 ?g194;(case g193=>(refine' pe_un ?g195 ?g196;(case g195=>(exact un_neg));(case g196=>(exact pe_int))));(case g194=>(exact pa_nil))))))))));(case g162=>(exact pss_nil))));(case g159=>(refine' pss_cons ?g197 ?g198;(case g197=>(refine' ps_set ?g199 ?g200 ?g201 ?g202;(case g199=>(exact sc__law_told.nd));(case g200=>(exact (ixAt 2)));(case g201=>(exact (Or.inl rfl)));(case g202=>(refine' pe_bm ?g203 ?g204 ?g205 ?g206 ?g207 ?g208;(case g203=>(exact PySem.F.plainAttrs_list));(case g204=>(exact PySem.F.slot_list_index));(case g205=>(exact PySem.F.type_list_index));(case g206=>(exact mt_indexV));(case g207=>(exact (pv 1)));(case g208=>(refine' pa_c ?g209 ?g210;(case g209=>(exact pe_bl));(case g210=>(exact pa_nil))))))));(case g198=>(refine' pss_cons ?g211 ?g212;(case g211=>(refine' ps_if ?g213 ?g214 ?g215;(case g213=>(refine' pt_cmpR ?g216 ?g217 ?g218 ?g219;(case g216=>(exact op_eq));(case g217=>(exact (pv 2)));(case g218=>(exact pe_int));(case g219=>(exact (nomark _)))));(case g214=>(refine' pss_one ?g220;(case g220=>(refine' ps_ret ?g221;(case g221=>(refine' pe_tup ?g222;(case g222=>(refine' pa_c ?g223 ?g224;(case g223=>(exact (pv 2)));(case g224=>(refine' pa_c ?g225 ?g226;(case g225=>(refine' pe_xfld ?g227;(case g227=>(exact (pv 0)))));(case g226=>(refine' pa_c ?g228 ?g229;(case g228=>(refine' pe_xfld ?g230;(case g230=>(exact (pv 0)))));(case g229=>(exact pa_nil))))))))))))));(case g215=>(exact pss_nil))));(case g212=>(refine' pss_cons ?g231 ?g232;(case g231=>(refine' ps_if ?g233 ?g234 ?g235;(case g233=>(refine' pt_cmpR ?g236 ?g237 ?g238 ?g239;(case g236=>(exact op_eq));(case g237=>(exact (pv 2)));(case g238=>(exact pe_int));(case g239=>(exact (nomark _)))));(case g234=>(refine' pss_one ?g240;(case g240=>(refine' ps_ret ?g241;(case g241=>(refine' pe_tup ?g242;(case g242=>(refine' pa_c ?g243 ?g244;(case g243=>(exact (pv 2)));(case g244=>(refine' pa_c ?g245 ?g246;(case g245=>(refine' pe_xfld ?g247;(case g247=>(exact (pv 0)))));(case g246=>(refine' pa_c ?g248 ?g249;(case g248=>(refine' pe_xfld ?g250;(case g250=>(exact (pv 0)))));(case g249=>(exact pa_nil))))))))))))));(case g235=>(exact pss_nil))));(case g232=>(refine' pss_cons ?g251 ?g252;(case g251=>(refine' ps_if ?g253 ?g254 ?g255;(case g253=>(refine' pt_cmpR ?g256 ?g257 ?g258 ?g259;(case g256=>(exact op_eq));(case g257=>(exact (pv 2)));(case g258=>(exact pe_int));(case g259=>(exact (nomark _)))));(case g254=>(refine' pss_one ?g260;(case g260=>(refine' ps_ret ?g261;(case g261=>(refine' pe_tup ?g262;(case g262=>(refine' pa_c ?g263 ?g264;(case g263=>(exact (pv 2)));(case g264=>(refine' pa_c ?g265 ?g266;(case g265=>(refine' pe_xfld ?g267;(case g267=>(exact (pv 0)))));(case g266=>(refine' pa_c ?g268 ?g269;(case g268=>(refine' pe_xfld ?g270;(case g270=>(exact (pv 0)))));(case g269=>(refine' pa_c ?g271 ?g272;(case g271=>(refine' pe_xfld ?g273;(case g273=>(exact (pv 0)))));(case g272=>(exact pa_nil))))))))))))))));(case g255=>(exact pss_nil))));(case g252=>(refine' pss_cons ?g274 ?g275;(case g274=>(refine' ps_if ?g276 ?g277 ?g278;(case g276=>(refine' pt_cmpR ?g279 ?g280 ?g281 ?g282;(case g279=>(exact op_eq));(case g280=>(exact (pv 2)));(case g281=>(exact pe_int));(case g282=>(exact (nomark _)))));(case g277=>(refine' pss_one ?g283;(case g283=>(refine' ps_ret ?g284;(case g284=>(refine' pe_tup ?g285;(case g285=>(refine' pa_c ?g286 ?g287;(case g286=>(exact (pv 2)));(case g287=>(refine' pa_c ?g288 ?g289;(case g288=>(refine' pe_xfld ?g290;(case g290=>(exact (pv 0)))));(case g289=>(exact pa_nil))))))))))));(case g278=>(exact pss_nil))));(case g275=>(refine' pss_one ?g291;(case g291=>(refine' ps_ret ?g292;(case g292=>(refine' pe_tup ?g293;(case g293=>(refine' pa_c ?g294 ?g295;(case g294=>(exact (pv 2)));(case g295=>(refine' pa_c ?g296 ?g297;(case g296=>(refine' pe_xfld ?g298;(case g298=>(exact (pv 0)))));(case g297=>(exact pa_nil))))))))))))))))))))))))))))))))
 refine ⟨_,rfl,e,C,d,_,_,_,_,rfl,he,hd,kC,rfl,kt 0 (by decide),_,rfl,e,C,d,_,_,_,_,rfl,he,hd,kC,rfl,kt 1 (by decide),by show 2 <= sizeLine;decide,fun a0 ha0=>?_⟩
 have exB0 : Ext [] H (upd H a0 (.lst [.bl (j == 0),.bl (j == 1)])):=Ext.new ha0 _
 have atB0 : (upd H a0 (.lst [.bl (j == 0),.bl (j == 1)])) a0 = some (.lst [.bl (j == 0),.bl (j == 1)]):=upd_same
 generalize upd H a0 (.lst [.bl (j == 0),.bl (j == 1)]) = B0 at exB0 atB0 ⊢
 replace he:=exB0.old _ _ (by simp) he (by intro ps z;cases z)
 replace hd:=exB0.old _ _ (by simp) hd (by intro ps z;cases z)
 have ex:=exB0
 have atS:=atB0
 have hp0:=ha0
 show tSeq _ _ _ [_,_,_] _
 refine ⟨_,rfl,_,rfl,e,C,d,_,_,_,_,rfl,he,hd,kC,rfl,kt 2 (by decide),_,rfl,e,C,d,_,_,_,_,rfl,he,hd,kC,rfl,kt 3 (by decide),by show 2 <= sizeLine;decide,fun a1 ha1=>?_⟩
 have exB1 : Ext [] B0 (upd B0 a1 (.lst [.bl (j == 2),.bl (j == 3)])):=Ext.new ha1 _
 have atB1 : (upd B0 a1 (.lst [.bl (j == 2),.bl (j == 3)])) a1 = some (.lst [.bl (j == 2),.bl (j == 3)]):=upd_same
 generalize upd B0 a1 (.lst [.bl (j == 2),.bl (j == 3)]) = B1 at exB1 atB1 ⊢
 replace he:=exB1.old _ _ (by simp) he (by intro ps z;cases z)
 replace hd:=exB1.old _ _ (by simp) hd (by intro ps z;cases z)
 replace ex:=ex.trans exB1
 replace atS:=exB1.lst (by simp) atS
 refine ⟨a0,a1,[.bl (j == 0),.bl (j == 1)],[.bl (j == 2),.bl (j == 3)],rfl,rfl,atS,atB1,by show 4 <= sizeLine;decide,fun p1 hp1=>?_⟩
 have exC1 : Ext [] B1 (upd B1 p1 (.lst ([.bl (j == 0),.bl (j == 1)] ++ [.bl (j == 2),.bl (j == 3)]))):=Ext.new hp1 _
 have atC1 : (upd B1 p1 (.lst ([.bl (j == 0),.bl (j == 1)] ++ [.bl (j == 2),.bl (j == 3)]))) p1 = some (.lst ([.bl (j == 0),.bl (j == 1)] ++ [.bl (j == 2),.bl (j == 3)])):=upd_same
 generalize upd B1 p1 (.lst ([.bl (j == 0),.bl (j == 1)] ++ [.bl (j == 2),.bl (j == 3)])) = C1 at exC1 atC1 ⊢
 replace he:=exC1.old _ _ (by simp) he (by intro ps z;cases z)
 replace hd:=exC1.old _ _ (by simp) hd (by intro ps z;cases z)
 replace ex:=ex.trans exC1
 replace atS:=atC1
 show tSeq _ _ _ [_,_,_] _
 refine ⟨_,rfl,_,rfl,e,C,d,_,_,_,_,rfl,he,hd,kC,rfl,kt 4 (by decide),_,rfl,e,C,d,_,_,_,_,rfl,he,hd,kC,rfl,kt 5 (by decide),by show 2 <= sizeLine;decide,fun a2 ha2=>?_⟩
 have exB2 : Ext [] C1 (upd C1 a2 (.lst [.bl (j == 4),.bl (j == 5)])):=Ext.new ha2 _
 have atB2 : (upd C1 a2 (.lst [.bl (j == 4),.bl (j == 5)])) a2 = some (.lst [.bl (j == 4),.bl (j == 5)]):=upd_same
 generalize upd C1 a2 (.lst [.bl (j == 4),.bl (j == 5)]) = B2 at exB2 atB2 ⊢
 replace he:=exB2.old _ _ (by simp) he (by intro ps z;cases z)
 replace hd:=exB2.old _ _ (by simp) hd (by intro ps z;cases z)
 replace ex:=ex.trans exB2
 replace atS:=exB2.lst (by simp) atS
 refine ⟨p1,a2,[.bl (j == 0),.bl (j == 1),.bl (j == 2),.bl (j == 3)],[.bl (j == 4),.bl (j == 5)],rfl,rfl,atS,atB2,by show 6 <= sizeLine;decide,fun p2 hp2=>?_⟩
 have exC2 : Ext [] B2 (upd B2 p2 (.lst ([.bl (j == 0),.bl (j == 1),.bl (j == 2),.bl (j == 3)] ++ [.bl (j == 4),.bl (j == 5)]))):=Ext.new hp2 _
 have atC2 : (upd B2 p2 (.lst ([.bl (j == 0),.bl (j == 1),.bl (j == 2),.bl (j == 3)] ++ [.bl (j == 4),.bl (j == 5)]))) p2 = some (.lst ([.bl (j == 0),.bl (j == 1),.bl (j == 2),.bl (j == 3)] ++ [.bl (j == 4),.bl (j == 5)])):=upd_same
 generalize upd B2 p2 (.lst ([.bl (j == 0),.bl (j == 1),.bl (j == 2),.bl (j == 3)] ++ [.bl (j == 4),.bl (j == 5)])) = C2 at exC2 atC2 ⊢
 replace he:=exC2.old _ _ (by simp) he (by intro ps z;cases z)
 replace hd:=exC2.old _ _ (by simp) hd (by intro ps z;cases z)
 replace ex:=ex.trans exC2
 replace atS:=atC2
 show tSeq _ _ _ [_,_,_] _
 refine ⟨_,rfl,_,rfl,e,C,d,_,_,_,_,rfl,he,hd,kC,rfl,kt 6 (by decide),_,rfl,e,C,d,_,_,_,_,rfl,he,hd,kC,rfl,kt 7 (by decide),by show 2 <= sizeLine;decide,fun a3 ha3=>?_⟩
 have exB3 : Ext [] C2 (upd C2 a3 (.lst [.bl (j == 6),.bl (j == 7)])):=Ext.new ha3 _
 have atB3 : (upd C2 a3 (.lst [.bl (j == 6),.bl (j == 7)])) a3 = some (.lst [.bl (j == 6),.bl (j == 7)]):=upd_same
 generalize upd C2 a3 (.lst [.bl (j == 6),.bl (j == 7)]) = B3 at exB3 atB3 ⊢
 replace he:=exB3.old _ _ (by simp) he (by intro ps z;cases z)
 replace hd:=exB3.old _ _ (by simp) hd (by intro ps z;cases z)
 replace ex:=ex.trans exB3
 replace atS:=exB3.lst (by simp) atS
 refine ⟨p2,a3,[.bl (j == 0),.bl (j == 1),.bl (j == 2),.bl (j == 3),.bl (j == 4),.bl (j == 5)],[.bl (j == 6),.bl (j == 7)],rfl,rfl,atS,atB3,by show 8 <= sizeLine;decide,fun p3 hp3=>?_⟩
 have exC3 : Ext [] B3 (upd B3 p3 (.lst ([.bl (j == 0),.bl (j == 1),.bl (j == 2),.bl (j == 3),.bl (j == 4),.bl (j == 5)] ++ [.bl (j == 6),.bl (j == 7)]))):=Ext.new hp3 _
 have atC3 : (upd B3 p3 (.lst ([.bl (j == 0),.bl (j == 1),.bl (j == 2),.bl (j == 3),.bl (j == 4),.bl (j == 5)] ++ [.bl (j == 6),.bl (j == 7)]))) p3 = some (.lst ([.bl (j == 0),.bl (j == 1),.bl (j == 2),.bl (j == 3),.bl (j == 4),.bl (j == 5)] ++ [.bl (j == 6),.bl (j == 7)])):=upd_same
 generalize upd B3 p3 (.lst ([.bl (j == 0),.bl (j == 1),.bl (j == 2),.bl (j == 3),.bl (j == 4),.bl (j == 5)] ++ [.bl (j == 6),.bl (j == 7)])) = C3 at exC3 atC3 ⊢
 replace he:=exC3.old _ _ (by simp) he (by intro ps z;cases z)
 replace hd:=exC3.old _ _ (by simp) hd (by intro ps z;cases z)
 replace ex:=ex.trans exC3
 replace atS:=atC3
 show tSeq _ _ _ [_,_,_] _
 refine ⟨_,rfl,_,rfl,e,C,d,_,_,_,_,rfl,he,hd,kC,rfl,kt 8 (by decide),_,rfl,e,C,d,_,_,_,_,rfl,he,hd,kC,rfl,kt 9 (by decide),by show 2 <= sizeLine;decide,fun a4 ha4=>?_⟩
 have exB4 : Ext [] C3 (upd C3 a4 (.lst [.bl (j == 8),.bl (j == 9)])):=Ext.new ha4 _
 have atB4 : (upd C3 a4 (.lst [.bl (j == 8),.bl (j == 9)])) a4 = some (.lst [.bl (j == 8),.bl (j == 9)]):=upd_same
 generalize upd C3 a4 (.lst [.bl (j == 8),.bl (j == 9)]) = B4 at exB4 atB4 ⊢
 replace he:=exB4.old _ _ (by simp) he (by intro ps z;cases z)
 replace hd:=exB4.old _ _ (by simp) hd (by intro ps z;cases z)
 replace ex:=ex.trans exB4
 replace atS:=exB4.lst (by simp) atS
 refine ⟨p3,a4,[.bl (j == 0),.bl (j == 1),.bl (j == 2),.bl (j == 3),.bl (j == 4),.bl (j == 5),.bl (j == 6),.bl (j == 7)],[.bl (j == 8),.bl (j == 9)],rfl,rfl,atS,atB4,by show 10 <= sizeLine;decide,fun p4 hp4=>?_⟩
 have exC4 : Ext [] B4 (upd B4 p4 (.lst ([.bl (j == 0),.bl (j == 1),.bl (j == 2),.bl (j == 3),.bl (j == 4),.bl (j == 5),.bl (j == 6),.bl (j == 7)] ++ [.bl (j == 8),.bl (j == 9)]))):=Ext.new hp4 _
 have atC4 : (upd B4 p4 (.lst ([.bl (j == 0),.bl (j == 1),.bl (j == 2),.bl (j == 3),.bl (j == 4),.bl (j == 5),.bl (j == 6),.bl (j == 7)] ++ [.bl (j == 8),.bl (j == 9)]))) p4 = some (.lst ([.bl (j == 0),.bl (j == 1),.bl (j == 2),.bl (j == 3),.bl (j == 4),.bl (j == 5),.bl (j == 6),.bl (j == 7)] ++ [.bl (j == 8),.bl (j == 9)])):=upd_same
 generalize upd B4 p4 (.lst ([.bl (j == 0),.bl (j == 1),.bl (j == 2),.bl (j == 3),.bl (j == 4),.bl (j == 5),.bl (j == 6),.bl (j == 7)] ++ [.bl (j == 8),.bl (j == 9)])) = C4 at exC4 atC4 ⊢
 replace he:=exC4.old _ _ (by simp) he (by intro ps z;cases z)
 replace hd:=exC4.old _ _ (by simp) hd (by intro ps z;cases z)
 replace ex:=ex.trans exC4
 replace atS:=atC4
 show tSeq _ _ _ [_,_,_] _
 replace atS : C4 p4 = some (.lst (ibs j)):=atS
 refine ⟨_,rfl,.inl ⟨rfl,_,SqL.of atS⟩,p4,ibs j,.bl true,rfl,rfl,SqL.of atS,rfl,ibs_flat j,rfl,_,rfl,?_⟩
 rw [ibs_count j hj]
 refine iteF ?_
 refine ⟨_,rfl,e,C,d,_,_,_,_,rfl,he,hd,kC,rfl,Xc.val C hmem,_,rfl,iteF ?_⟩
 show tSeq _ _ _ [_,_,_] _
 refine ⟨_,rfl,.inl ⟨rfl,_,SqL.of atS⟩,p4,ibs j,.bl true,j,rfl,rfl,(SqL.of atS),rfl,ibs_flat j,ibs_first j hj,?_⟩
 have hat:=fun f hf=>Xc.att j C f hC hf
 clear Xc kt hC hmem kC hC10 atS
 generalize C4 = HZ at ex he hd ⊢
 show tSeq _ _ _ [_,_,_] _
 have no : ∀ n : Int,(j : Int) ≠ n->decide (V.int (j : Int) = V.int n) = false:=fun n h=>decide_eq_false fun z=>h (by injection z)
 have fin : ∀ t,HZ t = none->Q (.ref t) (upd HZ t (.tup (.int j :: us))):=fun t ht=>q _ _ (ex.trans (Ext.new ht _)) ⟨t,_,rfl,by simp,upd_same,_,_,rfl,rfl,IsDs.ext (ex.trans (Ext.new ht _)) hus⟩
 have hjj : j = 3\/j = 4\/j = 5\/j = 7\/(j ≠ 3/\j ≠ 4/\j ≠ 5/\j ≠ 7):=by omega
 rcases hjj with rfl | rfl | rfl | rfl | ⟨n3,n4,n5,n7⟩
 ·match us,hul,hus,fin,hd with
  | [u0,u1],_,hus,fin,hd =>
  refine ⟨_,rfl,rfl,_,rfl,ite2 (fun _=>?_) (fun cc=>absurd (decide_eq_true rfl) cc)⟩
  exact ⟨_,rfl,_,rfl,e,C,d,_,u0,rfl,he,hd,hat "card" (by decide),rfl,_,rfl,e,C,d,_,u1,rfl,he,hd,hat "other" (by decide),rfl,by show 3 <= sizeLine;decide,fun t ht=>fin t ht⟩
 ·match us,hul,hus,fin,hd with
  | [u0,u1],_,hus,fin,hd =>
  refine ⟨_,rfl,rfl,_,rfl,ite2 (fun cc=>absurd ((no 3 (by decide)).symm.trans cc) Bool.false_ne_true) (fun _=>?_)⟩
  show tSeq _ _ _ [_,_,_] _
  refine ⟨_,rfl,rfl,_,rfl,ite2 (fun _=>?_) (fun cc=>absurd (decide_eq_true rfl) cc)⟩
  exact ⟨_,rfl,_,rfl,e,C,d,_,u0,rfl,he,hd,hat "lane" (by decide),rfl,_,rfl,e,C,d,_,u1,rfl,he,hd,hat "bound" (by decide),rfl,by show 3 <= sizeLine;decide,fun t ht=>fin t ht⟩
 ·match us,hul,hus,fin,hd with
  | [u0,u1,u2],_,hus,fin,hd =>
  refine ⟨_,rfl,rfl,_,rfl,ite2 (fun cc=>absurd ((no 3 (by decide)).symm.trans cc) Bool.false_ne_true) (fun _=>?_)⟩
  show tSeq _ _ _ [_,_,_] _
  refine ⟨_,rfl,rfl,_,rfl,ite2 (fun cc=>absurd ((no 4 (by decide)).symm.trans cc) Bool.false_ne_true) (fun _=>?_)⟩
  show tSeq _ _ _ [_,_,_] _
  refine ⟨_,rfl,rfl,_,rfl,ite2 (fun _=>?_) (fun cc=>absurd (decide_eq_true rfl) cc)⟩
  exact ⟨_,rfl,_,rfl,e,C,d,_,u0,rfl,he,hd,hat "lane" (by decide),rfl,_,rfl,e,C,d,_,u1,rfl,he,hd,hat "kind" (by decide),rfl,_,rfl,e,C,d,_,u2,rfl,he,hd,hat "bound" (by decide),rfl,by show 4 <= sizeLine;decide,fun t ht=>fin t ht⟩
 ·match us,hul,hus,fin,hd with
  | [u0],_,hus,fin,hd =>
  refine ⟨_,rfl,rfl,_,rfl,ite2 (fun cc=>absurd ((no 3 (by decide)).symm.trans cc) Bool.false_ne_true) (fun _=>?_)⟩
  show tSeq _ _ _ [_,_,_] _
  refine ⟨_,rfl,rfl,_,rfl,ite2 (fun cc=>absurd ((no 4 (by decide)).symm.trans cc) Bool.false_ne_true) (fun _=>?_)⟩
  show tSeq _ _ _ [_,_,_] _
  refine ⟨_,rfl,rfl,_,rfl,ite2 (fun cc=>absurd ((no 5 (by decide)).symm.trans cc) Bool.false_ne_true) (fun _=>?_)⟩
  show tSeq _ _ _ [_,_,_] _
  refine ⟨_,rfl,rfl,_,rfl,ite2 (fun _=>?_) (fun cc=>absurd (decide_eq_true rfl) cc)⟩
  exact ⟨_,rfl,_,rfl,e,C,d,_,u0,rfl,he,hd,hat "lane" (by decide),rfl,by show 2 <= sizeLine;decide,fun t ht=>fin t ht⟩
 ·have hfl : fldN j = ([("card" : Str)] : List Str):=by
   unfold fldN
   split <;> first | rfl | (exfalso;omega)
  rw [hfl] at hd hul hat
  match us,hul,hus,fin,hd with
  | [u0],_,hus,fin,hd =>
  refine ⟨_,rfl,rfl,_,rfl,ite2 (fun cc=>absurd ((no 3 (by omega)).symm.trans cc) Bool.false_ne_true) (fun _=>?_)⟩
  show tSeq _ _ _ [_,_,_] _
  refine ⟨_,rfl,rfl,_,rfl,ite2 (fun cc=>absurd ((no 4 (by omega)).symm.trans cc) Bool.false_ne_true) (fun _=>?_)⟩
  show tSeq _ _ _ [_,_,_] _
  refine ⟨_,rfl,rfl,_,rfl,ite2 (fun cc=>absurd ((no 5 (by omega)).symm.trans cc) Bool.false_ne_true) (fun _=>?_)⟩
  show tSeq _ _ _ [_,_,_] _
  refine ⟨_,rfl,rfl,_,rfl,ite2 (fun cc=>absurd ((no 7 (by omega)).symm.trans cc) Bool.false_ne_true) (fun _=>?_)⟩
  exact ⟨_,rfl,_,rfl,e,C,d,_,u0,rfl,he,hd,hat "card" (by decide),rfl,by show 2 <= sizeLine;decide,fun t ht=>fin t ht⟩
end
end K12
end

section
set_option Elab.async false
set_option linter.all false
set_option maxRecDepth 100000
set_option maxHeartbeats 1000000
namespace K12
open PySem PySem.Spec L2 PyProof.Rows PySem.W
section
variable {l0 l1 l2 k0 k1 c0 c1 c2 c3 c4 c5 c6 x : Str}
structure Un (k0 k1 c0 c1 c2 c3 c4 c5 c6 x : Str) : Prop where
 k : (k0 == k1) = false
 k' : (k1 == k0) = false
 n : ∀ i j,i < 8->j < 8->([c0,c1,c2,c3,c4,c5,c6,x].getD i x == [c0,c1,c2,c3,c4,c5,c6,x].getD j x) = (i == j)
theorem un_of (h1 : k0 ≠ k1) (h : [c0,c1,c2,c3,c4,c5,c6,x].Nodup) : Un k0 k1 c0 c1 c2 c3 c4 c5 c6 x:=by
 refine ⟨by simpa using h1,by simpa using Ne.symm h1,fun i j hi hj=>?_⟩
 have hl : [c0,c1,c2,c3,c4,c5,c6,x].length = 8:=rfl
 have gi : [c0,c1,c2,c3,c4,c5,c6,x].getD i x = [c0,c1,c2,c3,c4,c5,c6,x][i]'(by omega):=by rw [List.getD_eq_getElem?_getD,List.getElem?_eq_getElem (by omega)];rfl
 have gj : [c0,c1,c2,c3,c4,c5,c6,x].getD j x = [c0,c1,c2,c3,c4,c5,c6,x][j]'(by omega):=by rw [List.getD_eq_getElem?_getD,List.getElem?_eq_getElem (by omega)];rfl
 rw [gi,gj]
 by_cases e : i = j
 ·subst e;simp
 ·have : ¬ [c0,c1,c2,c3,c4,c5,c6,x][i]'(by omega) = [c0,c1,c2,c3,c4,c5,c6,x][j]'(by omega):=fun z=>e ((List.getElem_inj h).mp z)
  rw [beq_eq_false_iff_ne.mpr this,beq_eq_false_iff_ne.mpr e]
variable (U : Un k0 k1 c0 c1 c2 c3 c4 c5 c6 x)
include U
theorem kd0 : (bdP l0 l1 l2 k0 k1).kd? k0 = some ⟨k0,[0,1],[1,1]⟩:=by
 simp [Pl.kd?,bdP]
theorem kd1 : (bdP l0 l1 l2 k0 k1).kd? k1 = some ⟨k1,[2],[1]⟩:=by
 simp [Pl.kd?,bdP,U.k]
theorem cdx : (bdS k0 k1 c0 c1 c2 c3 c4 c5 c6).cd? x = none:=by
 have:=U.n 0 7;have:=U.n 1 7;have:=U.n 2 7;have:=U.n 3 7;have:=U.n 4 7;have:=U.n 5 7;have:=U.n 6 7
 simp_all [Sd.cd?,bdS,bdC]
theorem cd0 : (bdS k0 k1 c0 c1 c2 c3 c4 c5 c6).cd? c0 = some ⟨c0,k0,3,false⟩:=by
 simp_all [Sd.cd?,bdS,bdC]
theorem cd1 : (bdS k0 k1 c0 c1 c2 c3 c4 c5 c6).cd? c1 = some ⟨c1,k0,1,false⟩:=by
 have h0:=U.n 0 1 (by decide) (by decide)
 simp_all [Sd.cd?,bdS,bdC]
theorem cd2 : (bdS k0 k1 c0 c1 c2 c3 c4 c5 c6).cd? c2 = some ⟨c2,k0,0,true⟩:=by
 have h0:=U.n 0 2 (by decide) (by decide);have h1:=U.n 1 2 (by decide) (by decide)
 simp_all [Sd.cd?,bdS,bdC]
theorem cd3 : (bdS k0 k1 c0 c1 c2 c3 c4 c5 c6).cd? c3 = some ⟨c3,k0,2,false⟩:=by
 have h0:=U.n 0 3 (by decide) (by decide);have h1:=U.n 1 3 (by decide) (by decide);have h2:=U.n 2 3 (by decide) (by decide)
 simp_all [Sd.cd?,bdS,bdC]
theorem cd4 : (bdS k0 k1 c0 c1 c2 c3 c4 c5 c6).cd? c4 = some ⟨c4,k1,0,false⟩:=by
 have h0:=U.n 0 4 (by decide) (by decide);have h1:=U.n 1 4 (by decide) (by decide);have h2:=U.n 2 4 (by decide) (by decide);have h3:=U.n 3 4 (by decide) (by decide)
 simp_all [Sd.cd?,bdS,bdC]
theorem cd5 : (bdS k0 k1 c0 c1 c2 c3 c4 c5 c6).cd? c5 = some ⟨c5,k1,1,false⟩:=by
 have h0:=U.n 0 5 (by decide) (by decide);have h1:=U.n 1 5 (by decide) (by decide);have h2:=U.n 2 5 (by decide) (by decide);have h3:=U.n 3 5 (by decide) (by decide);have h4:=U.n 4 5 (by decide) (by decide)
 simp_all [Sd.cd?,bdS,bdC]
theorem cd6 : (bdS k0 k1 c0 c1 c2 c3 c4 c5 c6).cd? c6 = some ⟨c6,k0,0,false⟩:=by
 have h0:=U.n 0 6 (by decide) (by decide);have h1:=U.n 1 6 (by decide) (by decide);have h2:=U.n 2 6 (by decide) (by decide);have h3:=U.n 3 6 (by decide) (by decide);have h4:=U.n 4 6 (by decide) (by decide);have h5:=U.n 5 6 (by decide) (by decide)
 simp_all [Sd.cd?,bdS,bdC]
theorem at_k0_0 : (bdP l0 l1 l2 k0 k1).at k0 0 = -1:=by
 exact at_zero _ _
theorem at_k0_1 : (bdP l0 l1 l2 k0 k1).at k0 1 = 0:=by
 unfold Pl.at;rw [kd0 U];rfl
theorem at_k0_2 : (bdP l0 l1 l2 k0 k1).at k0 2 = 1:=by
 unfold Pl.at;rw [kd0 U];rfl
theorem at_k0_3 : (bdP l0 l1 l2 k0 k1).at k0 3 = 3:=by
 unfold Pl.at;rw [kd0 U];rfl
theorem at_k1_0 : (bdP l0 l1 l2 k0 k1).at k1 0 = -1:=by
 exact at_zero _ _
theorem at_k1_1 : (bdP l0 l1 l2 k0 k1).at k1 1 = 2:=by
 unfold Pl.at;rw [kd1 U];rfl
theorem nP : (bdP l0 l1 l2 k0 k1).n = 3:=rfl
theorem due0 : pullD (bdP l0 l1 l2 k0 k1) (bdS k0 k1 c0 c1 c2 c3 c4 c5 c6) x = .error .noCard:=by
 simp [pullD,movD,cdx U]
theorem due1 : pullD (bdP l0 l1 l2 k0 k1) (bdS k0 k1 c0 c1 c2 c3 c4 c5 c6) c0 = .error .out:=by
 simp [pullD,movD,cd0 U,Pl.lane,at_k0_3 U,nP U]
theorem due2 : backD (bdP l0 l1 l2 k0 k1) (bdS k0 k1 c0 c1 c2 c3 c4 c5 c6) c2 = .error .blocked:=by
 simp [backD,movD,cd2 U,Pl.lane,at_k0_0 U,nP U]
theorem due3 : pullD (bdP l0 l1 l2 k0 k1) (bdS k0 k1 c0 c1 c2 c3 c4 c5 c6) c4 = .error (.waits c5):=by
 simp [pullD,movD,cd4 U,Pl.lane,at_k1_0 U,at_k1_1 U,nP U,bars,Sd.out,cd5 U,show (bdS k0 k1 c0 c1 c2 c3 c4 c5 c6).ws = [⟨c4,2,c5⟩] from rfl]
theorem in0 : (bdS k0 k1 c0 c1 c2 c3 c4 c5 c6).inL (bdP l0 l1 l2 k0 k1) 0 = [c1]:=by
 simp [Sd.inL,bdS,bdC,Pl.lane,at_k0_0 U,at_k0_1 U,at_k0_2 U,at_k0_3 U,at_k1_0 U,at_k1_1 U]
theorem in1 : (bdS k0 k1 c0 c1 c2 c3 c4 c5 c6).inL (bdP l0 l1 l2 k0 k1) 1 = [c3]:=by
 simp [Sd.inL,bdS,bdC,Pl.lane,at_k0_0 U,at_k0_1 U,at_k0_2 U,at_k0_3 U,at_k1_0 U,at_k1_1 U]
theorem many1 : (bdS k0 k1 c0 c1 c2 c3 c4 c5 c6).many (bdP l0 l1 l2 k0 k1) 1 k0 = 1:=by
 simp [Sd.many,bdS,bdC,at_k0_0 U,at_k0_1 U,at_k0_2 U,at_k0_3 U,at_k1_0 U,at_k1_1 U,U.k']
theorem due4 : pullD (bdP l0 l1 l2 k0 k1) (bdS k0 k1 c0 c1 c2 c3 c4 c5 c6) c6 = .error (.full l0 1):=by
 have h:=U.n 4 6 (by decide) (by decide)
 have h' : (c4 == c6) = false:=h
 simp [pullD,movD,cd6 U,Pl.lane,at_k0_0 U,at_k0_1 U,nP U,bars,h',show (bdS k0 k1 c0 c1 c2 c3 c4 c5 c6).ws = [⟨c4,2,c5⟩] from rfl,fullD,in0 U,show (bdS k0 k1 c0 c1 c2 c3 c4 c5 c6).bs = [1,2,1] from rfl,show (bdP l0 l1 l2 k0 k1).ls = [(l0,1),(l1,2),(l2,1)] from rfl]
theorem due5 : pullD (bdP l0 l1 l2 k0 k1) (bdS k0 k1 c0 c1 c2 c3 c4 c5 c6) c1 = .error (.kindFull l1 k0 1):=by
 have h:=U.n 4 1 (by decide) (by decide)
 have h' : (c4 == c1) = false:=h
 have hkb : (bdP l0 l1 l2 k0 k1).kb k0 1 = 1:=by simp [Pl.kb,kd0 U];decide
 simp [pullD,movD,cd1 U,Pl.lane,at_k0_1 U,at_k0_2 U,nP U,bars,h',show (bdS k0 k1 c0 c1 c2 c3 c4 c5 c6).ws = [⟨c4,2,c5⟩] from rfl,fullD,in1 U,many1 U,hkb,show (bdS k0 k1 c0 c1 c2 c3 c4 c5 c6).bs = [1,2,1] from rfl,show (bdP l0 l1 l2 k0 k1).ls = [(l0,1),(l1,2),(l2,1)] from rfl]
theorem due6 : backD (bdP l0 l1 l2 k0 k1) (bdS k0 k1 c0 c1 c2 c3 c4 c5 c6) c6 = .error .inYard:=by
 simp [backD,movD,cd6 U,Pl.lane,at_k0_0 U,nP U]
theorem due9 : Sd.less (bdS k0 k1 c0 c1 c2 c3 c4 c5 c6) c4 c6 = [⟨c4,2,c5⟩]:=by
 have h:=U.n 5 6 (by decide) (by decide)
 have h' : (c5 == c6) = false:=h
 have h2 : (c5 != c6) = true:=by simpa [bne] using h'
 simp [Sd.less,bdS,h2]
theorem bPok (hl : ∀ y ∈ [l0,l1,l2,k0,k1],y.length <= 1000) : POk (bdP l0 l1 l2 k0 k1):=by
 refine ⟨by show 3 <= 900;decide,by show 2 <= 900;decide,fun l h=>?_,fun k h=>?_⟩
 ·simp only [bdP,List.mem_cons,List.not_mem_nil,or_false] at h
  rcases h with rfl | rfl | rfl
  ·exact hl l0 (by simp)
  ·exact hl l1 (by simp)
  ·exact hl l2 (by simp)
 ·simp only [bdP,List.mem_cons,List.not_mem_nil,or_false] at h
  rcases h with rfl | rfl
  ·exact ⟨by show 2 <= 900;decide,rfl,hl k0 (by simp),fun i hi=>by
    simp only [List.mem_cons,List.not_mem_nil,or_false] at hi
    rw [nP U]
    omega⟩
  ·exact ⟨by show 1 <= 900;decide,rfl,hl k1 (by simp),fun i hi=>by
    simp only [List.mem_cons,List.not_mem_nil,or_false] at hi
    rw [nP U]
    omega⟩
theorem bSok (hl : ∀ y ∈ [c0,c1,c2,c3,c4,c5,c6],y.length <= 1000) : SOk (bdP l0 l1 l2 k0 k1) (bdS k0 k1 c0 c1 c2 c3 c4 c5 c6):=by
 refine ⟨rfl,by show 7 <= 900;decide,fun c h=>?_,by show 1 <= 900;decide,fun w h=>?_⟩
 ·simp only [bdS,bdC,List.mem_cons,List.not_mem_nil,or_false] at h
  rcases h with rfl | rfl | rfl | rfl | rfl | rfl | rfl
  ·exact ⟨hl _ (by simp),_,kd0 U,by show (0 : Int) <= 3;decide,by show (3 : Int) <= 2 + 1;decide⟩
  ·exact ⟨hl _ (by simp),_,kd0 U,by show (0 : Int) <= 1;decide,by show (1 : Int) <= 2 + 1;decide⟩
  ·exact ⟨hl _ (by simp),_,kd0 U,by show (0 : Int) <= 0;decide,by show (0 : Int) <= 2 + 1;decide⟩
  ·exact ⟨hl _ (by simp),_,kd0 U,by show (0 : Int) <= 2;decide,by show (2 : Int) <= 2 + 1;decide⟩
  ·exact ⟨hl _ (by simp),_,kd1 U,by show (0 : Int) <= 0;decide,by show (0 : Int) <= 1 + 1;decide⟩
  ·exact ⟨hl _ (by simp),_,kd1 U,by show (0 : Int) <= 1;decide,by show (1 : Int) <= 1 + 1;decide⟩
  ·exact ⟨hl _ (by simp),_,kd0 U,by show (0 : Int) <= 0;decide,by show (0 : Int) <= 2 + 1;decide⟩
 ·simp only [bdS,List.mem_cons,List.not_mem_nil,or_false] at h
  subst h
  exact ⟨by rw [cd4 U];rfl,by rw [cd5 U];rfl,hl _ (by simp),hl _ (by simp)⟩
omit U in
theorem bBok : BOk (bdP l0 l1 l2 k0 k1) (bdS k0 k1 c0 c1 c2 c3 c4 c5 c6):=by
 refine ⟨fun b h=>?_,fun k h b hb=>?_⟩
 ·simp only [bdS,List.mem_cons,List.not_mem_nil,or_false] at h
  rcases h with rfl | rfl | rfl <;> exact says_int (by decide) (by decide)
 ·simp only [bdP,List.mem_cons,List.not_mem_nil,or_false] at h
  rcases h with rfl | rfl <;> (simp only [List.mem_cons,List.not_mem_nil,or_false] at hb;first | (rcases hb with rfl | rfl <;> exact says_int (by decide) (by decide)) | (subst hb;exact says_int (by decide) (by decide)))
end
end K12
end

section
set_option Elab.async false
set_option linter.all false
set_option maxRecDepth 100000
set_option maxHeartbeats 1000000
namespace K12
open PySem PySem.Spec L2 PyProof.Rows PySem.W
def oddL (x : Str) : Int:=if x.length % 2 = 0 then -1 else 4
def usOf (l0 l1 k0 c0 c2 c3 c4 c5 c6 x : Str) (j : Nat) : List V:=match j with
 | 0=>[.str x]
 | 1=>[.str c0]
 | 2=>[.str c2]
 | 3=>[.str c4,.str c5]
 | 4=>[.str l0,.int 1]
 | 5=>[.str l1,.str k0,.int 1]
 | 6=>[.str c6]
 | 7=>[.int (oddL x)]
 | 8=>[.str c3]
 | _=>[.str c4]
def CsOf (k : XCs) (CL CP CW : Addr) : List Addr:=[k.NC,k.Ou,k.Bl,k.Wa,k.Fu,k.KF,k.IY,CL,CP,CW]
def spDone (k : XCs) (CL CP CW : Addr) (ts : List Addr) : Sp:=fun vs H _ E=>∃ (l0 l1 l2 k0 k1 c0 c1 c2 c3 c4 c5 c6 x : Str) (plv stv cav : V) (j : Nat) (C : Addr),vs = [plv,stv,cav,.str x,.int j]/\Un k0 k1 c0 c1 c2 c3 c4 c5 c6 x/\(∀ y ∈ [l0,l1,l2,k0,k1,c0,c1,c2,c3,c4,c5,c6,x],y.length <= 8) /\
 IsD [] H (bdP l0 l1 l2 k0 k1).d plv/\IsD [] H (bdS k0 k1 c0 c1 c2 c3 c4 c5 c6).d stv/\IsD [] H (.list ([c0,c1,c2,c3,c4,c5,c6].map .str)) cav/\Tb ts H/\j < 10/\(CsOf k CL CP CW)[j]? = some C/\XFs C ((fldN j).zip (usOf l0 l1 k0 c0 c2 c3 c4 c5 c6 x j)) H E
section
variable {P : Program} {w : World} {K : PySem.W.Frag} {mg : Str->Option Value} {base : Heap} {k : XCs} {CL CP CW : Addr} {ts : List Addr}
abbrev s__law_done : Stmt:=top 44
theorem sc__law_done : FnScope ["_law_plan","_law_stand","_law_cards","_law_strange","_law_way"] ["_law_plan","_law_stand","_law_cards","_law_strange","_law_way"] (defScope s__law_done):=⟨rfl,rfl,rfl,by decide +kernel,rfl,by decide +kernel,by decide +kernel⟩
theorem ok_done {f : Addr} {fd : FuncData} (F : Fun K "_law_done" "_law_done" s__law_done f fd) (T : Txt K mg) (C_pulled : CallOkX P w K mg base "pulled" 10 ["plan","stand","card"] (spPull k ts pullD)) (C_put_back : CallOkX P w K mg base "put_back" 10 ["plan","stand","card"] (spPull k ts backD)) (C_with_wait : CallOkX P w K mg base "with_wait" 10 ["plan","stand","card","lane","other"] (spWaitR CL CP)) (C_without_waits : CallOkX P w K mg base "without_waits" 5 ["stand","card","other"] (spLess k.NC CW ts)) (hte : ∀ t ∈ ts,t ∉ ([] : List Addr)) :
  FnOk P w K mg base (CXF P w) 11 f fd ["_law_plan","_law_stand","_law_cards","_law_strange","_law_way"] (spDone k CL CP CW ts):=by
 refine F.okX sc__law_done (fun vs H Q E h=>?_) (fun cdv A outer s H vs Q E hr h=>?_)
 ·obtain ⟨l0,l1,l2,k0,k1,c0,c1,c2,c3,c4,c5,c6,x,plv,stv,cav,j,C,rfl,_⟩:=h
  rfl
 obtain ⟨l0,l1,l2,k0,k1,c0,c1,c2,c3,c4,c5,c6,x,plv,stv,cav,j,C,rfl,U,hlen,hp,hs,hc,tb,hj,hC,q⟩:=h
 refine' ⟨_,?hh,?rr⟩
 case hh=>refine' pss_cons ?hsc ?htc;(case hsc=>refine' ps_if ?hh ?hi pss_nil;(case hh=>refine' pt_cmpR op_eq (pv 4) pe_int (nomark _));(case hi=>refine' pss_one ?hg;(case hg=>refine' ps_expr ?hf;(case hf=>refine' pe_clX xe_cx C_pulled hr ?hd rfl ?he;(case hd=>refine' pa_c (pv 0) ?hc;(case hc=>refine' pa_c (pv 1) ?hb;(case hb=>refine' pa_c (pv 3) pa_nil)));(case he=>decide)))));(case htc=>refine' pss_cons ?hqc ?hrc;(case hqc=>refine' ps_if ?hq ?hr pss_nil;(case hq=>refine' pt_cmpR op_eq (pv 4) pe_int (nomark _));(case hr=>refine' pss_one ?hp;(case hp=>refine' ps_expr ?ho;(case ho=>refine' pe_clX xe_cx C_pulled hr ?hm rfl ?hn;(case hm=>refine' pa_c (pv 0) ?hl;(case hl=>refine' pa_c (pv 1) ?hk;(case hk=>refine' pa_c ?hj pa_nil;(case hj=>refine' pe_ix ix_list (pv 2) pe_int (fun _ _=>rfl)))));(case hn=>decide)))));(case hrc=>refine' pss_cons ?hoc ?hpc;(case hoc=>refine' ps_if ?hz ?hA pss_nil;(case hz=>refine' pt_cmpR op_eq (pv 4) pe_int (nomark _));(case hA=>refine' pss_one ?hy;(case hy=>refine' ps_expr ?hx;(case hx=>refine' pe_clX xe_cx C_put_back hr ?hv rfl ?hw;(case hv=>refine' pa_c (pv 0) ?hu;(case hu=>refine' pa_c (pv 1) ?ht;(case ht=>refine' pa_c ?hs pa_nil;(case hs=>refine' pe_ix ix_list (pv 2) pe_int (fun _ _=>rfl)))));(case hw=>decide)))));(case hpc=>refine' pss_cons ?hmc ?hnc;(case hmc=>refine' ps_if ?hI ?hJ pss_nil;(case hI=>refine' pt_cmpR op_eq (pv 4) pe_int (nomark _));(case hJ=>refine' pss_one ?hH;(case hH=>refine' ps_expr ?hG;(case hG=>refine' pe_clX xe_cx C_pulled hr ?hE rfl ?hF;(case hE=>refine' pa_c (pv 0) ?hD;(case hD=>refine' pa_c (pv 1) ?hC;(case hC=>refine' pa_c ?hB pa_nil;(case hB=>refine' pe_ix ix_list (pv 2) pe_int (fun _ _=>rfl)))));(case hF=>decide)))));(case hnc=>refine' pss_cons ?hkc ?hlc;(case hkc=>refine' ps_if ?hR ?hS pss_nil;(case hR=>refine' pt_cmpR op_eq (pv 4) pe_int (nomark _));(case hS=>refine' pss_one ?hQ;(case hQ=>refine' ps_expr ?hP;(case hP=>refine' pe_clX xe_cx C_pulled hr ?hN rfl ?hO;(case hN=>refine' pa_c (pv 0) ?hM;(case hM=>refine' pa_c (pv 1) ?hL;(case hL=>refine' pa_c ?hK pa_nil;(case hK=>refine' pe_ix ix_list (pv 2) pe_int (fun _ _=>rfl)))));(case hO=>decide)))));(case hlc=>refine' pss_cons ?hic ?hjc;(case hic=>refine' ps_if ?hab ?hbb pss_nil;(case hab=>refine' pt_cmpR op_eq (pv 4) pe_int (nomark _));(case hbb=>refine' pss_one ?hZ;(case hZ=>refine' ps_expr ?hY;(case hY=>refine' pe_clX xe_cx C_pulled hr ?hW rfl ?hX;(case hW=>refine' pa_c (pv 0) ?hV;(case hV=>refine' pa_c (pv 1) ?hU;(case hU=>refine' pa_c ?hT pa_nil;(case hT=>refine' pe_ix ix_list (pv 2) pe_int (fun _ _=>rfl)))));(case hX=>decide)))));(case hjc=>refine' pss_cons ?hgc ?hhc;(case hgc=>refine' ps_if ?hjb ?hkb pss_nil;(case hjb=>refine' pt_cmpR op_eq (pv 4) pe_int (nomark _));(case hkb=>refine' pss_one ?hib;(case hib=>refine' ps_expr ?hhb;(case hhb=>refine' pe_clX xe_cx C_put_back hr ?hfb rfl ?hgb;(case hfb=>refine' pa_c (pv 0) ?heb;(case heb=>refine' pa_c (pv 1) ?hdb;(case hdb=>refine' pa_c ?hcb pa_nil;(case hcb=>refine' pe_ix ix_list (pv 2) pe_int (fun _ _=>rfl)))));(case hgb=>decide)))));(case hhc=>refine' pss_cons ?hec ?hfc;(case hec=>refine' ps_if ?hDb ?hEb pss_nil;(case hDb=>refine' pt_cmpR op_eq (pv 4) pe_int (nomark _));(case hEb=>refine' pss_one ?hCb;(case hCb=>refine' ps_expr ?hBb;(case hBb=>refine' pe_clX xe_cx C_with_wait hr ?hzb rfl ?hAb;(case hzb=>refine' pa_c (pv 0) ?hyb;(case hyb=>refine' pa_c (pv 1) ?hxb;(case hxb=>refine' pa_c ?hvb ?hwb;(case hvb=>refine' pe_ix ix_list (pv 2) pe_int (fun _ _=>rfl));(case hwb=>refine' pa_c ?htb ?hub;(case htb=>refine' pe_ix ix_list ?hqb ?hrb (fun _ _=>rfl);(case hqb=>refine' pe_lst ?hnb;(case hnb=>refine' pa_c ?hlb ?hmb;(case hlb=>refine' pe_un un_neg pe_int);(case hmb=>refine' pa_c pe_int pa_nil)));(case hrb=>refine' pe_op op_mod ?hpb pe_int;(case hpb=>refine' pe_callB call_len_str rfl T.b_len PySem.boot_len ?hob;(case hob=>refine' pa_c (pv 3) pa_nil))));(case hub=>refine' pa_c ?hsb pa_nil;(case hsb=>refine' pe_ix ix_list (pv 2) pe_int (fun _ _=>rfl)))))));(case hAb=>decide)))));(case hfc=>refine' pss_cons ?hcc ?hdc;(case hcc=>refine' ps_if ?hPb ?hQb pss_nil;(case hPb=>refine' pt_cmpR op_eq (pv 4) pe_int (nomark _));(case hQb=>refine' pss_one ?hOb;(case hOb=>refine' ps_expr ?hNb;(case hNb=>refine' pe_clX xe_cx C_with_wait hr ?hLb rfl ?hMb;(case hLb=>refine' pa_c (pv 0) ?hKb;(case hKb=>refine' pa_c (pv 1) ?hJb;(case hJb=>refine' pa_c ?hHb ?hIb;(case hHb=>refine' pe_ix ix_list (pv 2) pe_int (fun _ _=>rfl));(case hIb=>refine' pa_c pe_int ?hGb;(case hGb=>refine' pa_c ?hFb pa_nil;(case hFb=>refine' pe_ix ix_list (pv 2) pe_int (fun _ _=>rfl)))))));(case hMb=>decide)))));(case hdc=>refine' pss_one ?hbc;(case hbc=>refine' ps_if ?hZb ?hac pss_nil;(case hZb=>refine' pt_cmpR op_eq (pv 4) pe_int (nomark _));(case hac=>refine' pss_one ?hYb;(case hYb=>refine' ps_expr ?hXb;(case hXb=>refine' pe_clX xe_cx C_without_waits hr ?hVb rfl ?hWb;(case hVb=>refine' pa_c (pv 1) ?hUb;(case hUb=>refine' pa_c ?hSb ?hTb;(case hSb=>refine' pe_ix ix_list (pv 2) pe_int (fun _ _=>rfl));(case hTb=>refine' pa_c ?hRb pa_nil;(case hRb=>refine' pe_ix ix_list (pv 2) pe_int (fun _ _=>rfl)))));(case hWb=>decide))))))))))))))
 have hl8 : ∀ y ∈ [l0,l1,l2,k0,k1,c0,c1,c2,c3,c4,c5,c6,x],y.length <= 1000:=fun y hy=>Nat.le_trans (hlen y hy) (by decide)
 have Po:=bPok U (l0:=l0) (l1:=l1) (l2:=l2) fun y hy=>hl8 y (List.mem_append_left [c0,c1,c2,c3,c4,c5,c6,x] hy)
 have So:=bSok U (l0:=l0) (l1:=l1) (l2:=l2) fun y hy=>hl8 y (List.mem_append_right [l0,l1,l2,k0,k1] (List.mem_append_left [x] hy))
 have Bo:=bBok (l0:=l0) (l1:=l1) (l2:=l2) (k0:=k0) (k1:=k1) (c0:=c0) (c1:=c1) (c2:=c2) (c3:=c3) (c4:=c4) (c5:=c5) (c6:=c6)
 obtain ⟨ca,cx,rfl,_,hca,hcx⟩:=hc
 obtain rfl:=IsDs.strs_of hcx
 have hjj : j = 0\/j = 1\/j = 2\/j = 3\/j = 4\/j = 5\/j = 6\/j = 7\/j = 8\/j = 9:=by omega
 rcases hjj with rfl | rfl | rfl | rfl | rfl | rfl | rfl | rfl | rfl | rfl
 ·cases hC
  refine ⟨_,rfl,rfl,_,rfl,ite2 (fun _=>?_) (fun cc=>absurd (by decide) cc)⟩
  exact ⟨_,rfl,_,rfl,_,rfl,bdP l0 l1 l2 k0 k1,bdS k0 k1 c0 c1 c2 c3 c4 c5 c6,plv,stv,x,rfl,hp,hs,hl8 _ (by simp),Po,So,Bo,tb,(fun c r H2 h=>by rw [due0 U] at h;cases h),(fun r h=>by rw [due0 U] at h;cases h;exact XFs.on q)⟩
 ·cases hC
  refine ⟨_,rfl,rfl,_,rfl,ite2 (fun cc=>absurd cc (by decide)) (fun _=>?_)⟩
  show tSeq _ _ _ [_,_,_,_,_] _
  refine ⟨_,rfl,rfl,_,rfl,ite2 (fun _=>?_) (fun cc=>absurd (by decide) cc)⟩
  exact ⟨_,rfl,_,rfl,_,rfl,ca,_,_,.str c0,rfl,rfl,SqL.of hca,rfl,bdP l0 l1 l2 k0 k1,bdS k0 k1 c0 c1 c2 c3 c4 c5 c6,plv,stv,c0,rfl,hp,hs,hl8 _ (by simp),Po,So,Bo,tb,(fun c r H2 h=>by rw [due1 U] at h;cases h),(fun r h=>by rw [due1 U] at h;cases h;exact XFs.on q)⟩
 ·cases hC
  refine ⟨_,rfl,rfl,_,rfl,ite2 (fun cc=>absurd cc (by decide)) (fun _=>?_)⟩
  show tSeq _ _ _ [_,_,_,_,_] _
  refine ⟨_,rfl,rfl,_,rfl,ite2 (fun cc=>absurd cc (by decide)) (fun _=>?_)⟩
  show tSeq _ _ _ [_,_,_,_,_] _
  refine ⟨_,rfl,rfl,_,rfl,ite2 (fun _=>?_) (fun cc=>absurd (by decide) cc)⟩
  exact ⟨_,rfl,_,rfl,_,rfl,ca,_,_,.str c2,rfl,rfl,SqL.of hca,rfl,bdP l0 l1 l2 k0 k1,bdS k0 k1 c0 c1 c2 c3 c4 c5 c6,plv,stv,c2,rfl,hp,hs,hl8 _ (by simp),Po,So,Bo,tb,(fun c r H2 h=>by rw [due2 U] at h;cases h),(fun r h=>by rw [due2 U] at h;cases h;exact XFs.on q)⟩
 ·cases hC
  refine ⟨_,rfl,rfl,_,rfl,ite2 (fun cc=>absurd cc (by decide)) (fun _=>?_)⟩
  show tSeq _ _ _ [_,_,_,_,_] _
  refine ⟨_,rfl,rfl,_,rfl,ite2 (fun cc=>absurd cc (by decide)) (fun _=>?_)⟩
  show tSeq _ _ _ [_,_,_,_,_] _
  refine ⟨_,rfl,rfl,_,rfl,ite2 (fun cc=>absurd cc (by decide)) (fun _=>?_)⟩
  show tSeq _ _ _ [_,_,_,_,_] _
  refine ⟨_,rfl,rfl,_,rfl,ite2 (fun _=>?_) (fun cc=>absurd (by decide) cc)⟩
  exact ⟨_,rfl,_,rfl,_,rfl,ca,_,_,.str c4,rfl,rfl,SqL.of hca,rfl,bdP l0 l1 l2 k0 k1,bdS k0 k1 c0 c1 c2 c3 c4 c5 c6,plv,stv,c4,rfl,hp,hs,hl8 _ (by simp),Po,So,Bo,tb,(fun c r H2 h=>by rw [due3 U] at h;cases h),(fun r h=>by rw [due3 U] at h;cases h;exact XFs.on q)⟩
 ·cases hC
  refine ⟨_,rfl,rfl,_,rfl,ite2 (fun cc=>absurd cc (by decide)) (fun _=>?_)⟩
  show tSeq _ _ _ [_,_,_,_,_] _
  refine ⟨_,rfl,rfl,_,rfl,ite2 (fun cc=>absurd cc (by decide)) (fun _=>?_)⟩
  show tSeq _ _ _ [_,_,_,_,_] _
  refine ⟨_,rfl,rfl,_,rfl,ite2 (fun cc=>absurd cc (by decide)) (fun _=>?_)⟩
  show tSeq _ _ _ [_,_,_,_,_] _
  refine ⟨_,rfl,rfl,_,rfl,ite2 (fun cc=>absurd cc (by decide)) (fun _=>?_)⟩
  show tSeq _ _ _ [_,_,_,_,_] _
  refine ⟨_,rfl,rfl,_,rfl,ite2 (fun _=>?_) (fun cc=>absurd (by decide) cc)⟩
  exact ⟨_,rfl,_,rfl,_,rfl,ca,_,_,.str c6,rfl,rfl,SqL.of hca,rfl,bdP l0 l1 l2 k0 k1,bdS k0 k1 c0 c1 c2 c3 c4 c5 c6,plv,stv,c6,rfl,hp,hs,hl8 _ (by simp),Po,So,Bo,tb,(fun c r H2 h=>by rw [due4 U] at h;cases h),(fun r h=>by rw [due4 U] at h;cases h;exact XFs.on q)⟩
 ·cases hC
  refine ⟨_,rfl,rfl,_,rfl,ite2 (fun cc=>absurd cc (by decide)) (fun _=>?_)⟩
  show tSeq _ _ _ [_,_,_,_,_] _
  refine ⟨_,rfl,rfl,_,rfl,ite2 (fun cc=>absurd cc (by decide)) (fun _=>?_)⟩
  show tSeq _ _ _ [_,_,_,_,_] _
  refine ⟨_,rfl,rfl,_,rfl,ite2 (fun cc=>absurd cc (by decide)) (fun _=>?_)⟩
  show tSeq _ _ _ [_,_,_,_,_] _
  refine ⟨_,rfl,rfl,_,rfl,ite2 (fun cc=>absurd cc (by decide)) (fun _=>?_)⟩
  show tSeq _ _ _ [_,_,_,_,_] _
  refine ⟨_,rfl,rfl,_,rfl,ite2 (fun cc=>absurd cc (by decide)) (fun _=>?_)⟩
  show tSeq _ _ _ [_,_,_,_,_] _
  refine ⟨_,rfl,rfl,_,rfl,ite2 (fun _=>?_) (fun cc=>absurd (by decide) cc)⟩
  exact ⟨_,rfl,_,rfl,_,rfl,ca,_,_,.str c1,rfl,rfl,SqL.of hca,rfl,bdP l0 l1 l2 k0 k1,bdS k0 k1 c0 c1 c2 c3 c4 c5 c6,plv,stv,c1,rfl,hp,hs,hl8 _ (by simp),Po,So,Bo,tb,(fun c r H2 h=>by rw [due5 U] at h;cases h),(fun r h=>by rw [due5 U] at h;cases h;exact XFs.on q)⟩
 ·cases hC
  refine ⟨_,rfl,rfl,_,rfl,ite2 (fun cc=>absurd cc (by decide)) (fun _=>?_)⟩
  show tSeq _ _ _ [_,_,_,_,_] _
  refine ⟨_,rfl,rfl,_,rfl,ite2 (fun cc=>absurd cc (by decide)) (fun _=>?_)⟩
  show tSeq _ _ _ [_,_,_,_,_] _
  refine ⟨_,rfl,rfl,_,rfl,ite2 (fun cc=>absurd cc (by decide)) (fun _=>?_)⟩
  show tSeq _ _ _ [_,_,_,_,_] _
  refine ⟨_,rfl,rfl,_,rfl,ite2 (fun cc=>absurd cc (by decide)) (fun _=>?_)⟩
  show tSeq _ _ _ [_,_,_,_,_] _
  refine ⟨_,rfl,rfl,_,rfl,ite2 (fun cc=>absurd cc (by decide)) (fun _=>?_)⟩
  show tSeq _ _ _ [_,_,_,_,_] _
  refine ⟨_,rfl,rfl,_,rfl,ite2 (fun cc=>absurd cc (by decide)) (fun _=>?_)⟩
  show tSeq _ _ _ [_,_,_,_,_] _
  refine ⟨_,rfl,rfl,_,rfl,ite2 (fun _=>?_) (fun cc=>absurd (by decide) cc)⟩
  exact ⟨_,rfl,_,rfl,_,rfl,ca,_,_,.str c6,rfl,rfl,SqL.of hca,rfl,bdP l0 l1 l2 k0 k1,bdS k0 k1 c0 c1 c2 c3 c4 c5 c6,plv,stv,c6,rfl,hp,hs,hl8 _ (by simp),Po,So,Bo,tb,(fun c r H2 h=>by rw [due6 U] at h;cases h),(fun r h=>by rw [due6 U] at h;cases h;exact XFs.on q)⟩
 ·cases hC
  refine ⟨_,rfl,rfl,_,rfl,ite2 (fun cc=>absurd cc (by decide)) (fun _=>?_)⟩
  show tSeq _ _ _ [_,_,_,_,_] _
  refine ⟨_,rfl,rfl,_,rfl,ite2 (fun cc=>absurd cc (by decide)) (fun _=>?_)⟩
  show tSeq _ _ _ [_,_,_,_,_] _
  refine ⟨_,rfl,rfl,_,rfl,ite2 (fun cc=>absurd cc (by decide)) (fun _=>?_)⟩
  show tSeq _ _ _ [_,_,_,_,_] _
  refine ⟨_,rfl,rfl,_,rfl,ite2 (fun cc=>absurd cc (by decide)) (fun _=>?_)⟩
  show tSeq _ _ _ [_,_,_,_,_] _
  refine ⟨_,rfl,rfl,_,rfl,ite2 (fun cc=>absurd cc (by decide)) (fun _=>?_)⟩
  show tSeq _ _ _ [_,_,_,_,_] _
  refine ⟨_,rfl,rfl,_,rfl,ite2 (fun cc=>absurd cc (by decide)) (fun _=>?_)⟩
  show tSeq _ _ _ [_,_,_,_,_] _
  refine ⟨_,rfl,rfl,_,rfl,ite2 (fun cc=>absurd cc (by decide)) (fun _=>?_)⟩
  show tSeq _ _ _ [_,_,_,_,_] _
  refine ⟨_,rfl,rfl,_,rfl,ite2 (fun _=>?_) (fun cc=>absurd (by decide) cc)⟩
  refine ⟨_,rfl,_,rfl,_,rfl,ca,_,_,.str c6,rfl,rfl,SqL.of hca,rfl,_,rfl,by show 2 <= sizeLine;decide,fun la hla=>?_⟩
  have e1 : Ext [] H (upd H la (.lst [.int (-1),.int 4])):=Ext.new hla _
  have hl1 : (upd H la (.lst [.int (-1),.int 4])) la = some (.lst [.int (-1),.int 4]):=upd_same
  generalize upd H la (.lst [.int (-1),.int 4]) = H1 at e1 hl1 ⊢
  have hodd : atI [V.int (-1),V.int 4] (((x.length : Nat) : Int) % 2) = some (.int (oddL x)):=by
   unfold oddL
   by_cases h : x.length % 2 = 0
   ·rw [if_pos h,show (((x.length : Nat) : Int) % 2) = 0 by omega];rfl
   ·rw [if_neg h,show (((x.length : Nat) : Int) % 2) = 1 by omega];rfl
  have hxl:=hl8 x (by simp)
  refine ⟨_,rfl,x,rfl,line hxl,_,_,rfl,rfl,by show (0 : Int) < 2;decide,la,_,_,_,rfl,rfl,SqL.of hl1,hodd,_,rfl,ca,_,_,.str c1,rfl,rfl,SqL.of (e1.lst (by simp) hca),rfl,?_⟩
  refine ⟨bdP l0 l1 l2 k0 k1,bdS k0 k1 c0 c1 c2 c3 c4 c5 c6,plv,stv,c6,c1,oddL x,_,_,rfl,IsD.ext e1 hp,IsD.ext e1 hs,hl8 _ (by simp),hl8 _ (by simp),Po,So,cd6 U,cd1 U,?_,.inl ⟨?_,XFs.on (q.up e1)⟩⟩
  ·unfold oddL;split <;> exact says_int (by decide) (by decide)
  ·rw [nP U];unfold oddL;split <;> omega
 ·cases hC
  refine ⟨_,rfl,rfl,_,rfl,ite2 (fun cc=>absurd cc (by decide)) (fun _=>?_)⟩
  show tSeq _ _ _ [_,_,_,_,_] _
  refine ⟨_,rfl,rfl,_,rfl,ite2 (fun cc=>absurd cc (by decide)) (fun _=>?_)⟩
  show tSeq _ _ _ [_,_,_,_,_] _
  refine ⟨_,rfl,rfl,_,rfl,ite2 (fun cc=>absurd cc (by decide)) (fun _=>?_)⟩
  show tSeq _ _ _ [_,_,_,_,_] _
  refine ⟨_,rfl,rfl,_,rfl,ite2 (fun cc=>absurd cc (by decide)) (fun _=>?_)⟩
  show tSeq _ _ _ [_,_,_,_,_] _
  refine ⟨_,rfl,rfl,_,rfl,ite2 (fun cc=>absurd cc (by decide)) (fun _=>?_)⟩
  show tSeq _ _ _ [_,_,_,_,_] _
  refine ⟨_,rfl,rfl,_,rfl,ite2 (fun cc=>absurd cc (by decide)) (fun _=>?_)⟩
  show tSeq _ _ _ [_,_,_,_,_] _
  refine ⟨_,rfl,rfl,_,rfl,ite2 (fun cc=>absurd cc (by decide)) (fun _=>?_)⟩
  show tSeq _ _ _ [_,_,_,_,_] _
  refine ⟨_,rfl,rfl,_,rfl,ite2 (fun cc=>absurd cc (by decide)) (fun _=>?_)⟩
  show tSeq _ _ _ [_,_,_,_,_] _
  refine ⟨_,rfl,rfl,_,rfl,ite2 (fun _=>?_) (fun cc=>absurd (by decide) cc)⟩
  exact ⟨_,rfl,_,rfl,_,rfl,ca,_,_,.str c3,rfl,rfl,SqL.of hca,rfl,_,rfl,ca,_,_,.str c6,rfl,rfl,SqL.of hca,rfl,bdP l0 l1 l2 k0 k1,bdS k0 k1 c0 c1 c2 c3 c4 c5 c6,plv,stv,c3,c6,1,_,_,rfl,hp,hs,hl8 _ (by simp),hl8 _ (by simp),Po,So,cd3 U,cd6 U,says_int (by decide) (by decide),.inr ⟨by decide,by rw [nP U];decide,by unfold Pl.lane;rw [at_k0_2 U];decide,by unfold Pl.lane;rw [at_k0_0 U,nP U];decide,XFs.on q⟩⟩
 ·cases hC
  refine ⟨_,rfl,rfl,_,rfl,ite2 (fun cc=>absurd cc (by decide)) (fun _=>?_)⟩
  show tSeq _ _ _ [_,_,_,_,_] _
  refine ⟨_,rfl,rfl,_,rfl,ite2 (fun cc=>absurd cc (by decide)) (fun _=>?_)⟩
  show tSeq _ _ _ [_,_,_,_,_] _
  refine ⟨_,rfl,rfl,_,rfl,ite2 (fun cc=>absurd cc (by decide)) (fun _=>?_)⟩
  show tSeq _ _ _ [_,_,_,_,_] _
  refine ⟨_,rfl,rfl,_,rfl,ite2 (fun cc=>absurd cc (by decide)) (fun _=>?_)⟩
  show tSeq _ _ _ [_,_,_,_,_] _
  refine ⟨_,rfl,rfl,_,rfl,ite2 (fun cc=>absurd cc (by decide)) (fun _=>?_)⟩
  show tSeq _ _ _ [_,_,_,_,_] _
  refine ⟨_,rfl,rfl,_,rfl,ite2 (fun cc=>absurd cc (by decide)) (fun _=>?_)⟩
  show tSeq _ _ _ [_,_,_,_,_] _
  refine ⟨_,rfl,rfl,_,rfl,ite2 (fun cc=>absurd cc (by decide)) (fun _=>?_)⟩
  show tSeq _ _ _ [_,_,_,_,_] _
  refine ⟨_,rfl,rfl,_,rfl,ite2 (fun cc=>absurd cc (by decide)) (fun _=>?_)⟩
  show tSeq _ _ _ [_,_,_,_,_] _
  refine ⟨_,rfl,rfl,_,rfl,ite2 (fun cc=>absurd cc (by decide)) (fun _=>?_)⟩
  skip
  refine ⟨_,rfl,rfl,_,rfl,ite2 (fun _=>?_) (fun cc=>absurd (by decide) cc)⟩
  exact ⟨_,rfl,_,rfl,ca,_,_,.str c4,rfl,rfl,SqL.of hca,rfl,_,rfl,ca,_,_,.str c6,rfl,rfl,SqL.of hca,rfl,bdS k0 k1 c0 c1 c2 c3 c4 c5 c6,stv,c4,c6,rfl,hs,hl8 _ (by simp),hl8 _ (by simp),by show 1 <= 900;decide,tb,(fun h=>by rw [cd4 U] at h;cases h),(fun c _ h=>by rw [cd6 U] at h;cases h),fun c o _ _ _=>XFs.on q,fun c o r H2 _ _ h=>absurd (by rw [due9 U];rfl) h⟩
end
end K12
end

section
set_option Elab.async false
set_option linter.all false
set_option maxRecDepth 100000
set_option maxHeartbeats 1000000
namespace K12
open PySem PySem.Spec L2 PyProof.Rows PySem.W
theorem inL_one {c : Nat} (h : inL ⟨#[c]⟩ = true) : c < 1114112:=by
 unfold inL at h
 rw [PySem.StrLaws.found_one] at h
 have h1 : c ∈ az.cps.toList:=of_decide_eq_true h
 have h2 : ∀ x ∈ az.cps.toList,x < 1114112:=by decide +kernel
 exact h2 c h1
theorem nm_ok {x : Str} (h : nm x = true) : PySem.PyData.strOk x = true/\x.length <= 8:=by
 unfold nm at h
 split at h
 ·cases h
 ·rw [Bool.and_eq_true,Bool.and_eq_true,decide_eq_true_eq,decide_eq_true_eq] at h
  refine ⟨?_,by omega⟩
  unfold PySem.PyData.strOk
  rw [Array.all_eq_true']
  intro c hc
  have:=List.all_eq_true.mp h.2.2 ⟨#[c]⟩ (List.mem_map.mpr ⟨c,Array.mem_toList_iff.mpr hc,rfl⟩)
  exact decide_eq_true (inL_one this)
def Sh (n : Nat) (d : PyData) : Prop:=d.canLay0 = true/\d.depth <= n
theorem Sh.more {n m : Nat} {d : PyData} (h : Sh n d) (k : n <= m) : Sh m d:=⟨h.1,Nat.le_trans h.2 k⟩
theorem sh_all {n : Nat} : ∀ {ds : List PyData},(∀ d ∈ ds,Sh n d)->PyData.canLayAll0 ds = true/\PyData.depthAll ds <= n
 | [],_=>⟨rfl,Nat.zero_le _⟩
 | d :: ds,h=>by
  obtain ⟨a,b⟩:=h d List.mem_cons_self
  obtain ⟨c,e⟩:=sh_all fun x hx=>h x (List.mem_cons_of_mem _ hx)
  refine ⟨?_,?_⟩
  ·show (d.canLay0 && PyData.canLayAll0 ds) = true
   rw [a,c]
   rfl
  ·show max d.depth (PyData.depthAll ds) <= n
   omega
theorem Sh.tup {n : Nat} {ds : List PyData} (h : ∀ d ∈ ds,Sh n d) : Sh (n + 1) (.tuple ds):=by
 obtain ⟨a,b⟩:=sh_all h
 exact ⟨a,by show PyData.depthAll ds + 1 <= n + 1;omega⟩
theorem Sh.shaped {n : Nat} {d : PyData} (h : Sh n d) (k : n <= 64:=by decide) : SeqAt.shaped d = true:=by
 unfold SeqAt.shaped
 rw [h.1,decide_eq_true (Nat.le_trans h.2 k)]
 rfl
theorem Sh.refl {n : Nat} {d : PyData} (h : Sh n d) : PyData.eqv d d = true:=SeqAt.eqv_refl d h.1
theorem sh_int (i : Int) : Sh 0 (.int i):=⟨rfl,Nat.le_refl _⟩
theorem sh_nm {x : Str} (h : nm x = true) : Sh 0 (.str x):=⟨(nm_ok h).1,Nat.le_refl _⟩
def spLaw (ts : List Addr) (K : PySem.W.Frag) : Sp:=fun vs H Q _=>∃ (a : Addr) (ns : List Int),vs = [.ref a]/\SqL K H a (ns.map V.int)/\ns.length <= 63/\Tb ts H/\∀ H',Q (.bl true) H'
def dsOf (l0 l1 k0 c0 c2 c3 c4 c5 c6 x : Str) (j : Nat) : List PyData:=match j with
 | 0=>[.str x]
 | 1=>[.str c0]
 | 2=>[.str c2]
 | 3=>[.str c4,.str c5]
 | 4=>[.str l0,.int 1]
 | 5=>[.str l1,.str k0,.int 1]
 | 6=>[.str c6]
 | 7=>[.int (oddL x)]
 | 8=>[.str c3]
 | _=>[.str c4]
def dueD (l0 l1 k0 c0 c2 c3 c4 c5 c6 x : Str) : List PyData:=[.tuple [.int 0,.str x],.tuple [.int 1,.str c0],.tuple [.int 2,.str c2],.tuple [.int 3,.str c4,.str c5],.tuple [.int 4,.str l0,.int 1],.tuple [.int 5,.str l1,.str k0,.int 1],.tuple [.int 6,.str c6],.tuple [.int 7,.int (oddL x)],.tuple [.int 8,.str c3],.tuple [.int 9,.str c4]]
section
variable {l0 l1 l2 k0 k1 c0 c1 c2 c3 c4 c5 c6 x : Str}
theorem due_at {j : Nat} (hj : j < 10) : (dueD l0 l1 k0 c0 c2 c3 c4 c5 c6 x)[j]? = some (.tuple (.int j :: dsOf l0 l1 k0 c0 c2 c3 c4 c5 c6 x j)):=by
 have h : j = 0\/j = 1\/j = 2\/j = 3\/j = 4\/j = 5\/j = 6\/j = 7\/j = 8\/j = 9:=by omega
 rcases h with rfl | rfl | rfl | rfl | rfl | rfl | rfl | rfl | rfl | rfl <;> rfl
theorem us_is {H : Hp} {j : Nat} (hj : j < 10) : IsDs [] H (dsOf l0 l1 k0 c0 c2 c3 c4 c5 c6 x j) (usOf l0 l1 k0 c0 c2 c3 c4 c5 c6 x j):=by
 have h : j = 0\/j = 1\/j = 2\/j = 3\/j = 4\/j = 5\/j = 6\/j = 7\/j = 8\/j = 9:=by omega
 rcases h with rfl | rfl | rfl | rfl | rfl | rfl | rfl | rfl | rfl | rfl <;> first | exact ⟨_,_,rfl,rfl,rfl⟩ | exact ⟨_,_,rfl,rfl,_,_,rfl,rfl,rfl⟩ | exact ⟨_,_,rfl,rfl,_,_,rfl,rfl,_,_,rfl,rfl,rfl⟩
theorem us_len {j : Nat} (hj : j < 10) : (usOf l0 l1 k0 c0 c2 c3 c4 c5 c6 x j).length = (fldN j).length:=by
 have h : j = 0\/j = 1\/j = 2\/j = 3\/j = 4\/j = 5\/j = 6\/j = 7\/j = 8\/j = 9:=by omega
 rcases h with rfl | rfl | rfl | rfl | rfl | rfl | rfl | rfl | rfl | rfl <;> rfl
theorem due_sh (hn : ∀ y ∈ [l0,l1,l2,k0,k1,c0,c1,c2,c3,c4,c5,c6,x],nm y = true) {j : Nat} (hj : j < 10) : Sh 1 (.tuple (.int j :: dsOf l0 l1 k0 c0 c2 c3 c4 c5 c6 x j)):=by
 have n (y : Str) (hy : y ∈ [l0,l1,l2,k0,k1,c0,c1,c2,c3,c4,c5,c6,x]) : Sh 0 (.str y):=sh_nm (hn y hy)
 refine Sh.tup fun d hd=>?_
 rcases List.mem_cons.mp hd with rfl | hd
 ·exact sh_int _
 have h : j = 0\/j = 1\/j = 2\/j = 3\/j = 4\/j = 5\/j = 6\/j = 7\/j = 8\/j = 9:=by omega
 rcases h with rfl | rfl | rfl | rfl | rfl | rfl | rfl | rfl | rfl | rfl <;> simp only [dsOf,List.mem_cons,List.not_mem_nil,or_false] at hd
 ·subst hd;exact n _ (by simp)
 ·subst hd;exact n _ (by simp)
 ·subst hd;exact n _ (by simp)
 ·rcases hd with rfl | rfl <;> exact n _ (by simp)
 ·rcases hd with rfl | rfl
  ·exact n _ (by simp)
  ·exact sh_int _
 ·rcases hd with rfl | rfl | rfl
  ·exact n _ (by simp)
  ·exact n _ (by simp)
  ·exact sh_int _
 ·subst hd;exact n _ (by simp)
 ·subst hd;exact sh_int _
 ·subst hd;exact n _ (by simp)
 ·subst hd;exact n _ (by simp)
end
structure TxL (K : PySem.W.Frag) (mg : Str->Option Value) (CE : Addr) : Prop extends Txt K mg where
 d_LaneError : mg "LaneError" = some (.ref CE)
 x_LaneError : excClsIn K CE = true
section
variable {P : Program} {w : World} {K : PySem.W.Frag} {mg : Str->Option Value} {base : Heap} {ts : List Addr} {k : XCs} {CE CL CP CW : Addr}
abbrev s_law : Stmt:=top 46
theorem sc_law : FnScope ["_law_script","_law_held","_law_plan","_law_stand","_law_cards","_law_strange","_law_lane","_law_due","_law_turn","_law_k","_law_way","_law_told_here","e"] ["_law_script"] (defScope s_law):=⟨rfl,rfl,rfl,by decide +kernel,rfl,by decide +kernel,by decide +kernel⟩
theorem ok_law {f : Addr} {fd : FuncData} (F : Fun K "law" "law" s_law f fd) (T : TxL K mg CE) (Xm : ∀ C ∈ CsOf k CL CP CW,PySem.W.mroIn K C (.ref CE) = some true) (hte : ∀ t ∈ ts,t ∉ ([] : List Addr)) (C__law_digits : CallOk P w K mg base "_law_digits" 1 ["_law_script","_law_k"] (spDigits K)) (C__law_take : CallOk P w K mg base "_law_take" 1 ["_law_held","_law_many"] spTake) (C__law_board : CallOk P w K mg base "_law_board" 3 ["_law_held"] spBoard)
  (C__law_done : CallOkX P w K mg base "_law_done" 11 ["_law_plan","_law_stand","_law_cards","_law_strange","_law_way"] (spDone k CL CP CW ts)) (C__law_told : CallOkH P w K mg base "_law_told" 2 ["_law_error"] (spTold (CsOf k CL CP CW))) : FnOk P w K mg base CX0 12 f fd ["_law_script"] (spLaw ts K):=by
 refine F.ok sc_law (fun vs H Q E h=>?_) (fun cdv A outer s H vs Q E hr h=>?_)
 ·obtain ⟨a,ns,rfl,_⟩:=h
  rfl
 obtain ⟨a,ns,rfl,hS,h63,tb,q⟩:=h
 have hu:=hr.units
 refine' ⟨_,?hh,?rr⟩
 case hh=>refine' pss_cons ?g1 ?g2;(case g1=>(refine' ps_set ?g3 ?g4 ?g5 ?g6;(case g3=>(exact sc_law.nd));(case g4=>(exact (ixAt 1)));(case g5=>(exact (Or.inl rfl)));(case g6=>(refine' pe_cl ?g7 ?g8 ?g9 ?g10 ?g11;(case g7=>(exact C__law_digits));(case g8=>(exact hr));(case g9=>(refine' pa_c ?g12 ?g13;(case g12=>(exact (pv 0)));(case g13=>(refine' pa_c ?g14 ?g15;(case g14=>(exact pe_int));(case g15=>(exact pa_nil))))));(case g10=>(exact rfl));(case g11=>(decide))))));(case g2=>(refine' pss_cons ?g16 ?g17;(case g16=>(refine' ps_asg ?g18 ?g19;(case g18=>(refine' pe_cl ?g20 ?g21 ?g22 ?g23 ?g24;(case g20=>(exact C__law_board));(case g21=>(exact hr));(case g22=>(refine' pa_c ?g25 ?g26;(case g25=>(exact (pv 1)));(case g26=>(exact pa_nil))));(case g23=>(exact rfl));(case g24=>(decide))));(case g19=>(refine' pg_tup ?g27 ?g28;(case g27=>(exact rfl));(case g28=>(refine' pgs_cons ?g29 ?g30;(case g29=>(refine' pg_name ?g31 ?g32 ?g33 ?g34;(case g31=>(exact sc_law.nd));(case g32=>(exact (ixAt 2)));(case g33=>(exact (Or.inl rfl)));(case g34=>(exact (Or.inl rfl)))));(case g30=>(refine' pgs_cons ?g35 ?g36;(case g35=>(refine' pg_name ?g37 ?g38 ?g39 ?g40;(case g37=>(exact sc_law.nd));(case g38=>(exact (ixAt 3)));(case g39=>(exact (Or.inl rfl)));(case g40=>(exact (Or.inl rfl)))));(case g36=>(refine' pgs_cons ?g41 ?g42;(case g41=>(refine' pg_name ?g43 ?g44 ?g45 ?g46;(case g43=>(exact sc_law.nd));(case g44=>(exact (ixAt 4)));(case g45=>(exact (Or.inl rfl)));(case g46=>(exact (Or.inl rfl)))));(case g42=>(refine' pgs_cons ?g47 ?g48;(case g47=>(refine' pg_name ?g49 ?g50 ?g51 ?g52;(case g49=>(exact sc_law.nd));(case g50=>(exact (ixAt 5)));(case g51=>(exact (Or.inl rfl)));(case g52=>(exact (Or.inl rfl)))));(case g48=>(exact pgs_nil))))))))))))));(case g17=>(refine' pss_cons ?g53 ?g54;(case g53=>(refine' ps_set ?g55 ?g56 ?g57 ?g58;(case g55=>(exact sc_law.nd));(case g56=>(exact (ixAt 6)));(case g57=>(exact (Or.inl rfl)));(case g58=>(refine' pe_ix ?g59 ?g60 ?g61 ?g62;(case g59=>(exact ix_D));(case g60=>(refine' pe_ix ?g63 ?g64 ?g65 ?g66;(case g63=>(exact ix_D));(case g64=>(refine' pe_ix ?g67 ?g68 ?g69 ?g70;(case g67=>(exact ix_D));(case g68=>(exact (pv 2)));(case g69=>(exact pe_int));(case g70=>(exact (fun _ _=>rfl)))));(case g65=>(exact pe_int));(case g66=>(exact (fun _ _=>rfl)))));(case g61=>(exact pe_int));(case g62=>(exact (fun _ _=>rfl)))))));(case g54=>(refine' pss_cons ?g71 ?g72;(case g71=>(refine' ps_set ?g73 ?g74 ?g75 ?g76;(case g73=>(exact sc_law.nd));(case g74=>(exact (ixAt 7)));(case g75=>(exact (Or.inl rfl)));(case g76=>(refine' pe_lstD ?g77;(case g77=>(refine' pa_c ?g78 ?g79;(case g78=>(refine' pe_tupD ?g80;(case g80=>(refine' pa_c ?g81 ?g82;(case g81=>(exact pe_int));(case g82=>(refine' pa_c ?g83 ?g84;(case g83=>(exact (pv 5)));(case g84=>(exact pa_nil))))))));(case g79=>(refine' pa_c ?g85 ?g86;(case g85=>(refine' pe_tupD ?g87;(case g87=>(refine' pa_c ?g88 ?g89;(case g88=>(exact pe_int));(case g89=>(refine' pa_c ?g90 ?g91;(case g90=>(refine' pe_ix ?g92 ?g93 ?g94 ?g95;(case g92=>(exact ix_D));(case g93=>(exact (pv 4)));(case g94=>(exact pe_int));(case g95=>(exact (fun _ _=>rfl)))));(case g91=>(exact pa_nil))))))));(case g86=>(refine' pa_c ?g96 ?g97;(case g96=>(refine' pe_tupD ?g98;(case g98=>(refine' pa_c ?g99 ?g100;(case g99=>(exact pe_int));(case g100=>(refine' pa_c ?g101 ?g102;(case g101=>(refine' pe_ix ?g103 ?g104 ?g105 ?g106;(case g103=>(exact ix_D));(case g104=>(exact (pv 4)));(case g105=>(exact pe_int));(case g106=>(exact (fun _ _=>rfl)))));(case g102=>(exact pa_nil))))))));(case g97=>(refine' pa_c ?g107 ?g108;(case g107=>(refine' pe_tupD ?g109;(case g109=>(refine' pa_c ?g110 ?g111;(case g110=>(exact pe_int));(case g111=>(refine' pa_c ?g112 ?g113;(case g112=>(refine' pe_ix ?g114 ?g115 ?g116 ?g117;(case g114=>(exact ix_D));(case g115=>(exact (pv 4)));(case g116=>(exact pe_int));(case g117=>(exact (fun _ _=>rfl)))));(case g113=>(refine' pa_c ?g118 ?g119;(case g118=>(refine' pe_ix ?g120 ?g121 ?g122 ?g123;(case g120=>(exact ix_D));(case g121=>(exact (pv 4)));(case g122=>(exact pe_int));(case g123=>(exact (fun _ _=>rfl)))));(case g119=>(exact pa_nil))))))))));(case g108=>(exact pa_nil))))))))))))));(case g72=>(refine' pss_cons ?g124 ?g125;(case g124=>(refine' ps_set ?g126 ?g127 ?g128 ?g129;(case g126=>(exact sc_law.nd));(case g127=>(exact (ixAt 7)));(case g128=>(exact (Or.inl rfl)));(case g129=>(refine' pe_op ?g130 ?g131 ?g132;(case g130=>(exact op_catLD));(case g131=>(exact (pv 7)));(case g132=>(refine' pe_lstD ?g133;(case g133=>(refine' pa_c ?g134 ?g135;(case g134=>(refine' pe_tupD ?g136;(case g136=>(refine' pa_c ?g137 ?g138;(case g137=>(exact pe_int));(case g138=>(refine' pa_c ?g139 ?g140;(case g139=>(refine' pe_ix ?g141 ?g142 ?g143 ?g144;(case g141=>(exact ix_D));(case g142=>(refine' pe_ix ?g145 ?g146 ?g147 ?g148;(case g145=>(exact ix_D));(case g146=>(refine' pe_ix ?g149 ?g150 ?g151 ?g152;(case g149=>(exact ix_D));(case g150=>(exact (pv 2)));(case g151=>(exact pe_int));(case g152=>(exact (fun _ _=>rfl)))));(case g147=>(exact pe_int));(case g148=>(exact (fun _ _=>rfl)))));(case g143=>(exact pe_int));(case g144=>(exact (fun _ _=>rfl)))));(case g140=>(refine' pa_c ?g153 ?g154;(case g153=>(exact pe_int));(case g154=>(exact pa_nil))))))))));(case g135=>(refine' pa_c ?g155 ?g156;(case g155=>(refine' pe_tupD ?g157;(case g157=>(refine' pa_c ?g158 ?g159;(case g158=>(exact pe_int));(case g159=>(refine' pa_c ?g160 ?g161;(case g160=>(exact (pv 6)));(case g161=>(refine' pa_c ?g162 ?g163;(case g162=>(refine' pe_ix ?g164 ?g165 ?g166 ?g167;(case g164=>(exact ix_D));(case g165=>(refine' pe_ix ?g168 ?g169 ?g170 ?g171;(case g168=>(exact ix_D));(case g169=>(refine' pe_ix ?g172 ?g173 ?g174 ?g175;(case g172=>(exact ix_D));(case g173=>(exact (pv 2)));(case g174=>(exact pe_int));(case g175=>(exact (fun _ _=>rfl)))));(case g170=>(exact pe_int));(case g171=>(exact (fun _ _=>rfl)))));(case g166=>(exact pe_int));(case g167=>(exact (fun _ _=>rfl)))));(case g163=>(refine' pa_c ?g176 ?g177;(case g176=>(exact pe_int));(case g177=>(exact pa_nil))))))))))));(case g156=>(refine' pa_c ?g178 ?g179;(case g178=>(refine' pe_tupD ?g180;(case g180=>(refine' pa_c ?g181 ?g182;(case g181=>(exact pe_int));(case g182=>(refine' pa_c ?g183 ?g184;(case g183=>(refine' pe_ix ?g185 ?g186 ?g187 ?g188;(case g185=>(exact ix_D));(case g186=>(exact (pv 4)));(case g187=>(exact pe_int));(case g188=>(exact (fun _ _=>rfl)))));(case g184=>(exact pa_nil))))))));(case g179=>(exact pa_nil))))))))))))));(case g125=>(refine' pss_cons ?g189 ?g190;(case g189=>(refine' ps_set ?g191 ?g192 ?g193 ?g194;(case g191=>(exact sc_law.nd));(case g192=>(exact (ixAt 7)));(case g193=>(exact (Or.inl rfl)));(case g194=>(refine' pe_op ?g195 ?g196 ?g197;(case g195=>(exact op_catLD));(case g196=>(exact (pv 7)));(case g197=>(refine' pe_lstD ?g198;(case g198=>(refine' pa_c ?g199 ?g200;(case g199=>(refine' pe_tupD ?g201;(case g201=>(refine' pa_c ?g202 ?g203;(case g202=>(exact pe_int));(case g203=>(refine' pa_c ?g204 ?g205;(case g204=>(refine' pe_ix ?g206 ?g207 ?g208 ?g209;(case g206=>(exact ix_D));(case g207=>(refine' pe_lstD ?g210;(case g210=>(refine' pa_c ?g211 ?g212;(case g211=>(refine' pe_un ?g213 ?g214;(case g213=>(exact un_neg));(case g214=>(exact pe_int))));(case g212=>(refine' pa_c ?g215 ?g216;(case g215=>(exact pe_int));(case g216=>(exact pa_nil))))))));(case g208=>(refine' pe_op ?g217 ?g218 ?g219;(case g217=>(exact op_mod));(case g218=>(refine' pe_callB ?g220 ?g221 ?g222 ?g223 ?g224;(case g220=>(exact call_len_str));(case g221=>(exact rfl));(case g222=>(exact T.b_len));(case g223=>(exact PySem.boot_len));(case g224=>(refine' pa_c ?g225 ?g226;(case g225=>(exact (pv 5)));(case g226=>(exact pa_nil))))));(case g219=>(exact pe_int))));(case g209=>(exact (fun _ _=>rfl)))));(case g205=>(exact pa_nil))))))));(case g200=>(refine' pa_c ?g227 ?g228;(case g227=>(refine' pe_tupD ?g229;(case g229=>(refine' pa_c ?g230 ?g231;(case g230=>(exact pe_int));(case g231=>(refine' pa_c ?g232 ?g233;(case g232=>(refine' pe_ix ?g234 ?g235 ?g236 ?g237;(case g234=>(exact ix_D));(case g235=>(exact (pv 4)));(case g236=>(exact pe_int));(case g237=>(exact (fun _ _=>rfl)))));(case g233=>(exact pa_nil))))))));(case g228=>(refine' pa_c ?g238 ?g239;(case g238=>(refine' pe_tupD ?g240;(case g240=>(refine' pa_c ?g241 ?g242;(case g241=>(exact pe_int));(case g242=>(refine' pa_c ?g243 ?g244;(case g243=>(refine' pe_ix ?g245 ?g246 ?g247 ?g248;(case g245=>(exact ix_D));(case g246=>(exact (pv 4)));(case g247=>(exact pe_int));(case g248=>(exact (fun _ _=>rfl)))));(case g244=>(exact pa_nil))))))));(case g239=>(exact pa_nil))))))))))))));(case g190=>(refine' pss_cons ?g249 ?g250;(case g249=>(refine' ps_set ?g251 ?g252 ?g253 ?g254;(case g251=>(exact sc_law.nd));(case g252=>(exact (ixAt 8)));(case g253=>(exact (Or.inl rfl)));(case g254=>(refine' pe_cl ?g255 ?g256 ?g257 ?g258 ?g259;(case g255=>(exact C__law_take));(case g256=>(exact hr));(case g257=>(refine' pa_c ?g260 ?g261;(case g260=>(exact (pv 1)));(case g261=>(refine' pa_c ?g262 ?g263;(case g262=>(exact pe_int));(case g263=>(exact pa_nil))))));(case g258=>(exact rfl));(case g259=>(decide))))));(case g250=>(refine' pss_cons ?g264 ?g265;(case g264=>(refine' ps_for ?g266 ?g267 ?g268 ?g269 ?g270;(case g266=>(exact PassesOwn.never));(case g267=>(exact rfl));(case g268=>(refine' pi_range1 ?g271 ?g272 ?g273;(case g271=>(exact rfl));(case g272=>(exact T.b_range));(case g273=>(refine' pa_c ?g274 ?g275;(case g274=>(exact pe_int));(case g275=>(exact pa_nil))))));(case g269=>(refine' pg_name ?g276 ?g277 ?g278 ?g279;(case g276=>(exact sc_law.nd));(case g277=>(exact (ixAt 9)));(case g278=>(exact (Or.inl rfl)));(case g279=>(exact (Or.inl rfl)))));(case g270=>(refine' pss_cons ?g280 ?g281;(case g280=>(refine' ps_set ?g282 ?g283 ?g284 ?g285;(case g282=>(exact sc_law.nd));(case g283=>(exact (ixAt 10)));(case g284=>(exact (Or.inl rfl)));(case g285=>(refine' pe_op ?g286 ?g287 ?g288;(case g286=>(exact op_mod));(case g287=>(refine' pe_op ?g289 ?g290 ?g291;(case g289=>(exact op_add));(case g290=>(exact (pv 8)));(case g291=>(exact (pv 9)))));(case g288=>(exact pe_int))))));(case g281=>(refine' pss_cons ?g292 ?g293;(case g292=>(refine' ps_set ?g294 ?g295 ?g296 ?g297;(case g294=>(exact sc_law.nd));(case g295=>(exact (ixAt 11)));(case g296=>(exact (Or.inl rfl)));(case g297=>(exact pe_non))));(case g293=>(refine' pss_cons ?g298 ?g299;(case g298=>(refine' ps_try ?g300 ?g301 ?g302 ?g303 ?g304 ?g305;(case g300=>(intro _ _;refine' pss_one ?g306;(case g306=>(refine' ps_expr ?g307;(case g307=>(refine' pe_clX ?g308 ?g309 ?g310 ?g311 ?g312 ?g313;(case g308=>(exact xe_tr));(case g309=>(exact C__law_done));(case g310=>(exact hr));(case g311=>(refine' pa_c ?g314 ?g315;(case g314=>(exact (pv 2)));(case g315=>(refine' pa_c ?g316 ?g317;(case g316=>(exact (pv 3)));(case g317=>(refine' pa_c ?g318 ?g319;(case g318=>(exact (pv 4)));(case g319=>(refine' pa_c ?g320 ?g321;(case g320=>(exact (pv 5)));(case g321=>(refine' pa_c ?g322 ?g323;(case g322=>(exact (pv 10)));(case g323=>(exact pa_nil))))))))))));(case g312=>(exact rfl));(case g313=>(decide))))))));(case g301=>(intro _;refine' pss_one ?g324;(case g324=>(refine' ps_set ?g325 ?g326 ?g327 ?g328;(case g325=>(exact sc_law.nd));(case g326=>(exact (ixAt 11)));(case g327=>(exact (Or.inl rfl)));(case g328=>(refine' pe_clH ?g329 ?g330 ?g331 ?g332 ?g333;(case g329=>(exact C__law_told));(case g330=>(exact (Room.mark hr)));(case g331=>(refine' pa_c ?g334 ?g335;(case g334=>(exact (pv 12)));(case g335=>(exact pa_nil))));(case g332=>(exact rfl));(case g333=>(decide))))))));(case g302=>(exact sc_law.nd));(case g303=>(exact (ixAt 12)));(case g304=>(exact T.d_LaneError));(case g305=>(exact T.x_LaneError))));(case g299=>(refine' pss_one ?g336;(case g336=>(refine' ps_if ?g337 ?g338 ?g339;(case g337=>(refine' pt_cmpR ?g340 ?g341 ?g342 ?g343;(case g340=>(exact (op_neD hu)));(case g341=>(exact (pv 11)));(case g342=>(refine' pe_ix ?g344 ?g345 ?g346 ?g347;(case g344=>(exact ix_D));(case g345=>(exact (pv 7)));(case g346=>(exact (pv 10)));(case g347=>(exact (fun _ _=>rfl)))));(case g343=>(exact (nomark _)))));(case g338=>(refine' pss_one ?g348;(case g348=>(refine' ps_ret ?g349;(case g349=>(exact pe_bl))))));(case g339=>(exact pss_nil))))))))))))));(case g265=>(refine' pss_one ?g350;(case g350=>(refine' ps_ret ?g351;(case g351=>(exact pe_bl))))))))))))))))))))
 refine ⟨_,rfl,a,ns,0,rfl,hS,h63,by decide,by decide,fun p n hp=>?_⟩
 obtain ⟨z,ez⟩ : ∃ z : Zn,z = ⟨[p],p,ts⟩:=⟨_,rfl⟩
 have zp : z.p = p:=by rw [ez]
 have zt : z.ts = ts:=by rw [ez]
 have c : Cz z (upd H p (.lst [.int n])):=by
  rw [ez]
  exact ⟨by simp,fun b hb=>⟨[.int n],by rw [List.mem_singleton.mp hb];exact upd_same⟩,⟨n,upd_same⟩,(Ext.new (ex:=[]) hp (.lst [.int n])).tb tb hte⟩
 rw [<- zp]
 rw [<- zp] at c
 generalize upd H z.p (.lst [.int n]) = H1 at c ⊢
 show tSeq _ _ _ [_,_,_,_,_,_,_,_,_,_,_,_,_] _
 refine ⟨_,rfl,z,rfl,c,fun l0 l1 l2 k0 k1 c0 c1 c2 c3 c4 c5 c6 x r H2 S hnk hnc hnm fr=>?_⟩
 have hlen : ∀ y ∈ [l0,l1,l2,k0,k1,c0,c1,c2,c3,c4,c5,c6,x],y.length <= 8:=fun y hy=>(nm_len (hnm y hy)).2
 replace c:=S.cz
 obtain ⟨at_,us,rfl,nat_,hat_,vP,r1,rfl,fP,vS,r2,rfl,fS,vC,r3,rfl,fC,vX,r4,rfl,fX,rfl⟩:=fr
 obtain rfl : vX = .str x:=fX
 refine ⟨_,_,rfl,SqT.of hat_,rfl,_,_,rfl,_,_,rfl,_,_,rfl,_,_,rfl,rfl,?_⟩
 show tSeq _ _ _ [_,_,_,_,_,_,_,_,_,_,_,_,_] _
 refine ⟨_,rfl,z,[.tuple [.tuple [.str l0,.int 1],.tuple [.str l1,.int 2],.tuple [.str l2,.int 1]],.tuple [.tuple [.str k0,.tuple [.int 0,.int 1],.tuple [.int 1,.int 1]],.tuple [.str k1,.tuple [.int 2],.tuple [.int 1]]]],0,.tuple [.tuple [.str l0,.int 1],.tuple [.str l1,.int 2],.tuple [.str l2,.int 1]],.inl fP,rfl,(by decide),rfl,fun vq1a q1a=>?_⟩
 refine ⟨z,[.tuple [.str l0,.int 1],.tuple [.str l1,.int 2],.tuple [.str l2,.int 1]],1,.tuple [.str l1,.int 2],.inl q1a,rfl,(by decide),rfl,fun vq1b q1b=>?_⟩
 refine ⟨z,[.str l1,.int 2],0,.str l1,.inl q1b,rfl,(by decide),rfl,fun vq1 q1=>?_⟩
 obtain rfl : vq1 = .str l1:=q1
 show tSeq _ _ _ [_,_,_,_,_,_,_,_,_,_,_,_,_] _
 refine ⟨_,rfl,z,[.int 0,.str x],⟨_,_,rfl,rfl,_,_,rfl,rfl,rfl⟩,(by show 2 <= 1000;decide),c,fun vb1 Hb1 sb1 d0=>?_⟩
 replace fP:=fP.stp sb1
 replace fS:=fS.stp sb1
 replace fC:=fC.stp sb1
 replace c:=sb1.cz
 replace S:=S.trans sb1
 refine ⟨_,rfl,z,([c0,c1,c2,c3,c4,c5,c6].map PyData.str),0,.str c0,.inr fC,rfl,(by decide),rfl,fun vq2 q2=>?_⟩
 refine ⟨z,[.int 1,.str c0],⟨_,_,rfl,rfl,_,_,rfl,q2,rfl⟩,(by show 2 <= 1000;decide),c,fun vb2 Hb2 sb2 d1=>?_⟩
 replace fP:=fP.stp sb2
 replace fS:=fS.stp sb2
 replace fC:=fC.stp sb2
 replace d0:=d0.stp sb2
 replace q2:=q2.stp sb2
 replace c:=sb2.cz
 replace S:=S.trans sb2
 refine ⟨_,rfl,z,([c0,c1,c2,c3,c4,c5,c6].map PyData.str),2,.str c2,.inr fC,rfl,(by decide),rfl,fun vq3 q3=>?_⟩
 refine ⟨z,[.int 2,.str c2],⟨_,_,rfl,rfl,_,_,rfl,q3,rfl⟩,(by show 2 <= 1000;decide),c,fun vb3 Hb3 sb3 d2=>?_⟩
 replace fP:=fP.stp sb3
 replace fS:=fS.stp sb3
 replace fC:=fC.stp sb3
 replace d0:=d0.stp sb3
 replace d1:=d1.stp sb3
 replace q3:=q3.stp sb3
 replace c:=sb3.cz
 replace S:=S.trans sb3
 refine ⟨_,rfl,z,([c0,c1,c2,c3,c4,c5,c6].map PyData.str),4,.str c4,.inr fC,rfl,(by decide),rfl,fun vq4 q4=>?_⟩
 refine ⟨_,rfl,z,([c0,c1,c2,c3,c4,c5,c6].map PyData.str),5,.str c5,.inr fC,rfl,(by decide),rfl,fun vq5 q5=>?_⟩
 refine ⟨z,[.int 3,.str c4,.str c5],⟨_,_,rfl,rfl,_,_,rfl,q4,_,_,rfl,q5,rfl⟩,(by show 3 <= 1000;decide),c,fun vb4 Hb4 sb4 d3=>?_⟩
 replace fP:=fP.stp sb4
 replace fS:=fS.stp sb4
 replace fC:=fC.stp sb4
 replace d0:=d0.stp sb4
 replace d1:=d1.stp sb4
 replace d2:=d2.stp sb4
 replace q4:=q4.stp sb4
 replace q5:=q5.stp sb4
 replace c:=sb4.cz
 replace S:=S.trans sb4
 refine ⟨z,[.tuple [.int 0,.str x],.tuple [.int 1,.str c0],.tuple [.int 2,.str c2],.tuple [.int 3,.str c4,.str c5]],⟨_,_,rfl,d0,_,_,rfl,d1,_,_,rfl,d2,_,_,rfl,d3,rfl⟩,(by show 4 <= 1000;decide),c,fun vb5 Hb5 sb5 g1=>?_⟩
 replace fP:=fP.stp sb5
 replace fS:=fS.stp sb5
 replace fC:=fC.stp sb5
 replace d0:=d0.stp sb5
 replace d1:=d1.stp sb5
 replace d2:=d2.stp sb5
 replace d3:=d3.stp sb5
 replace c:=sb5.cz
 replace S:=S.trans sb5
 show tSeq _ _ _ [_,_,_,_,_,_,_,_,_,_,_,_,_] _
 refine ⟨_,rfl,_,rfl,z,[.tuple [.tuple [.str l0,.int 1],.tuple [.str l1,.int 2],.tuple [.str l2,.int 1]],.tuple [.tuple [.str k0,.tuple [.int 0,.int 1],.tuple [.int 1,.int 1]],.tuple [.str k1,.tuple [.int 2],.tuple [.int 1]]]],0,.tuple [.tuple [.str l0,.int 1],.tuple [.str l1,.int 2],.tuple [.str l2,.int 1]],.inl fP,rfl,(by decide),rfl,fun vq6a q6a=>?_⟩
 refine ⟨z,[.tuple [.str l0,.int 1],.tuple [.str l1,.int 2],.tuple [.str l2,.int 1]],0,.tuple [.str l0,.int 1],.inl q6a,rfl,(by decide),rfl,fun vq6b q6b=>?_⟩
 refine ⟨z,[.str l0,.int 1],0,.str l0,.inl q6b,rfl,(by decide),rfl,fun vq6 q6=>?_⟩
 refine ⟨z,[.int 4,.str l0,.int 1],⟨_,_,rfl,rfl,_,_,rfl,q6,_,_,rfl,rfl,rfl⟩,(by show 3 <= 1000;decide),c,fun vb6 Hb6 sb6 d4=>?_⟩
 replace fP:=fP.stp sb6
 replace fS:=fS.stp sb6
 replace fC:=fC.stp sb6
 replace g1:=g1.stp sb6
 replace q6:=q6.stp sb6
 replace c:=sb6.cz
 replace S:=S.trans sb6
 refine ⟨_,rfl,_,rfl,z,[.tuple [.tuple [.str l0,.int 1],.tuple [.str l1,.int 2],.tuple [.str l2,.int 1]],.tuple [.tuple [.str k0,.tuple [.int 0,.int 1],.tuple [.int 1,.int 1]],.tuple [.str k1,.tuple [.int 2],.tuple [.int 1]]]],1,.tuple [.tuple [.str k0,.tuple [.int 0,.int 1],.tuple [.int 1,.int 1]],.tuple [.str k1,.tuple [.int 2],.tuple [.int 1]]],.inl fP,rfl,(by decide),rfl,fun vq7a q7a=>?_⟩
 refine ⟨z,[.tuple [.str k0,.tuple [.int 0,.int 1],.tuple [.int 1,.int 1]],.tuple [.str k1,.tuple [.int 2],.tuple [.int 1]]],0,.tuple [.str k0,.tuple [.int 0,.int 1],.tuple [.int 1,.int 1]],.inl q7a,rfl,(by decide),rfl,fun vq7b q7b=>?_⟩
 refine ⟨z,[.str k0,.tuple [.int 0,.int 1],.tuple [.int 1,.int 1]],0,.str k0,.inl q7b,rfl,(by decide),rfl,fun vq7 q7=>?_⟩
 refine ⟨z,[.int 5,.str l1,.str k0,.int 1],⟨_,_,rfl,rfl,_,_,rfl,rfl,_,_,rfl,q7,_,_,rfl,rfl,rfl⟩,(by show 4 <= 1000;decide),c,fun vb7 Hb7 sb7 d5=>?_⟩
 replace fP:=fP.stp sb7
 replace fS:=fS.stp sb7
 replace fC:=fC.stp sb7
 replace g1:=g1.stp sb7
 replace d4:=d4.stp sb7
 replace q7:=q7.stp sb7
 replace c:=sb7.cz
 replace S:=S.trans sb7
 refine ⟨_,rfl,z,([c0,c1,c2,c3,c4,c5,c6].map PyData.str),6,.str c6,.inr fC,rfl,(by decide),rfl,fun vq8 q8=>?_⟩
 refine ⟨z,[.int 6,.str c6],⟨_,_,rfl,rfl,_,_,rfl,q8,rfl⟩,(by show 2 <= 1000;decide),c,fun vb8 Hb8 sb8 d6=>?_⟩
 replace fP:=fP.stp sb8
 replace fS:=fS.stp sb8
 replace fC:=fC.stp sb8
 replace g1:=g1.stp sb8
 replace d4:=d4.stp sb8
 replace d5:=d5.stp sb8
 replace q8:=q8.stp sb8
 replace c:=sb8.cz
 replace S:=S.trans sb8
 refine ⟨z,[.tuple [.int 4,.str l0,.int 1],.tuple [.int 5,.str l1,.str k0,.int 1],.tuple [.int 6,.str c6]],⟨_,_,rfl,d4,_,_,rfl,d5,_,_,rfl,d6,rfl⟩,(by show 3 <= 1000;decide),c,fun vb9 Hb9 sb9 g2=>?_⟩
 replace fP:=fP.stp sb9
 replace fS:=fS.stp sb9
 replace fC:=fC.stp sb9
 replace g1:=g1.stp sb9
 replace d4:=d4.stp sb9
 replace d5:=d5.stp sb9
 replace d6:=d6.stp sb9
 replace c:=sb9.cz
 replace S:=S.trans sb9
 refine ⟨z,[.tuple [.int 0,.str x],.tuple [.int 1,.str c0],.tuple [.int 2,.str c2],.tuple [.int 3,.str c4,.str c5]],[.tuple [.int 4,.str l0,.int 1],.tuple [.int 5,.str l1,.str k0,.int 1],.tuple [.int 6,.str c6]],g1,g2,(by show 7 <= 1000;decide),c,fun vb10 Hb10 sb10 g3=>?_⟩
 replace fP:=fP.stp sb10
 replace fS:=fS.stp sb10
 replace fC:=fC.stp sb10
 replace g1:=g1.stp sb10
 replace g2:=g2.stp sb10
 replace c:=sb10.cz
 replace S:=S.trans sb10
 show tSeq _ _ _ [_,_,_,_,_,_,_,_,_,_,_,_,_] _
 refine ⟨_,rfl,_,rfl,z,[.int (-1),.int 4],⟨_,_,rfl,rfl,_,_,rfl,rfl,rfl⟩,(by show 2 <= 1000;decide),c,fun vb11 Hb11 sb11 w7=>?_⟩
 replace fP:=fP.stp sb11
 replace fS:=fS.stp sb11
 replace fC:=fC.stp sb11
 replace g3:=g3.stp sb11
 replace c:=sb11.cz
 replace S:=S.trans sb11
 have hodd : [PyData.int (-1),.int 4][((((x.length : Nat) : Int) % 2)).toNat]? = some (.int (oddL x)):=by
  unfold oddL
  by_cases h : x.length % 2 = 0
  ·rw [if_pos h,show (((x.length : Nat) : Int) % 2) = 0 by omega];rfl
  ·rw [if_neg h,show (((x.length : Nat) : Int) % 2) = 1 by omega];rfl
 have hxl : x.length <= 1000:=Nat.le_trans (hlen x (by simp)) (by decide)
 refine ⟨_,rfl,x,rfl,line hxl,_,_,rfl,rfl,(by show (0 : Int) < 2;decide),z,[.int (-1),.int 4],_,.int (oddL x),.inr w7,rfl,(by omega),hodd,fun vw8 w8=>?_⟩
 refine ⟨z,[.int 7,.int (oddL x)],⟨_,_,rfl,rfl,_,_,rfl,w8,rfl⟩,(by show 2 <= 1000;decide),c,fun vb12 Hb12 sb12 d7=>?_⟩
 replace fP:=fP.stp sb12
 replace fS:=fS.stp sb12
 replace fC:=fC.stp sb12
 replace g3:=g3.stp sb12
 replace w8:=w8.stp sb12
 replace c:=sb12.cz
 replace S:=S.trans sb12
 refine ⟨_,rfl,z,([c0,c1,c2,c3,c4,c5,c6].map PyData.str),3,.str c3,.inr fC,rfl,(by decide),rfl,fun vq9 q9=>?_⟩
 refine ⟨z,[.int 8,.str c3],⟨_,_,rfl,rfl,_,_,rfl,q9,rfl⟩,(by show 2 <= 1000;decide),c,fun vb13 Hb13 sb13 d8=>?_⟩
 replace fP:=fP.stp sb13
 replace fS:=fS.stp sb13
 replace fC:=fC.stp sb13
 replace g3:=g3.stp sb13
 replace d7:=d7.stp sb13
 replace q9:=q9.stp sb13
 replace c:=sb13.cz
 replace S:=S.trans sb13
 refine ⟨_,rfl,z,([c0,c1,c2,c3,c4,c5,c6].map PyData.str),4,.str c4,.inr fC,rfl,(by decide),rfl,fun vq10 q10=>?_⟩
 refine ⟨z,[.int 9,.str c4],⟨_,_,rfl,rfl,_,_,rfl,q10,rfl⟩,(by show 2 <= 1000;decide),c,fun vb14 Hb14 sb14 d9=>?_⟩
 replace fP:=fP.stp sb14
 replace fS:=fS.stp sb14
 replace fC:=fC.stp sb14
 replace g3:=g3.stp sb14
 replace d7:=d7.stp sb14
 replace d8:=d8.stp sb14
 replace q10:=q10.stp sb14
 replace c:=sb14.cz
 replace S:=S.trans sb14
 refine ⟨z,[.tuple [.int 7,.int (oddL x)],.tuple [.int 8,.str c3],.tuple [.int 9,.str c4]],⟨_,_,rfl,d7,_,_,rfl,d8,_,_,rfl,d9,rfl⟩,(by show 3 <= 1000;decide),c,fun vb15 Hb15 sb15 g4=>?_⟩
 replace fP:=fP.stp sb15
 replace fS:=fS.stp sb15
 replace fC:=fC.stp sb15
 replace g3:=g3.stp sb15
 replace d7:=d7.stp sb15
 replace d8:=d8.stp sb15
 replace d9:=d9.stp sb15
 replace c:=sb15.cz
 replace S:=S.trans sb15
 refine ⟨z,[.tuple [.int 0,.str x],.tuple [.int 1,.str c0],.tuple [.int 2,.str c2],.tuple [.int 3,.str c4,.str c5],.tuple [.int 4,.str l0,.int 1],.tuple [.int 5,.str l1,.str k0,.int 1],.tuple [.int 6,.str c6]],[.tuple [.int 7,.int (oddL x)],.tuple [.int 8,.str c3],.tuple [.int 9,.str c4]],g3,g4,(by show 10 <= 1000;decide),c,fun vb16 Hb16 sb16 g5=>?_⟩
 replace fP:=fP.stp sb16
 replace fS:=fS.stp sb16
 replace fC:=fC.stp sb16
 replace g3:=g3.stp sb16
 replace g4:=g4.stp sb16
 replace c:=sb16.cz
 replace S:=S.trans sb16
 show tSeq _ _ _ [_,_,_,_,_,_,_,_,_,_,_,_,_] _
 refine ⟨_,rfl,z,10,rfl,c,(by decide),(by decide),fun tn Hb17 tn0 tn1 sb17=>?_⟩
 replace fP:=fP.stp sb17
 replace fS:=fS.stp sb17
 replace fC:=fC.stp sb17
 replace g5:=g5.stp sb17
 replace c:=sb17.cz
 replace S:=S.trans sb17
 show tSeq _ _ _ [_,_,_,_,_,_,_,_,_,_,_,_,_] _
 replace g5 : IsD z.ex Hb17 (.list (dueD l0 l1 k0 c0 c2 c3 c4 c5 c6 x)) vb16:=g5
 have U:=un_of (x:=x) (show k0 ≠ k1 from fun z=>by
  have h : [k0,k1].Nodup:=hnk.sublist (List.sublist_append_right [l0,l1,l2] [k0,k1])
  rw [z] at h
  simp at h) hnc
 have lP:=IsD.less (ex':=[]) (by simp) fP
 have lS:=IsD.less (ex':=[]) (by simp) fS
 have lC:=IsD.less (ex':=[]) (by simp) fC
 have lD:=IsD.less (ex':=[]) (by simp) g5
 have tb3 : Tb ts Hb17:=zt ▸ c.tb
 clear fP fS fC g5 hat_ hS
 refine ⟨10,rfl,by decide,by decide,for_range (n:=10) (fun i σ H4=>∃ (x9 x10 x11 : Option V),σ = [some (V.ref a),some (V.ref z.p),some vP,some vS,some vC,some (V.str x),some (V.str l1),some vb16,some (V.int tn),x9,x10,x11,none]/\Ext [] Hb17 H4) ⟨none,none,none,rfl,Ext.refl⟩ ?_ ?_⟩
 ·rintro i σ H4 hi ⟨x9,x10,x11,rfl,e4⟩
  have hjd : ∃ j : Nat,(tn + (0 + (i : Int))) % 10 = (j : Int)/\j < 10:=⟨((tn + (0 + (i : Int))) % 10).toNat,by omega,by omega⟩
  obtain ⟨j,ej,hj⟩:=hjd
  refine ⟨_,rfl,_,rfl,_,_,rfl,rfl,_,_,rfl,rfl,by show (0 : Int) < 10;decide,?_⟩
  show gName 10 (V.int ((tn + (0 + (i : Int))) % 10)) _ _ _
  rw [ej]
  have hCj : j < (CsOf k CL CP CW).length:=hj
  refine ⟨_,rfl,_,rfl,_,rfl,_,rfl,_,rfl,l0,l1,l2,k0,k1,c0,c1,c2,c3,c4,c5,c6,x,vP,vS,vC,j,(CsOf k CL CP CW)[j],rfl,U,hlen,IsD.ext e4 lP,IsD.ext e4 lS,IsD.ext e4 lC,e4.tb tb3 hte,hj,List.getElem?_eq_getElem hCj,fun ex dx H5 e5 he5 hdx5 e' C' h1 h2=>?_⟩
  cases h1
  obtain ⟨rfl,_⟩:=excO_inj (Option.some.inj (he5.symm.trans h2))
  refine ⟨Xm _ (List.getElem_mem hCj),?_⟩
  refine ⟨_,rfl,ex,j,_,dx,_,_,rfl,hj,List.getElem?_eq_getElem hCj,he5,hdx5,us_len hj,us_is hj,fun u H6 e6 fu=>?_⟩
  have e46:=(e4.trans e5).trans e6
  have lD6:=IsD.ext e46 lD
  have sh:=due_sh hnm hj
  refine ⟨_,rfl,_,rfl,_,rfl,⟨[],z.p,[]⟩,_,_,_,.inr lD6,rfl,by omega,due_at (j:=j) hj,fun v (fv : IsD [] _ (.tuple (.int j :: dsOf l0 l1 k0 c0 c2 c3 c4 c5 c6 x j)) v)=>?_⟩
  refine ⟨_,(.tuple (.int j :: dsOf l0 l1 k0 c0 c2 c3 c4 c5 c6 x j)),fu,fv,sh.shaped,sh.shaped,false,congrArg (fun b=>V.bl (!b)) sh.refl,_,_,_,rfl,e46⟩
 ·rintro σ H4 ⟨x9,x10,x11,rfl,e4⟩
  exact q H4
end
end K12
end

section
set_option Elab.async false
set_option linter.all false
set_option maxRecDepth 100000
set_option maxHeartbeats 4000000
namespace K12
open PySem L2 PyProof.Rows
abbrev gnames : List Str:=["with_card","without_waits"]
abbrev ixs : List Nat:=[0,1,2,3,4,5,6,7,8,9]
theorem ixs_mem {i : Nat} (h : i < 10) : i ∈ ixs:=by
 have : i = 0\/i = 1\/i = 2\/i = 3\/i = 4\/i = 5\/i = 6\/i = 7\/i = 8\/i = 9:=by omega
 rcases this with rfl | rfl | rfl | rfl | rfl | rfl | rfl | rfl | rfl | rfl <;> decide
def kitAt (K : PySem.W.Frag) (Cs : List Addr) (i j : Nat) : Bool:=match Cs[i]?,Cs[j]? with
 | some C,some D=>PySem.W.kitOne K (.ref C) (.ref D) == some (i == j)
 | _,_=>true
def attAt (K : PySem.W.Frag) (Cs : List Addr) (i : Nat) : Bool:=match Cs[i]? with
 | some C=>(fldN i).all fun f=>attrIn K C f
 | none=>true
theorem xc_mk {K : PySem.W.Frag} {Cs : List Addr} (len : Cs.length = 10) (h1 : Cs.all (fun C=>kindIn K C && PySem.W.kitOne K (.ref C) (.type "ValueError") == some true) = true) (h2 : ixs.all (fun i=>ixs.all fun j=>kitAt K Cs i j) = true) (h3 : ixs.all (fun i=>attAt K Cs i) = true) : XcT K Cs:=by
 have lt {i : Nat} {C : Addr} (h : Cs[i]? = some C) : i < 10:=len ▸ (List.getElem?_eq_some_iff.mp h).1
 have g (C : Addr) (hC : C ∈ Cs):=List.all_eq_true.mp h1 C hC
 refine ⟨len,fun C hC=>?_,fun i j C D hi hj=>?_,fun C hC=>?_,fun i C f hi hf=>?_⟩
 ·have:=g C hC
  rw [Bool.and_eq_true] at this
  exact this.1
 ·have h:=List.all_eq_true.mp (List.all_eq_true.mp h2 i (ixs_mem (lt hi))) j (ixs_mem (lt hj))
  unfold kitAt at h
  rw [hi,hj] at h
  exact eq_of_beq h
 ·have:=g C hC
  rw [Bool.and_eq_true] at this
  exact eq_of_beq this.2
 ·have h:=List.all_eq_true.mp h3 i (ixs_mem (lt hi))
  unfold attAt at h
  rw [hi] at h
  exact List.all_eq_true.mp h f hf
theorem all_mk {l : PySem.W.OpenLaw} {w : World} {K : PySem.W.Frag} {h : Heap} {mg : Str->Option Value} {fa : Addr} (X : K.In h) (G : h.Ns mainGlobals mg) (hfa : mg "law" = some (.ref fa))
  {t0 : Tok}
  {f0 : Addr} {od0 an0 : Option Addr} {sl0 : Array (Option Value)} {oc0 kV0 dc0 pm0 ct0 cd0 : Value}
  (a0 : PySem.W.nsIn K mainGlobals "kind_of" = some (some (.ref f0))) (l0 : K.lookup f0 = some ⟨oc0,od0,.func (PySem.W.fnOf "kind_of" "kind_of" (defArgs s_kind_of) (defBody s_kind_of) (defScope s_kind_of) .none kV0 dc0 pm0 an0 cd0 ct0),sl0⟩) (c0 : PySem.W.codeIn K cd0 "kind_of" = true) (k0 : PySem.W.keepIn K (.ref f0) = true)
  {f1 : Addr} {od1 an1 : Option Addr} {sl1 : Array (Option Value)} {oc1 kV1 dc1 pm1 ct1 cd1 : Value}
  (a1 : PySem.W.nsIn K mainGlobals "way_of" = some (some (.ref f1))) (l1 : K.lookup f1 = some ⟨oc1,od1,.func (PySem.W.fnOf "way_of" "way_of" (defArgs s_way_of) (defBody s_way_of) (defScope s_way_of) .none kV1 dc1 pm1 an1 cd1 ct1),sl1⟩) (c1 : PySem.W.codeIn K cd1 "way_of" = true) (k1 : PySem.W.keepIn K (.ref f1) = true)
  {f2 : Addr} {od2 an2 : Option Addr} {sl2 : Array (Option Value)} {oc2 kV2 dc2 pm2 ct2 cd2 : Value}
  (a2 : PySem.W.nsIn K mainGlobals "lane_at" = some (some (.ref f2))) (l2 : K.lookup f2 = some ⟨oc2,od2,.func (PySem.W.fnOf "lane_at" "lane_at" (defArgs s_lane_at) (defBody s_lane_at) (defScope s_lane_at) .none kV2 dc2 pm2 an2 cd2 ct2),sl2⟩) (c2 : PySem.W.codeIn K cd2 "lane_at" = true) (k2 : PySem.W.keepIn K (.ref f2) = true)
  {f3 : Addr} {od3 an3 : Option Addr} {sl3 : Array (Option Value)} {oc3 kV3 dc3 pm3 ct3 cd3 : Value}
  (a3 : PySem.W.nsIn K mainGlobals "card_of" = some (some (.ref f3))) (l3 : K.lookup f3 = some ⟨oc3,od3,.func (PySem.W.fnOf "card_of" "card_of" (defArgs s_card_of) (defBody s_card_of) (defScope s_card_of) .none kV3 dc3 pm3 an3 cd3 ct3),sl3⟩) (c3 : PySem.W.codeIn K cd3 "card_of" = true) (k3 : PySem.W.keepIn K (.ref f3) = true)
  {f4 : Addr} {od4 an4 : Option Addr} {sl4 : Array (Option Value)} {oc4 kV4 dc4 pm4 ct4 cd4 : Value}
  (a4 : PySem.W.nsIn K mainGlobals "lane_of" = some (some (.ref f4))) (l4 : K.lookup f4 = some ⟨oc4,od4,.func (PySem.W.fnOf "lane_of" "lane_of" (defArgs s_lane_of) (defBody s_lane_of) (defScope s_lane_of) .none kV4 dc4 pm4 an4 cd4 ct4),sl4⟩) (c4 : PySem.W.codeIn K cd4 "lane_of" = true) (k4 : PySem.W.keepIn K (.ref f4) = true)
  {f5 : Addr} {od5 an5 : Option Addr} {sl5 : Array (Option Value)} {oc5 kV5 dc5 pm5 ct5 cd5 : Value}
  (a5 : PySem.W.nsIn K mainGlobals "is_out" = some (some (.ref f5))) (l5 : K.lookup f5 = some ⟨oc5,od5,.func (PySem.W.fnOf "is_out" "is_out" (defArgs s_is_out) (defBody s_is_out) (defScope s_is_out) .none kV5 dc5 pm5 an5 cd5 ct5),sl5⟩) (c5 : PySem.W.codeIn K cd5 "is_out" = true) (k5 : PySem.W.keepIn K (.ref f5) = true)
  {f6 : Addr} {od6 an6 : Option Addr} {sl6 : Array (Option Value)} {oc6 kV6 dc6 pm6 ct6 cd6 : Value}
  (a6 : PySem.W.nsIn K mainGlobals "cards_in" = some (some (.ref f6))) (l6 : K.lookup f6 = some ⟨oc6,od6,.func (PySem.W.fnOf "cards_in" "cards_in" (defArgs s_cards_in) (defBody s_cards_in) (defScope s_cards_in) .none kV6 dc6 pm6 an6 cd6 ct6),sl6⟩) (c6 : PySem.W.codeIn K cd6 "cards_in" = true) (k6 : PySem.W.keepIn K (.ref f6) = true)
  {f7 : Addr} {od7 an7 : Option Addr} {sl7 : Array (Option Value)} {oc7 kV7 dc7 pm7 ct7 cd7 : Value}
  (a7 : PySem.W.nsIn K mainGlobals "many_of" = some (some (.ref f7))) (l7 : K.lookup f7 = some ⟨oc7,od7,.func (PySem.W.fnOf "many_of" "many_of" (defArgs s_many_of) (defBody s_many_of) (defScope s_many_of) .none kV7 dc7 pm7 an7 cd7 ct7),sl7⟩) (c7 : PySem.W.codeIn K cd7 "many_of" = true) (k7 : PySem.W.keepIn K (.ref f7) = true)
  {f8 : Addr} {od8 an8 : Option Addr} {sl8 : Array (Option Value)} {oc8 kV8 dc8 pm8 ct8 cd8 : Value}
  (a8 : PySem.W.nsIn K mainGlobals "kind_bound" = some (some (.ref f8))) (l8 : K.lookup f8 = some ⟨oc8,od8,.func (PySem.W.fnOf "kind_bound" "kind_bound" (defArgs s_kind_bound) (defBody s_kind_bound) (defScope s_kind_bound) .none kV8 dc8 pm8 an8 cd8 ct8),sl8⟩) (c8 : PySem.W.codeIn K cd8 "kind_bound" = true) (k8 : PySem.W.keepIn K (.ref f8) = true)
  {f9 : Addr} {od9 an9 : Option Addr} {sl9 : Array (Option Value)} {oc9 kV9 dc9 pm9 ct9 cd9 : Value}
  (a9 : PySem.W.nsIn K mainGlobals "may_wait_at" = some (some (.ref f9))) (l9 : K.lookup f9 = some ⟨oc9,od9,.func (PySem.W.fnOf "may_wait_at" "may_wait_at" (defArgs s_may_wait_at) (defBody s_may_wait_at) (defScope s_may_wait_at) .none kV9 dc9 pm9 an9 cd9 ct9),sl9⟩) (c9 : PySem.W.codeIn K cd9 "may_wait_at" = true) (k9 : PySem.W.keepIn K (.ref f9) = true)
  {f10 : Addr} {od10 an10 : Option Addr} {sl10 : Array (Option Value)} {oc10 kV10 dc10 pm10 ct10 cd10 : Value}
  (a10 : PySem.W.nsIn K mainGlobals "holds" = some (some (.ref f10))) (l10 : K.lookup f10 = some ⟨oc10,od10,.func (PySem.W.fnOf "holds" "holds" (defArgs s_holds) (defBody s_holds) (defScope s_holds) .none kV10 dc10 pm10 an10 cd10 ct10),sl10⟩) (c10 : PySem.W.codeIn K cd10 "holds" = true) (k10 : PySem.W.keepIn K (.ref f10) = true)
  {f11 : Addr} {od11 an11 : Option Addr} {sl11 : Array (Option Value)} {oc11 kV11 dc11 pm11 ct11 cd11 : Value}
  (a11 : PySem.W.nsIn K mainGlobals "card_that_can_move" = some (some (.ref f11))) (l11 : K.lookup f11 = some ⟨oc11,od11,.func (PySem.W.fnOf "card_that_can_move" "card_that_can_move" (defArgs s_card_that_can_move) (defBody s_card_that_can_move) (defScope s_card_that_can_move) .none kV11 dc11 pm11 an11 cd11 ct11),sl11⟩) (c11 : PySem.W.codeIn K cd11 "card_that_can_move" = true) (k11 : PySem.W.keepIn K (.ref f11) = true)
  {f12 : Addr} {od12 an12 : Option Addr} {sl12 : Array (Option Value)} {oc12 kV12 dc12 pm12 ct12 cd12 : Value}
  (a12 : PySem.W.nsIn K mainGlobals "refuse_if_it_waits" = some (some (.ref f12))) (l12 : K.lookup f12 = some ⟨oc12,od12,.func (PySem.W.fnOf "refuse_if_it_waits" "refuse_if_it_waits" (defArgs s_refuse_if_it_waits) (defBody s_refuse_if_it_waits) (defScope s_refuse_if_it_waits) .none kV12 dc12 pm12 an12 cd12 ct12),sl12⟩) (c12 : PySem.W.codeIn K cd12 "refuse_if_it_waits" = true) (k12 : PySem.W.keepIn K (.ref f12) = true)
  {f13 : Addr} {od13 an13 : Option Addr} {sl13 : Array (Option Value)} {oc13 kV13 dc13 pm13 ct13 cd13 : Value}
  (a13 : PySem.W.nsIn K mainGlobals "refuse_if_full" = some (some (.ref f13))) (l13 : K.lookup f13 = some ⟨oc13,od13,.func (PySem.W.fnOf "refuse_if_full" "refuse_if_full" (defArgs s_refuse_if_full) (defBody s_refuse_if_full) (defScope s_refuse_if_full) .none kV13 dc13 pm13 an13 cd13 ct13),sl13⟩) (c13 : PySem.W.codeIn K cd13 "refuse_if_full" = true) (k13 : PySem.W.keepIn K (.ref f13) = true)
  {f14 : Addr} {od14 an14 : Option Addr} {sl14 : Array (Option Value)} {oc14 kV14 dc14 pm14 ct14 : Value} {cx14 tp14 : Addr} {cc14 : Value} {cdd14 : Option Addr} {vs14 : Array Value} {csl14 : Array (Option Value)}
  (a14 : PySem.W.nsIn K mainGlobals "with_card" = some (some (.ref f14))) (l14 : K.lookup f14 = some ⟨oc14,od14,.func (PySem.W.fnOf "with_card" "with_card" (defArgs s_with_card) (defBody s_with_card) (defScope s_with_card) .none kV14 dc14 pm14 an14 (.ref cx14) ct14),sl14⟩) (c14 : PySem.W.codeIn K (.ref cx14) "with_card" = true) (k14 : PySem.W.keepIn K (.ref f14) = true)
  (lc14 : K.lookup cx14 = some ⟨cc14,cdd14,.fields vs14,csl14⟩) (h1114 : (vs14[11]? : Option Value) = some (.ref tp14)) (tI14 : PySem.W.tabIn K "with_card" = some (cx14,tp14)) (hd14 : PySem.W.codeHdIn K cx14 tp14 = true)
  {f15 : Addr} {od15 an15 : Option Addr} {sl15 : Array (Option Value)} {oc15 kV15 dc15 pm15 ct15 cd15 : Value}
  (a15 : PySem.W.nsIn K mainGlobals "pulled" = some (some (.ref f15))) (l15 : K.lookup f15 = some ⟨oc15,od15,.func (PySem.W.fnOf "pulled" "pulled" (defArgs s_pulled) (defBody s_pulled) (defScope s_pulled) .none kV15 dc15 pm15 an15 cd15 ct15),sl15⟩) (c15 : PySem.W.codeIn K cd15 "pulled" = true) (k15 : PySem.W.keepIn K (.ref f15) = true)
  {f16 : Addr} {od16 an16 : Option Addr} {sl16 : Array (Option Value)} {oc16 kV16 dc16 pm16 ct16 cd16 : Value}
  (a16 : PySem.W.nsIn K mainGlobals "put_back" = some (some (.ref f16))) (l16 : K.lookup f16 = some ⟨oc16,od16,.func (PySem.W.fnOf "put_back" "put_back" (defArgs s_put_back) (defBody s_put_back) (defScope s_put_back) .none kV16 dc16 pm16 an16 cd16 ct16),sl16⟩) (c16 : PySem.W.codeIn K cd16 "put_back" = true) (k16 : PySem.W.keepIn K (.ref f16) = true)
  {f17 : Addr} {od17 an17 : Option Addr} {sl17 : Array (Option Value)} {oc17 kV17 dc17 pm17 ct17 : Value} {cx17 tp17 : Addr} {cc17 : Value} {cdd17 : Option Addr} {vs17 : Array Value} {csl17 : Array (Option Value)}
  (a17 : PySem.W.nsIn K mainGlobals "without_waits" = some (some (.ref f17))) (l17 : K.lookup f17 = some ⟨oc17,od17,.func (PySem.W.fnOf "without_waits" "without_waits" (defArgs s_without_waits) (defBody s_without_waits) (defScope s_without_waits) .none kV17 dc17 pm17 an17 (.ref cx17) ct17),sl17⟩) (c17 : PySem.W.codeIn K (.ref cx17) "without_waits" = true) (k17 : PySem.W.keepIn K (.ref f17) = true)
  (lc17 : K.lookup cx17 = some ⟨cc17,cdd17,.fields vs17,csl17⟩) (h1117 : (vs17[11]? : Option Value) = some (.ref tp17)) (tI17 : PySem.W.tabIn K "without_waits" = some (cx17,tp17)) (hd17 : PySem.W.codeHdIn K cx17 tp17 = true)
  {f18 : Addr} {od18 an18 : Option Addr} {sl18 : Array (Option Value)} {oc18 kV18 dc18 pm18 ct18 cd18 : Value}
  (a18 : PySem.W.nsIn K mainGlobals "with_wait" = some (some (.ref f18))) (l18 : K.lookup f18 = some ⟨oc18,od18,.func (PySem.W.fnOf "with_wait" "with_wait" (defArgs s_with_wait) (defBody s_with_wait) (defScope s_with_wait) .none kV18 dc18 pm18 an18 cd18 ct18),sl18⟩) (c18 : PySem.W.codeIn K cd18 "with_wait" = true) (k18 : PySem.W.keepIn K (.ref f18) = true)
  {f19 : Addr} {od19 an19 : Option Addr} {sl19 : Array (Option Value)} {oc19 kV19 dc19 pm19 ct19 cd19 : Value}
  (a19 : PySem.W.nsIn K mainGlobals "_law_take" = some (some (.ref f19))) (l19 : K.lookup f19 = some ⟨oc19,od19,.func (PySem.W.fnOf "_law_take" "_law_take" (defArgs s__law_take) (defBody s__law_take) (defScope s__law_take) .none kV19 dc19 pm19 an19 cd19 ct19),sl19⟩) (c19 : PySem.W.codeIn K cd19 "_law_take" = true) (k19 : PySem.W.keepIn K (.ref f19) = true)
  {f20 : Addr} {od20 an20 : Option Addr} {sl20 : Array (Option Value)} {oc20 kV20 dc20 pm20 ct20 cd20 : Value}
  (a20 : PySem.W.nsIn K mainGlobals "_law_digits" = some (some (.ref f20))) (l20 : K.lookup f20 = some ⟨oc20,od20,.func (PySem.W.fnOf "_law_digits" "_law_digits" (defArgs s__law_digits) (defBody s__law_digits) (defScope s__law_digits) .none kV20 dc20 pm20 an20 cd20 ct20),sl20⟩) (c20 : PySem.W.codeIn K cd20 "_law_digits" = true) (k20 : PySem.W.keepIn K (.ref f20) = true)
  {f21 : Addr} {od21 an21 : Option Addr} {sl21 : Array (Option Value)} {oc21 kV21 dc21 pm21 ct21 cd21 : Value}
  (a21 : PySem.W.nsIn K mainGlobals "_law_words" = some (some (.ref f21))) (l21 : K.lookup f21 = some ⟨oc21,od21,.func (PySem.W.fnOf "_law_words" "_law_words" (defArgs s__law_words) (defBody s__law_words) (defScope s__law_words) .none kV21 dc21 pm21 an21 cd21 ct21),sl21⟩) (c21 : PySem.W.codeIn K cd21 "_law_words" = true) (k21 : PySem.W.keepIn K (.ref f21) = true)
  {f22 : Addr} {od22 an22 : Option Addr} {sl22 : Array (Option Value)} {oc22 kV22 dc22 pm22 ct22 cd22 : Value}
  (a22 : PySem.W.nsIn K mainGlobals "_law_board" = some (some (.ref f22))) (l22 : K.lookup f22 = some ⟨oc22,od22,.func (PySem.W.fnOf "_law_board" "_law_board" (defArgs s__law_board) (defBody s__law_board) (defScope s__law_board) .none kV22 dc22 pm22 an22 cd22 ct22),sl22⟩) (c22 : PySem.W.codeIn K cd22 "_law_board" = true) (k22 : PySem.W.keepIn K (.ref f22) = true)
  {f23 : Addr} {od23 an23 : Option Addr} {sl23 : Array (Option Value)} {oc23 kV23 dc23 pm23 ct23 cd23 : Value}
  (a23 : PySem.W.nsIn K mainGlobals "_law_told" = some (some (.ref f23))) (l23 : K.lookup f23 = some ⟨oc23,od23,.func (PySem.W.fnOf "_law_told" "_law_told" (defArgs s__law_told) (defBody s__law_told) (defScope s__law_told) .none kV23 dc23 pm23 an23 cd23 ct23),sl23⟩) (c23 : PySem.W.codeIn K cd23 "_law_told" = true) (k23 : PySem.W.keepIn K (.ref f23) = true)
  {f24 : Addr} {od24 an24 : Option Addr} {sl24 : Array (Option Value)} {oc24 kV24 dc24 pm24 ct24 cd24 : Value}
  (a24 : PySem.W.nsIn K mainGlobals "_law_done" = some (some (.ref f24))) (l24 : K.lookup f24 = some ⟨oc24,od24,.func (PySem.W.fnOf "_law_done" "_law_done" (defArgs s__law_done) (defBody s__law_done) (defScope s__law_done) .none kV24 dc24 pm24 an24 cd24 ct24),sl24⟩) (c24 : PySem.W.codeIn K cd24 "_law_done" = true) (k24 : PySem.W.keepIn K (.ref f24) = true)
  {f25 : Addr} {od25 an25 : Option Addr} {sl25 : Array (Option Value)} {oc25 kV25 dc25 pm25 ct25 cd25 : Value}
  (a25 : PySem.W.nsIn K mainGlobals "law" = some (some (.ref f25))) (l25 : K.lookup f25 = some ⟨oc25,od25,.func (PySem.W.fnOf "law" "law" (defArgs s_law) (defBody s_law) (defScope s_law) .none kV25 dc25 pm25 an25 cd25 ct25),sl25⟩) (c25 : PySem.W.codeIn K cd25 "law" = true) (k25 : PySem.W.keepIn K (.ref f25) = true)
  {CE CC CK CL CX CO CB CY CP CW CF CQ : Addr}
  (qE : PySem.W.nsIn K mainGlobals "LaneError" = some (some (.ref CE)))
  (qC : PySem.W.nsIn K mainGlobals "NoCard" = some (some (.ref CC)))
  (qK : PySem.W.nsIn K mainGlobals "NoKind" = some (some (.ref CK)))
  (qL : PySem.W.nsIn K mainGlobals "NoLane" = some (some (.ref CL)))
  (qX : PySem.W.nsIn K mainGlobals "NoWait" = some (some (.ref CX)))
  (qO : PySem.W.nsIn K mainGlobals "Out" = some (some (.ref CO)))
  (qB : PySem.W.nsIn K mainGlobals "Blocked" = some (some (.ref CB)))
  (qY : PySem.W.nsIn K mainGlobals "InYard" = some (some (.ref CY)))
  (qP : PySem.W.nsIn K mainGlobals "Past" = some (some (.ref CP)))
  (qW : PySem.W.nsIn K mainGlobals "Waits" = some (some (.ref CW)))
  (qF : PySem.W.nsIn K mainGlobals "Full" = some (some (.ref CF)))
  (qQ : PySem.W.nsIn K mainGlobals "KindFull" = some (some (.ref CQ)))
  {fiC caC ccC : Addr} {oiC kiC diC piC tiC : Value} {odC aiC : Option Addr} {siC : Array (Option Value)} {clC : Value} {cdC : Option Addr} {cvC : Array Value} {csC : Array (Option Value)} {fxC : Str} {txC : Tok} {elC : Value} {edC : Option Addr} {esC : Array (Option Value)}
  (inC : PySem.W.findIn K (.ref CC) "__init__" = some (some (.ref fiC))) (lfC : K.lookup fiC = some ⟨oiC,odC,.func (PySem.W.ksFn "__init__" "NoCard.__init__" (defArgs s_NoCard) (defBody s_NoCard) (defScope s_NoCard) .none kiC diC piC aiC (.ref caC) tiC ccC),siC⟩) (coC : PySem.W.codeIn K (.ref caC) "NoCard.__init__" = true) (lkC : K.lookup caC = some ⟨clC,cdC,.fields cvC,csC⟩) (hvC : (cvC[2]? : Option Value) = some (.str fxC txC)) (hfC : ((l.prog.main.file : Str) == fxC) = true) (leC : K.lookup ccC = some ⟨elC,edC,.cell (some (.ref CC)),esC⟩) (fnC : PySem.W.isFn K (.ref fiC) = true) (kpC : PySem.W.keepIn K (.ref CC) = true) (mkC : excMkIn K CC = true) (alC : excAll K CC = true) (atC0 : attrIn K CC "card" = true) (rsC : raisesIn K CC = true)
  {fiK caK ccK : Addr} {oiK kiK diK piK tiK : Value} {odK aiK : Option Addr} {siK : Array (Option Value)} {clK : Value} {cdK : Option Addr} {cvK : Array Value} {csK : Array (Option Value)} {fxK : Str} {txK : Tok} {elK : Value} {edK : Option Addr} {esK : Array (Option Value)}
  (inK : PySem.W.findIn K (.ref CK) "__init__" = some (some (.ref fiK))) (lfK : K.lookup fiK = some ⟨oiK,odK,.func (PySem.W.ksFn "__init__" "NoKind.__init__" (defArgs s_NoKind) (defBody s_NoKind) (defScope s_NoKind) .none kiK diK piK aiK (.ref caK) tiK ccK),siK⟩) (coK : PySem.W.codeIn K (.ref caK) "NoKind.__init__" = true) (lkK : K.lookup caK = some ⟨clK,cdK,.fields cvK,csK⟩) (hvK : (cvK[2]? : Option Value) = some (.str fxK txK)) (hfK : ((l.prog.main.file : Str) == fxK) = true) (leK : K.lookup ccK = some ⟨elK,edK,.cell (some (.ref CK)),esK⟩) (fnK : PySem.W.isFn K (.ref fiK) = true) (kpK : PySem.W.keepIn K (.ref CK) = true) (mkK : excMkIn K CK = true) (alK : excAll K CK = true) (atK0 : attrIn K CK "kind" = true) (rsK : raisesIn K CK = true)
  {fiL caL ccL : Addr} {oiL kiL diL piL tiL : Value} {odL aiL : Option Addr} {siL : Array (Option Value)} {clL : Value} {cdL : Option Addr} {cvL : Array Value} {csL : Array (Option Value)} {fxL : Str} {txL : Tok} {elL : Value} {edL : Option Addr} {esL : Array (Option Value)}
  (inL : PySem.W.findIn K (.ref CL) "__init__" = some (some (.ref fiL))) (lfL : K.lookup fiL = some ⟨oiL,odL,.func (PySem.W.ksFn "__init__" "NoLane.__init__" (defArgs s_NoLane) (defBody s_NoLane) (defScope s_NoLane) .none kiL diL piL aiL (.ref caL) tiL ccL),siL⟩) (coL : PySem.W.codeIn K (.ref caL) "NoLane.__init__" = true) (lkL : K.lookup caL = some ⟨clL,cdL,.fields cvL,csL⟩) (hvL : (cvL[2]? : Option Value) = some (.str fxL txL)) (hfL : ((l.prog.main.file : Str) == fxL) = true) (leL : K.lookup ccL = some ⟨elL,edL,.cell (some (.ref CL)),esL⟩) (fnL : PySem.W.isFn K (.ref fiL) = true) (kpL : PySem.W.keepIn K (.ref CL) = true) (mkL : excMkIn K CL = true) (alL : excAll K CL = true) (atL0 : attrIn K CL "lane" = true) (rsL : raisesIn K CL = true)
  {fiX caX ccX : Addr} {oiX kiX diX piX tiX : Value} {odX aiX : Option Addr} {siX : Array (Option Value)} {clX : Value} {cdX : Option Addr} {cvX : Array Value} {csX : Array (Option Value)} {fxX : Str} {txX : Tok} {elX : Value} {edX : Option Addr} {esX : Array (Option Value)}
  (inX : PySem.W.findIn K (.ref CX) "__init__" = some (some (.ref fiX))) (lfX : K.lookup fiX = some ⟨oiX,odX,.func (PySem.W.ksFn "__init__" "NoWait.__init__" (defArgs s_NoWait) (defBody s_NoWait) (defScope s_NoWait) .none kiX diX piX aiX (.ref caX) tiX ccX),siX⟩) (coX : PySem.W.codeIn K (.ref caX) "NoWait.__init__" = true) (lkX : K.lookup caX = some ⟨clX,cdX,.fields cvX,csX⟩) (hvX : (cvX[2]? : Option Value) = some (.str fxX txX)) (hfX : ((l.prog.main.file : Str) == fxX) = true) (leX : K.lookup ccX = some ⟨elX,edX,.cell (some (.ref CX)),esX⟩) (fnX : PySem.W.isFn K (.ref fiX) = true) (kpX : PySem.W.keepIn K (.ref CX) = true) (mkX : excMkIn K CX = true) (alX : excAll K CX = true) (atX0 : attrIn K CX "card" = true) (rsX : raisesIn K CX = true)
  {fiO caO ccO : Addr} {oiO kiO diO piO tiO : Value} {odO aiO : Option Addr} {siO : Array (Option Value)} {clO : Value} {cdO : Option Addr} {cvO : Array Value} {csO : Array (Option Value)} {fxO : Str} {txO : Tok} {elO : Value} {edO : Option Addr} {esO : Array (Option Value)}
  (inO : PySem.W.findIn K (.ref CO) "__init__" = some (some (.ref fiO))) (lfO : K.lookup fiO = some ⟨oiO,odO,.func (PySem.W.ksFn "__init__" "Out.__init__" (defArgs s_Out) (defBody s_Out) (defScope s_Out) .none kiO diO piO aiO (.ref caO) tiO ccO),siO⟩) (coO : PySem.W.codeIn K (.ref caO) "Out.__init__" = true) (lkO : K.lookup caO = some ⟨clO,cdO,.fields cvO,csO⟩) (hvO : (cvO[2]? : Option Value) = some (.str fxO txO)) (hfO : ((l.prog.main.file : Str) == fxO) = true) (leO : K.lookup ccO = some ⟨elO,edO,.cell (some (.ref CO)),esO⟩) (fnO : PySem.W.isFn K (.ref fiO) = true) (kpO : PySem.W.keepIn K (.ref CO) = true) (mkO : excMkIn K CO = true) (alO : excAll K CO = true) (atO0 : attrIn K CO "card" = true) (rsO : raisesIn K CO = true)
  {fiB caB ccB : Addr} {oiB kiB diB piB tiB : Value} {odB aiB : Option Addr} {siB : Array (Option Value)} {clB : Value} {cdB : Option Addr} {cvB : Array Value} {csB : Array (Option Value)} {fxB : Str} {txB : Tok} {elB : Value} {edB : Option Addr} {esB : Array (Option Value)}
  (inB : PySem.W.findIn K (.ref CB) "__init__" = some (some (.ref fiB))) (lfB : K.lookup fiB = some ⟨oiB,odB,.func (PySem.W.ksFn "__init__" "Blocked.__init__" (defArgs s_Blocked) (defBody s_Blocked) (defScope s_Blocked) .none kiB diB piB aiB (.ref caB) tiB ccB),siB⟩) (coB : PySem.W.codeIn K (.ref caB) "Blocked.__init__" = true) (lkB : K.lookup caB = some ⟨clB,cdB,.fields cvB,csB⟩) (hvB : (cvB[2]? : Option Value) = some (.str fxB txB)) (hfB : ((l.prog.main.file : Str) == fxB) = true) (leB : K.lookup ccB = some ⟨elB,edB,.cell (some (.ref CB)),esB⟩) (fnB : PySem.W.isFn K (.ref fiB) = true) (kpB : PySem.W.keepIn K (.ref CB) = true) (mkB : excMkIn K CB = true) (alB : excAll K CB = true) (atB0 : attrIn K CB "card" = true) (rsB : raisesIn K CB = true)
  {fiY caY ccY : Addr} {oiY kiY diY piY tiY : Value} {odY aiY : Option Addr} {siY : Array (Option Value)} {clY : Value} {cdY : Option Addr} {cvY : Array Value} {csY : Array (Option Value)} {fxY : Str} {txY : Tok} {elY : Value} {edY : Option Addr} {esY : Array (Option Value)}
  (inY : PySem.W.findIn K (.ref CY) "__init__" = some (some (.ref fiY))) (lfY : K.lookup fiY = some ⟨oiY,odY,.func (PySem.W.ksFn "__init__" "InYard.__init__" (defArgs s_InYard) (defBody s_InYard) (defScope s_InYard) .none kiY diY piY aiY (.ref caY) tiY ccY),siY⟩) (coY : PySem.W.codeIn K (.ref caY) "InYard.__init__" = true) (lkY : K.lookup caY = some ⟨clY,cdY,.fields cvY,csY⟩) (hvY : (cvY[2]? : Option Value) = some (.str fxY txY)) (hfY : ((l.prog.main.file : Str) == fxY) = true) (leY : K.lookup ccY = some ⟨elY,edY,.cell (some (.ref CY)),esY⟩) (fnY : PySem.W.isFn K (.ref fiY) = true) (kpY : PySem.W.keepIn K (.ref CY) = true) (mkY : excMkIn K CY = true) (alY : excAll K CY = true) (atY0 : attrIn K CY "card" = true) (rsY : raisesIn K CY = true)
  {fiP caP ccP : Addr} {oiP kiP diP piP tiP : Value} {odP aiP : Option Addr} {siP : Array (Option Value)} {clP : Value} {cdP : Option Addr} {cvP : Array Value} {csP : Array (Option Value)} {fxP : Str} {txP : Tok} {elP : Value} {edP : Option Addr} {esP : Array (Option Value)}
  (inP : PySem.W.findIn K (.ref CP) "__init__" = some (some (.ref fiP))) (lfP : K.lookup fiP = some ⟨oiP,odP,.func (PySem.W.ksFn "__init__" "Past.__init__" (defArgs s_Past) (defBody s_Past) (defScope s_Past) .none kiP diP piP aiP (.ref caP) tiP ccP),siP⟩) (coP : PySem.W.codeIn K (.ref caP) "Past.__init__" = true) (lkP : K.lookup caP = some ⟨clP,cdP,.fields cvP,csP⟩) (hvP : (cvP[2]? : Option Value) = some (.str fxP txP)) (hfP : ((l.prog.main.file : Str) == fxP) = true) (leP : K.lookup ccP = some ⟨elP,edP,.cell (some (.ref CP)),esP⟩) (fnP : PySem.W.isFn K (.ref fiP) = true) (kpP : PySem.W.keepIn K (.ref CP) = true) (mkP : excMkIn K CP = true) (alP : excAll K CP = true) (atP0 : attrIn K CP "card" = true) (rsP : raisesIn K CP = true)
  {fiW caW ccW : Addr} {oiW kiW diW piW tiW : Value} {odW aiW : Option Addr} {siW : Array (Option Value)} {clW : Value} {cdW : Option Addr} {cvW : Array Value} {csW : Array (Option Value)} {fxW : Str} {txW : Tok} {elW : Value} {edW : Option Addr} {esW : Array (Option Value)}
  (inW : PySem.W.findIn K (.ref CW) "__init__" = some (some (.ref fiW))) (lfW : K.lookup fiW = some ⟨oiW,odW,.func (PySem.W.ksFn "__init__" "Waits.__init__" (defArgs s_Waits) (defBody s_Waits) (defScope s_Waits) .none kiW diW piW aiW (.ref caW) tiW ccW),siW⟩) (coW : PySem.W.codeIn K (.ref caW) "Waits.__init__" = true) (lkW : K.lookup caW = some ⟨clW,cdW,.fields cvW,csW⟩) (hvW : (cvW[2]? : Option Value) = some (.str fxW txW)) (hfW : ((l.prog.main.file : Str) == fxW) = true) (leW : K.lookup ccW = some ⟨elW,edW,.cell (some (.ref CW)),esW⟩) (fnW : PySem.W.isFn K (.ref fiW) = true) (kpW : PySem.W.keepIn K (.ref CW) = true) (mkW : excMkIn K CW = true) (alW : excAll K CW = true) (atW0 : attrIn K CW "card" = true) (atW1 : attrIn K CW "other" = true) (rsW : raisesIn K CW = true)
  {fiF caF ccF : Addr} {oiF kiF diF piF tiF : Value} {odF aiF : Option Addr} {siF : Array (Option Value)} {clF : Value} {cdF : Option Addr} {cvF : Array Value} {csF : Array (Option Value)} {fxF : Str} {txF : Tok} {elF : Value} {edF : Option Addr} {esF : Array (Option Value)}
  (inF : PySem.W.findIn K (.ref CF) "__init__" = some (some (.ref fiF))) (lfF : K.lookup fiF = some ⟨oiF,odF,.func (PySem.W.ksFn "__init__" "Full.__init__" (defArgs s_Full) (defBody s_Full) (defScope s_Full) .none kiF diF piF aiF (.ref caF) tiF ccF),siF⟩) (coF : PySem.W.codeIn K (.ref caF) "Full.__init__" = true) (lkF : K.lookup caF = some ⟨clF,cdF,.fields cvF,csF⟩) (hvF : (cvF[2]? : Option Value) = some (.str fxF txF)) (hfF : ((l.prog.main.file : Str) == fxF) = true) (leF : K.lookup ccF = some ⟨elF,edF,.cell (some (.ref CF)),esF⟩) (fnF : PySem.W.isFn K (.ref fiF) = true) (kpF : PySem.W.keepIn K (.ref CF) = true) (mkF : excMkIn K CF = true) (alF : excAll K CF = true) (atF0 : attrIn K CF "lane" = true) (atF1 : attrIn K CF "bound" = true) (rsF : raisesIn K CF = true)
  {fiQ caQ ccQ : Addr} {oiQ kiQ diQ piQ tiQ : Value} {odQ aiQ : Option Addr} {siQ : Array (Option Value)} {clQ : Value} {cdQ : Option Addr} {cvQ : Array Value} {csQ : Array (Option Value)} {fxQ : Str} {txQ : Tok} {elQ : Value} {edQ : Option Addr} {esQ : Array (Option Value)}
  (inQ : PySem.W.findIn K (.ref CQ) "__init__" = some (some (.ref fiQ))) (lfQ : K.lookup fiQ = some ⟨oiQ,odQ,.func (PySem.W.ksFn "__init__" "KindFull.__init__" (defArgs s_KindFull) (defBody s_KindFull) (defScope s_KindFull) .none kiQ diQ piQ aiQ (.ref caQ) tiQ ccQ),siQ⟩) (coQ : PySem.W.codeIn K (.ref caQ) "KindFull.__init__" = true) (lkQ : K.lookup caQ = some ⟨clQ,cdQ,.fields cvQ,csQ⟩) (hvQ : (cvQ[2]? : Option Value) = some (.str fxQ txQ)) (hfQ : ((l.prog.main.file : Str) == fxQ) = true) (leQ : K.lookup ccQ = some ⟨elQ,edQ,.cell (some (.ref CQ)),esQ⟩) (fnQ : PySem.W.isFn K (.ref fiQ) = true) (kpQ : PySem.W.keepIn K (.ref CQ) = true) (mkQ : excMkIn K CQ = true) (alQ : excAll K CQ = true) (atQ0 : attrIn K CQ "lane" = true) (atQ1 : attrIn K CQ "kind" = true) (atQ2 : attrIn K CQ "bound" = true) (rsQ : raisesIn K CQ = true)
  (topS : (l.prog.main.scope.names.lookup ("super" : Str)).isSome = false) (xE : excClsIn K CE = true)
  (xk : [CC,CO,CB,CW,CF,CQ,CY,CL,CP,CX].all (fun C=>kindIn K C && PySem.W.kitOne K (.ref C) (.type "ValueError") == some true) = true)
  (xi : ixs.all (fun i=>ixs.all fun j=>kitAt K [CC,CO,CB,CW,CF,CQ,CY,CL,CP,CX] i j) = true)
  (xa : ixs.all (fun i=>attAt K [CC,CO,CB,CW,CF,CQ,CY,CL,CP,CX] i) = true)
  (xmm : [CC,CO,CB,CW,CF,CQ,CY,CL,CP,CX].all (fun C=>PySem.W.mroIn K C (.ref CE) == some true) = true)
  (z0 : PySem.W.nsIn K mainGlobals "len" = some none)
  (z1 : PySem.W.nsIn K mainGlobals "range" = some none)
  (z2 : PySem.W.nsIn K mainGlobals "sorted" = some none)
  (z3 : PySem.W.nsIn K mainGlobals "zip" = some none)
  (z4 : PySem.W.nsIn K mainGlobals "tuple" = some none)
  (z5 : PySem.W.nsIn K mainGlobals "isinstance" = some none)
  (z6 : PySem.W.nsIn K mainGlobals "ValueError" = some none)
  (z7 : PySem.W.nsIn K mainGlobals "super" = some none)
  (gl0 : PySem.W.nsIn K mainGlobals "YARD" = some (some (.int (-1) t0)))
  :
  ∃ fd : FuncData,(∀ (s : Shared) (v : Value),BindsTo s fd ⟨[v],[]⟩ [("_law_script",v)])/\∀ base : Heap,K.In base->base.Ns mainGlobals mg->BltMod mg base->FnOk l.prog w K mg base CX0 12 fa fd ["_law_script"] (spLaw (tabsOf K gnames) K):=by
 have e:=hfa.symm.trans (PySem.W.mg_of X G a25)
 cases e
 have T : Txt K mg:=⟨PySem.W.mg_none_of X G z0,PySem.W.mg_none_of X G z1,PySem.W.mg_none_of X G z2,PySem.W.mg_none_of X G z3,PySem.W.mg_none_of X G z4,PySem.W.mg_none_of X G z5,PySem.W.mg_none_of X G z6⟩
 have TP : TxP K mg:=⟨PySem.W.mg_none_of X G z0,⟨_,PySem.W.mg_of X G gl0,⟨_,rfl⟩⟩⟩
 have TG : TxG K mg:=⟨PySem.W.mg_none_of X G z4⟩
 have TQ : TxQ K mg:=⟨PySem.W.mg_none_of X G z4,PySem.W.mg_none_of X G z0⟩
 have TC : TxT K mg [CC,CO,CB,CW,CF,CQ,CY,CL,CP,CX]:=⟨T,fun _=>⟨_,PySem.W.mg_of X G qC,rfl⟩,fun _=>⟨_,PySem.W.mg_of X G qO,rfl⟩,fun _=>⟨_,PySem.W.mg_of X G qB,rfl⟩,fun _=>⟨_,PySem.W.mg_of X G qW,rfl⟩,fun _=>⟨_,PySem.W.mg_of X G qF,rfl⟩,fun _=>⟨_,PySem.W.mg_of X G qQ,rfl⟩,fun _=>⟨_,PySem.W.mg_of X G qY,rfl⟩,fun _=>⟨_,PySem.W.mg_of X G qL,rfl⟩,fun _=>⟨_,PySem.W.mg_of X G qP,rfl⟩,fun _=>⟨_,PySem.W.mg_of X G qX,rfl⟩⟩
 have TL : TxL K mg CE:=⟨T,PySem.W.mg_of X G qE,xE⟩
 have Xc : XcT K [CC,CO,CB,CW,CF,CQ,CY,CL,CP,CX]:=xc_mk rfl xk xi xa
 have xm : ∀ C ∈ [CC,CO,CB,CW,CF,CQ,CY,CL,CP,CX],PySem.W.mroIn K C (.ref CE) = some true:=fun C hC=>eq_of_beq (List.all_eq_true.mp xmm C hC)
 have F0:=fun_mk (st:=s_kind_of) l0 c0 k0
 have b0:=F0.binds (ps:=["plan","kind"]) fun _ _ _ _ _ _ us hl=>match us,hl with | [_,_],_=>rfl
 have F1:=fun_mk (st:=s_way_of) l1 c1 k1
 have b1:=F1.binds (ps:=["plan","kind"]) fun _ _ _ _ _ _ us hl=>match us,hl with | [_,_],_=>rfl
 have F2:=fun_mk (st:=s_lane_at) l2 c2 k2
 have b2:=F2.binds (ps:=["plan","kind","place"]) fun _ _ _ _ _ _ us hl=>match us,hl with | [_,_,_],_=>rfl
 have F3:=fun_mk (st:=s_card_of) l3 c3 k3
 have b3:=F3.binds (ps:=["stand","card"]) fun _ _ _ _ _ _ us hl=>match us,hl with | [_,_],_=>rfl
 have F4:=fun_mk (st:=s_lane_of) l4 c4 k4
 have b4:=F4.binds (ps:=["plan","stand","card"]) fun _ _ _ _ _ _ us hl=>match us,hl with | [_,_,_],_=>rfl
 have F5:=fun_mk (st:=s_is_out) l5 c5 k5
 have b5:=F5.binds (ps:=["plan","stand","card"]) fun _ _ _ _ _ _ us hl=>match us,hl with | [_,_,_],_=>rfl
 have F6:=fun_mk (st:=s_cards_in) l6 c6 k6
 have b6:=F6.binds (ps:=["plan","stand","lane"]) fun _ _ _ _ _ _ us hl=>match us,hl with | [_,_,_],_=>rfl
 have F7:=fun_mk (st:=s_many_of) l7 c7 k7
 have b7:=F7.binds (ps:=["plan","stand","lane","kind"]) fun _ _ _ _ _ _ us hl=>match us,hl with | [_,_,_,_],_=>rfl
 have F8:=fun_mk (st:=s_kind_bound) l8 c8 k8
 have b8:=F8.binds (ps:=["plan","kind","lane"]) fun _ _ _ _ _ _ us hl=>match us,hl with | [_,_,_],_=>rfl
 have F9:=fun_mk (st:=s_may_wait_at) l9 c9 k9
 have b9:=F9.binds (ps:=["plan","lane"]) fun _ _ _ _ _ _ us hl=>match us,hl with | [_,_],_=>rfl
 have F10:=fun_mk (st:=s_holds) l10 c10 k10
 have b10:=F10.binds (ps:=["plan","stand","wait"]) fun _ _ _ _ _ _ us hl=>match us,hl with | [_,_,_],_=>rfl
 have F11:=fun_mk (st:=s_card_that_can_move) l11 c11 k11
 have b11:=F11.binds (ps:=["plan","stand","card"]) fun _ _ _ _ _ _ us hl=>match us,hl with | [_,_,_],_=>rfl
 have F12:=fun_mk (st:=s_refuse_if_it_waits) l12 c12 k12
 have b12:=F12.binds (ps:=["plan","stand","card","lane"]) fun _ _ _ _ _ _ us hl=>match us,hl with | [_,_,_,_],_=>rfl
 have F13:=fun_mk (st:=s_refuse_if_full) l13 c13 k13
 have b13:=F13.binds (ps:=["plan","stand","lane","kind"]) fun _ _ _ _ _ _ us hl=>match us,hl with | [_,_,_,_],_=>rfl
 have F14 : FunC K "with_card" "with_card" s_with_card f14 _ cx14:=⟨⟨oc14,od14,kV14,dc14,pm14,an14,ct14,sl14,rfl,l14,c14⟩,k14⟩
 have b14:=F14.fn.binds (ps:=["stand","new"]) fun _ _ _ _ _ _ us hl=>match us,hl with | [_,_],_=>rfl
 have F15:=fun_mk (st:=s_pulled) l15 c15 k15
 have b15:=F15.binds (ps:=["plan","stand","card"]) fun _ _ _ _ _ _ us hl=>match us,hl with | [_,_,_],_=>rfl
 have F16:=fun_mk (st:=s_put_back) l16 c16 k16
 have b16:=F16.binds (ps:=["plan","stand","card"]) fun _ _ _ _ _ _ us hl=>match us,hl with | [_,_,_],_=>rfl
 have F17 : FunC K "without_waits" "without_waits" s_without_waits f17 _ cx17:=⟨⟨oc17,od17,kV17,dc17,pm17,an17,ct17,sl17,rfl,l17,c17⟩,k17⟩
 have b17:=F17.fn.binds (ps:=["stand","card","other"]) fun _ _ _ _ _ _ us hl=>match us,hl with | [_,_,_],_=>rfl
 have F18:=fun_mk (st:=s_with_wait) l18 c18 k18
 have b18:=F18.binds (ps:=["plan","stand","card","lane","other"]) fun _ _ _ _ _ _ us hl=>match us,hl with | [_,_,_,_,_],_=>rfl
 have F19:=fun_mk (st:=s__law_take) l19 c19 k19
 have b19:=F19.binds (ps:=["_law_held","_law_many"]) fun _ _ _ _ _ _ us hl=>match us,hl with | [_,_],_=>rfl
 have F20:=fun_mk (st:=s__law_digits) l20 c20 k20
 have b20:=F20.binds (ps:=["_law_script","_law_k"]) fun _ _ _ _ _ _ us hl=>match us,hl with | [_,_],_=>rfl
 have F21:=fun_mk (st:=s__law_words) l21 c21 k21
 have b21:=F21.binds (ps:=["_law_held","_law_many"]) fun _ _ _ _ _ _ us hl=>match us,hl with | [_,_],_=>rfl
 have F22:=fun_mk (st:=s__law_board) l22 c22 k22
 have b22:=F22.binds (ps:=["_law_held"]) fun _ _ _ _ _ _ us hl=>match us,hl with | [_],_=>rfl
 have F23:=fun_mk (st:=s__law_told) l23 c23 k23
 have b23:=F23.binds (ps:=["_law_error"]) fun _ _ _ _ _ _ us hl=>match us,hl with | [_],_=>rfl
 have F24:=fun_mk (st:=s__law_done) l24 c24 k24
 have b24:=F24.binds (ps:=["_law_plan","_law_stand","_law_cards","_law_strange","_law_way"]) fun _ _ _ _ _ _ us hl=>match us,hl with | [_,_,_,_,_],_=>rfl
 have F25:=fun_mk (st:=s_law) l25 c25 k25
 have et : tabsOf K gnames = [tp14,tp17]:=by
  unfold tabsOf gnames
  simp only [List.filterMap_cons,List.filterMap_nil,tI14,tI17,Option.map]
 rw [et]
 refine ⟨PySem.W.fnOf "law" "law" (defArgs s_law) (defBody s_law) (defScope s_law) .none kV25 dc25 pm25 an25 cd25 ct25,fun s v=>.of_eq rfl,fun base kb nb hbm=>?_⟩
 let ts : List Addr:=[tp14,tp17]
 have hte : ∀ t ∈ ts,t ∉ ([] : List Addr):=fun _ _ h=>nomatch h
 have M_NoCard : MakeOk l.prog w K mg base "NoCard" CC 2 ["self","card"] (spIniN CC ["card"]):=⟨fiC,_,⟨mkC,inC,fnC,kpC⟩,ok_ini_NoCard ⟨⟨oiC,odC,kiC,diC,piC,aiC,tiC,siC,rfl,lfC⟩,coC,⟨clC,cdC,cvC,csC,fxC,txC,lkC,hvC,hfC⟩,⟨elC,edC,esC,leC⟩,PySem.W.mg_none_of X G z7,topS,alC⟩ atC0,PySem.W.mg_of X G qC,.all fun us hl=>match us,hl with | [_,_],_=>rfl⟩
 have M_NoKind : MakeOk l.prog w K mg base "NoKind" CK 2 ["self","kind"] (spIniN CK ["kind"]):=⟨fiK,_,⟨mkK,inK,fnK,kpK⟩,ok_ini_NoKind ⟨⟨oiK,odK,kiK,diK,piK,aiK,tiK,siK,rfl,lfK⟩,coK,⟨clK,cdK,cvK,csK,fxK,txK,lkK,hvK,hfK⟩,⟨elK,edK,esK,leK⟩,PySem.W.mg_none_of X G z7,topS,alK⟩ atK0,PySem.W.mg_of X G qK,.all fun us hl=>match us,hl with | [_,_],_=>rfl⟩
 have M_NoLane : MakeOk l.prog w K mg base "NoLane" CL 2 ["self","lane"] (spIniN CL ["lane"]):=⟨fiL,_,⟨mkL,inL,fnL,kpL⟩,ok_ini_NoLane ⟨⟨oiL,odL,kiL,diL,piL,aiL,tiL,siL,rfl,lfL⟩,coL,⟨clL,cdL,cvL,csL,fxL,txL,lkL,hvL,hfL⟩,⟨elL,edL,esL,leL⟩,PySem.W.mg_none_of X G z7,topS,alL⟩ atL0,PySem.W.mg_of X G qL,.all fun us hl=>match us,hl with | [_,_],_=>rfl⟩
 have M_NoWait : MakeOk l.prog w K mg base "NoWait" CX 2 ["self","card"] (spIniN CX ["card"]):=⟨fiX,_,⟨mkX,inX,fnX,kpX⟩,ok_ini_NoWait ⟨⟨oiX,odX,kiX,diX,piX,aiX,tiX,siX,rfl,lfX⟩,coX,⟨clX,cdX,cvX,csX,fxX,txX,lkX,hvX,hfX⟩,⟨elX,edX,esX,leX⟩,PySem.W.mg_none_of X G z7,topS,alX⟩ atX0,PySem.W.mg_of X G qX,.all fun us hl=>match us,hl with | [_,_],_=>rfl⟩
 have M_Out : MakeOk l.prog w K mg base "Out" CO 2 ["self","card"] (spIniN CO ["card"]):=⟨fiO,_,⟨mkO,inO,fnO,kpO⟩,ok_ini_Out ⟨⟨oiO,odO,kiO,diO,piO,aiO,tiO,siO,rfl,lfO⟩,coO,⟨clO,cdO,cvO,csO,fxO,txO,lkO,hvO,hfO⟩,⟨elO,edO,esO,leO⟩,PySem.W.mg_none_of X G z7,topS,alO⟩ atO0,PySem.W.mg_of X G qO,.all fun us hl=>match us,hl with | [_,_],_=>rfl⟩
 have M_Blocked : MakeOk l.prog w K mg base "Blocked" CB 2 ["self","card"] (spIniN CB ["card"]):=⟨fiB,_,⟨mkB,inB,fnB,kpB⟩,ok_ini_Blocked ⟨⟨oiB,odB,kiB,diB,piB,aiB,tiB,siB,rfl,lfB⟩,coB,⟨clB,cdB,cvB,csB,fxB,txB,lkB,hvB,hfB⟩,⟨elB,edB,esB,leB⟩,PySem.W.mg_none_of X G z7,topS,alB⟩ atB0,PySem.W.mg_of X G qB,.all fun us hl=>match us,hl with | [_,_],_=>rfl⟩
 have M_InYard : MakeOk l.prog w K mg base "InYard" CY 2 ["self","card"] (spIniN CY ["card"]):=⟨fiY,_,⟨mkY,inY,fnY,kpY⟩,ok_ini_InYard ⟨⟨oiY,odY,kiY,diY,piY,aiY,tiY,siY,rfl,lfY⟩,coY,⟨clY,cdY,cvY,csY,fxY,txY,lkY,hvY,hfY⟩,⟨elY,edY,esY,leY⟩,PySem.W.mg_none_of X G z7,topS,alY⟩ atY0,PySem.W.mg_of X G qY,.all fun us hl=>match us,hl with | [_,_],_=>rfl⟩
 have M_Past : MakeOk l.prog w K mg base "Past" CP 2 ["self","card"] (spIniN CP ["card"]):=⟨fiP,_,⟨mkP,inP,fnP,kpP⟩,ok_ini_Past ⟨⟨oiP,odP,kiP,diP,piP,aiP,tiP,siP,rfl,lfP⟩,coP,⟨clP,cdP,cvP,csP,fxP,txP,lkP,hvP,hfP⟩,⟨elP,edP,esP,leP⟩,PySem.W.mg_none_of X G z7,topS,alP⟩ atP0,PySem.W.mg_of X G qP,.all fun us hl=>match us,hl with | [_,_],_=>rfl⟩
 have M_Waits : MakeOk l.prog w K mg base "Waits" CW 2 ["self","card","other"] (spIniN CW ["card","other"]):=⟨fiW,_,⟨mkW,inW,fnW,kpW⟩,ok_ini_Waits ⟨⟨oiW,odW,kiW,diW,piW,aiW,tiW,siW,rfl,lfW⟩,coW,⟨clW,cdW,cvW,csW,fxW,txW,lkW,hvW,hfW⟩,⟨elW,edW,esW,leW⟩,PySem.W.mg_none_of X G z7,topS,alW⟩ atW0 atW1,PySem.W.mg_of X G qW,.all fun us hl=>match us,hl with | [_,_,_],_=>rfl⟩
 have M_Full : MakeOk l.prog w K mg base "Full" CF 2 ["self","lane","bound"] (spIniN CF ["lane","bound"]):=⟨fiF,_,⟨mkF,inF,fnF,kpF⟩,ok_ini_Full ⟨⟨oiF,odF,kiF,diF,piF,aiF,tiF,siF,rfl,lfF⟩,coF,⟨clF,cdF,cvF,csF,fxF,txF,lkF,hvF,hfF⟩,⟨elF,edF,esF,leF⟩,PySem.W.mg_none_of X G z7,topS,alF⟩ atF0 atF1,PySem.W.mg_of X G qF,.all fun us hl=>match us,hl with | [_,_,_],_=>rfl⟩
 have M_KindFull : MakeOk l.prog w K mg base "KindFull" CQ 2 ["self","lane","kind","bound"] (spIniN CQ ["lane","kind","bound"]):=⟨fiQ,_,⟨mkQ,inQ,fnQ,kpQ⟩,ok_ini_KindFull ⟨⟨oiQ,odQ,kiQ,diQ,piQ,aiQ,tiQ,siQ,rfl,lfQ⟩,coQ,⟨clQ,cdQ,cvQ,csQ,fxQ,txQ,lkQ,hvQ,hfQ⟩,⟨elQ,edQ,esQ,leQ⟩,PySem.W.mg_none_of X G z7,topS,alQ⟩ atQ0 atQ1 atQ2,PySem.W.mg_of X G qQ,.all fun us hl=>match us,hl with | [_,_,_,_],_=>rfl⟩
 have C_kind_of : CallOkX l.prog w K mg base "kind_of" 4 ["plan","kind"] (spKind CK):=⟨f0,_,ok_kind_of F0 M_NoKind rsK ,PySem.W.mg_of X G a0,k0,b0⟩
 have C_way_of : CallOkX l.prog w K mg base "way_of" 5 ["plan","kind"] (spWay CK):=⟨f1,_,ok_way_of F1  C_kind_of,PySem.W.mg_of X G a1,k1,b1⟩
 have C_lane_at : CallOk l.prog w K mg base "lane_at" 6 ["plan","kind","place"] spLaneAt:=⟨f2,_,ok_lane_at F2 TP C_way_of,PySem.W.mg_of X G a2,k2,b2⟩
 have C_card_of : CallOkX l.prog w K mg base "card_of" 4 ["stand","card"] (spCard CC):=⟨f3,_,ok_card_of F3 M_NoCard rsC ,PySem.W.mg_of X G a3,k3,b3⟩
 have C_lane_of : CallOkX l.prog w K mg base "lane_of" 7 ["plan","stand","card"] (spLaneOf CC):=⟨f4,_,ok_lane_of F4  C_card_of C_lane_at,PySem.W.mg_of X G a4,k4,b4⟩
 have C_is_out : CallOkX l.prog w K mg base "is_out" 8 ["plan","stand","card"] (spOut CC):=⟨f5,_,ok_is_out F5 TP C_lane_of,PySem.W.mg_of X G a5,k5,b5⟩
 have C_cards_in : CallOk l.prog w K mg base "cards_in" 7 ["plan","stand","lane"] spIn:=⟨f6,_,ok_cards_in F6  C_lane_at,PySem.W.mg_of X G a6,k6,b6⟩
 have C_many_of : CallOk l.prog w K mg base "many_of" 7 ["plan","stand","lane","kind"] spMany:=⟨f7,_,ok_many_of F7 TP C_lane_at,PySem.W.mg_of X G a7,k7,b7⟩
 have C_kind_bound : CallOk l.prog w K mg base "kind_bound" 5 ["plan","kind","lane"] spKB:=⟨f8,_,ok_kind_bound F8  C_kind_of,PySem.W.mg_of X G a8,k8,b8⟩
 have C_may_wait_at : CallOk l.prog w K mg base "may_wait_at" 1 ["plan","lane"] spMay:=⟨f9,_,ok_may_wait F9 TP ,PySem.W.mg_of X G a9,k9,b9⟩
 have C_holds : CallOk l.prog w K mg base "holds" 9 ["plan","stand","wait"] spHolds:=⟨f10,_,ok_holds F10  C_lane_of C_is_out,PySem.W.mg_of X G a10,k10,b10⟩
 have C_card_that_can_move : CallOkX l.prog w K mg base "card_that_can_move" 9 ["plan","stand","card"] (spMove ⟨CC,CO,CB,CW,CF,CQ,CY⟩):=⟨f11,_,ok_move (k:=⟨CC,CO,CB,CW,CF,CQ,CY⟩) F11 M_Out M_Blocked rsO rsB C_card_of C_is_out,PySem.W.mg_of X G a11,k11,b11⟩
 have C_refuse_if_it_waits : CallOkX l.prog w K mg base "refuse_if_it_waits" 9 ["plan","stand","card","lane"] (spBar ⟨CC,CO,CB,CW,CF,CQ,CY⟩):=⟨f12,_,ok_bar (k:=⟨CC,CO,CB,CW,CF,CQ,CY⟩) F12 M_Waits rsW C_is_out,PySem.W.mg_of X G a12,k12,b12⟩
 have C_refuse_if_full : CallOkX l.prog w K mg base "refuse_if_full" 8 ["plan","stand","lane","kind"] (spFull ⟨CC,CO,CB,CW,CF,CQ,CY⟩):=⟨f13,_,ok_full (k:=⟨CC,CO,CB,CW,CF,CQ,CY⟩) F13 TP M_Full M_KindFull rsF rsQ C_cards_in C_kind_bound C_many_of,PySem.W.mg_of X G a13,k13,b13⟩
 have C_with_card : CallOk l.prog w K mg base "with_card" 3 ["stand","new"] (spWith ts):=⟨f14,_,ok_with_card F14 TG (PySem.W.codeHd_of_K kb hd14) hbm (show tp14 ∈ ts by simp [ts]) ,PySem.W.mg_of X G a14,k14,b14⟩
 have C_pulled : CallOkX l.prog w K mg base "pulled" 10 ["plan","stand","card"] (spPull ⟨CC,CO,CB,CW,CF,CQ,CY⟩ ts pullD):=⟨f15,_,ok_pulled (k:=⟨CC,CO,CB,CW,CF,CQ,CY⟩) F15  C_card_that_can_move C_lane_at C_refuse_if_it_waits C_refuse_if_full C_with_card hte,PySem.W.mg_of X G a15,k15,b15⟩
 have C_put_back : CallOkX l.prog w K mg base "put_back" 10 ["plan","stand","card"] (spPull ⟨CC,CO,CB,CW,CF,CQ,CY⟩ ts backD):=⟨f16,_,ok_put_back (k:=⟨CC,CO,CB,CW,CF,CQ,CY⟩) F16 M_InYard rsY C_card_that_can_move C_lane_at C_refuse_if_full C_with_card hte,PySem.W.mg_of X G a16,k16,b16⟩
 have C_without_waits : CallOkX l.prog w K mg base "without_waits" 5 ["stand","card","other"] (spLess CC CX ts):=⟨f17,_,ok_without F17 TQ (PySem.W.codeHd_of_K kb hd17) hbm (show tp17 ∈ ts by simp [ts])  hte M_NoWait rsX C_card_of,PySem.W.mg_of X G a17,k17,b17⟩
 have C_with_wait : CallOkX l.prog w K mg base "with_wait" 10 ["plan","stand","card","lane","other"] (spWaitR CL CP):=⟨f18,_,ok_with_waitR F18 M_NoLane M_Past rsL rsP C_card_of C_may_wait_at C_holds,PySem.W.mg_of X G a18,k18,b18⟩
 have C__law_take : CallOk l.prog w K mg base "_law_take" 1 ["_law_held","_law_many"] spTake:=⟨f19,_,ok_take F19  ,PySem.W.mg_of X G a19,k19,b19⟩
 have C__law_digits : CallOk l.prog w K mg base "_law_digits" 1 ["_law_script","_law_k"] (spDigits K):=⟨f20,_,ok_digits F20 T ,PySem.W.mg_of X G a20,k20,b20⟩
 have C__law_words : CallOk l.prog w K mg base "_law_words" 2 ["_law_held","_law_many"] spWordsN:=⟨f21,_,ok_words F21 T C__law_take,PySem.W.mg_of X G a21,k21,b21⟩
 have C__law_board : CallOk l.prog w K mg base "_law_board" 3 ["_law_held"] spBoard:=⟨f22,_,ok_board F22 T C__law_words,PySem.W.mg_of X G a22,k22,b22⟩
 have C__law_told : CallOkH l.prog w K mg base "_law_told" 2 ["_law_error"] (spTold [CC,CO,CB,CW,CF,CQ,CY,CL,CP,CX]):=⟨f23,_,ok_told (Cs:=[CC,CO,CB,CW,CF,CQ,CY,CL,CP,CX]) F23 TC Xc ,PySem.W.mg_of X G a23,k23,b23⟩
 have C__law_done : CallOkX l.prog w K mg base "_law_done" 11 ["_law_plan","_law_stand","_law_cards","_law_strange","_law_way"] (spDone ⟨CC,CO,CB,CW,CF,CQ,CY⟩ CL CP CX ts):=⟨f24,_,ok_done (k:=⟨CC,CO,CB,CW,CF,CQ,CY⟩) F24 T C_pulled C_put_back C_with_wait C_without_waits hte,PySem.W.mg_of X G a24,k24,b24⟩
 exact ok_law (k:=⟨CC,CO,CB,CW,CF,CQ,CY⟩) (CL:=CL) (CP:=CP) (CW:=CX) F25 TL xm hte C__law_digits C__law_take C__law_board C__law_done C__law_told
theorem tab_no {K : PySem.W.Frag}
  {f14 : Addr} {od14 an14 : Option Addr} {sl14 : Array (Option Value)} {oc14 kV14 dc14 pm14 ct14 : Value} {cx14 tp14 : Addr} {cc14 : Value} {cdd14 : Option Addr} {vs14 : Array Value} {csl14 : Array (Option Value)}
  (a14 : PySem.W.nsIn K mainGlobals "with_card" = some (some (.ref f14))) (l14 : K.lookup f14 = some ⟨oc14,od14,.func (PySem.W.fnOf "with_card" "with_card" (defArgs s_with_card) (defBody s_with_card) (defScope s_with_card) .none kV14 dc14 pm14 an14 (.ref cx14) ct14),sl14⟩) (lc14 : K.lookup cx14 = some ⟨cc14,cdd14,.fields vs14,csl14⟩) (h1114 : (vs14[11]? : Option Value) = some (.ref tp14)) (tI14 : PySem.W.tabIn K "with_card" = some (cx14,tp14)) (n14 : K.lookup tp14 = none)
  {f17 : Addr} {od17 an17 : Option Addr} {sl17 : Array (Option Value)} {oc17 kV17 dc17 pm17 ct17 : Value} {cx17 tp17 : Addr} {cc17 : Value} {cdd17 : Option Addr} {vs17 : Array Value} {csl17 : Array (Option Value)}
  (a17 : PySem.W.nsIn K mainGlobals "without_waits" = some (some (.ref f17))) (l17 : K.lookup f17 = some ⟨oc17,od17,.func (PySem.W.fnOf "without_waits" "without_waits" (defArgs s_without_waits) (defBody s_without_waits) (defScope s_without_waits) .none kV17 dc17 pm17 an17 (.ref cx17) ct17),sl17⟩) (lc17 : K.lookup cx17 = some ⟨cc17,cdd17,.fields vs17,csl17⟩) (h1117 : (vs17[11]? : Option Value) = some (.ref tp17)) (tI17 : PySem.W.tabIn K "without_waits" = some (cx17,tp17)) (n17 : K.lookup tp17 = none)
  : ∀ y ∈ gnames,∀ c P,PySem.W.tabIn K y = some (c,P)->K.lookup P = none:=by
 intro y hy c P e
 simp only [gnames,List.mem_cons,List.not_mem_nil,or_false] at hy
 rcases hy with rfl | rfl
 ·rw [tI14] at e
  cases e
  exact n14
 ·rw [tI17] at e
  cases e
  exact n17
theorem walk {l : PySem.W.OpenLaw} {q : Program} {loose : List Str} {XP : (Str->Option Value)->Heap->Prop} {YP : World->Heap->Prop} {d : DefRec} {K : Params->PySem.W.Frag} (hn : l.most = some 63) (hdf : d.params.defaults = [])
  (hY : ∀ (w : World) (h : Heap),YP w h->(K w.params).In h)
  (hgn : ∀ y ∈ gnames,((recsOf q).find? (fun e=>e.name == y)).isSome = true)
  (hT : ∀ (w : World) (h : Heap),(K w.params).In h->∀ y ∈ gnames,∀ c P,PySem.W.tabIn (K w.params) y = some (c,P)->(K w.params).lookup P = none)
  (F : ∀ (w : World) (mg : Str->Option Value) (fa : Addr) (h : Heap),(K w.params).In h->h.Ns mainGlobals mg->mg d.name = some (.ref fa) ->
   ∃ fd : FuncData,(∀ (s : Shared) (u : Value),BindsTo s fd ⟨[u],[]⟩ [("_law_script",u)])/\∀ base : Heap,(K w.params).In base->base.Ns mainGlobals mg->BltMod mg base->FnOk l.prog w (K w.params) mg base CX0 12 fa fd ["_law_script"] (spLaw (tabsOf (K w.params) gnames) (K w.params))) :
  PySem.W.WalkO q loose XP YP l.row.toRowW d [] (fun f vs=>PySem.call f vs) :=
 L2.walk_ofT (n:=63) (k:=12) (x := "_law_script") (CX:=fun _=>CX0) (sp:=fun w=>spLaw (tabsOf (K w.params) gnames) (K w.params)) gnames hn (by decide) hdf ⟨rfl,by decide,by decide⟩ hY hgn hT F
  (fun w H a ns hl hO hS=>⟨a,ns,rfl,hS,hl,fun P hP=>⟨#[],hO.2 P hP,by trivial⟩,fun _=>rfl⟩) fun _ _ _ _ _ z=>z
end K12
def PySem.W.Fast.tw8910107912227539494 : Unit := ()
def PySem.W.Fast.tw12094218727988719540 : Unit := ()
def PySem.W.Fast.tw13626938185721813940 : Unit := ()
def PySem.W.Fast.tw14886486131256281954 : Unit := ()
def PySem.W.Fast.tw2190778012216378567 : Unit := ()
def PySem.W.Fast.tw3641988422879017209 : Unit := ()
def PySem.W.Fast.tw4929622717267860784 : Unit := ()
def PySem.W.Fast.tw4096649468283168540 : Unit := ()
def PySem.W.Fast.tw7492676937453690795 : Unit := ()
def PySem.W.Fast.tw15512956642415703767 : Unit := ()
def PySem.W.Fast.tw6112602152241866805 : Unit := ()
def PySem.W.Fast.tw18366109426126451904 : Unit := ()
def PySem.W.Fast.tw2081914728358955495 : Unit := ()
def PySem.W.Fast.tw18056711171021771650 : Unit := ()
def PySem.W.Fast.tw11921834147842972839 : Unit := ()
def PySem.W.Fast.tw15398825475421202439 : Unit := ()
def PySem.W.Fast.tw2988223624531703132 : Unit := ()
def PySem.W.Fast.tw12080935612561155469 : Unit := ()
def PySem.W.Fast.tw7159364800794401038 : Unit := ()
def PySem.W.Fast.tw9844407950907314680 : Unit := ()
def PySem.W.Fast.tw8043626125704170914 : Unit := ()
def PySem.W.Fast.tw12947924358051006398 : Unit := ()
def PySem.W.Fast.tw2407630465576237492 : Unit := ()
def PySem.W.Fast.tw16836555068545586867 : Unit := ()
def PySem.W.Fast.tw4788581055635443591 : Unit := ()
def PySem.W.Fast.tw7666024804885164420 : Unit := ()
def PySem.W.Fast.tw13363579917955647796 : Unit := ()
def PySem.W.Fast.tw9840808665951192144 : Unit := ()
def PySem.W.Fast.tw12045120881255600433 : Unit := ()
def PySem.W.Fast.tw9505014547492276114 : Unit := ()
def PySem.W.Fast.tw5144112195786626516 : Unit := ()
def PySem.W.Fast.tw2551066892880545 : Unit := ()
def PySem.W.Fast.tw14468294516313598566 : Unit := ()
def PySem.W.Fast.tw896756105854226128 : Unit := ()
def PySem.W.Fast.tw16311016178242969028 : Unit := ()
def PySem.W.Fast.tw2093158965440749911 : Unit := ()
def PySem.W.Fast.tw14872551634341510893 : Unit := ()
def PySem.W.Fast.tw1755049466589807720 : Unit := ()
def PySem.W.Fast.tw505147250673147320 : Unit := ()
def PySem.W.Fast.tw2305988319083773420 : Unit := ()
def PySem.W.Fast.tw5560050867245718794 : Unit := ()
def PySem.W.Fast.tw4023913370254694604 : Unit := ()
def PySem.W.Fast.tw14006240391770398171 : Unit := ()
def PySem.W.Fast.tw16191438297328305993 : Unit := ()
def PySem.W.Fast.tw13532669158857985042 : Unit := ()
def PySem.W.Fast.tw11414607433769191261 : Unit := ()
def PySem.W.Fast.tw3409980131584238728 : Unit := ()
def PySem.W.Fast.tw13631341102343611246 : Unit := ()
def PySem.W.Fast.tw10662606781564562892 : Unit := ()
def PySem.W.Fast.tw1904644067141161743 : Unit := ()
def PySem.W.Fast.tw13662805057279872304 : Unit := ()
def PySem.W.Fast.tw4803534020533757175 : Unit := ()
def PySem.W.Fast.tw5271491507444718951 : Unit := ()
def PySem.W.Fast.tw14965062267484757719 : Unit := ()
def PySem.W.Fast.tw5360193064705201274 : Unit := ()
def PySem.W.Fast.tw17131522049355184333 : Unit := ()
def PySem.W.Fast.tw4444771669177836149 : Unit := ()
def PySem.W.Fast.tw14752542580021299929 : Unit := ()
def PySem.W.Fast.tw8000999748476326959 : Unit := ()
def PySem.W.Fast.tw4214692100036639382 : Unit := ()
def PySem.W.Fast.tw16259162915716867689 : Unit := ()
def PySem.W.Fast.tw2911037936055865305 : Unit := ()
def PySem.W.Fast.tw1657957242745290044 : Unit := ()
def PySem.W.Fast.tw17250092204350352942 : Unit := ()
def PySem.W.Fast.tw9131373524284879873 : Unit := ()
def PySem.W.Fast.tw16777031656260699456 : Unit := ()
open PySem PySem.W PyProof.Rows
set_option maxRecDepth 100000 in
set_option maxHeartbeats 0 in
theorem PySem.Challenge.cw_cardlanes_k12_refusals_apart_holds : PySem.Challenge.rw_cardlanes_k12_refusals_apart.Holds := by
 w_on;o_law;k_head;(case hw=>w_witness2)
 k_fill
 refine K12.walk (l:=PySem.Challenge.rw_cardlanes_k12_refusals_apart) rfl rfl (fun w h Y=>PySem.W.kIn_of Y) ?G ?T ?F
 case F =>
  intro w mg fa h KX G hmg
  refine' K12.all_mk KX G hmg ?a0 ?l0 ?c0 ?k0 ?a1 ?l1 ?c1 ?k1 ?a2 ?l2 ?c2 ?k2 ?a3 ?l3 ?c3 ?k3 ?a4 ?l4 ?c4 ?k4 ?a5 ?l5 ?c5 ?k5 ?a6 ?l6 ?c6 ?k6 ?a7 ?l7 ?c7 ?k7 ?a8 ?l8 ?c8 ?k8 ?a9 ?l9 ?c9 ?k9 ?a10 ?l10 ?c10 ?k10 ?a11 ?l11 ?c11 ?k11 ?a12 ?l12 ?c12 ?k12 ?a13 ?l13 ?c13 ?k13 ?a14 ?l14 ?c14 ?k14 ?lc14 ?h1114 ?tI14 ?hd14 ?a15 ?l15 ?c15 ?k15 ?a16 ?l16 ?c16 ?k16 ?a17 ?l17 ?c17 ?k17 ?lc17 ?h1117 ?tI17 ?hd17 ?a18 ?l18 ?c18 ?k18 ?a19 ?l19 ?c19 ?k19 ?a20 ?l20 ?c20 ?k20 ?a21 ?l21 ?c21 ?k21 ?a22 ?l22 ?c22 ?k22 ?a23 ?l23 ?c23 ?k23 ?a24 ?l24 ?c24 ?k24 ?a25 ?l25 ?c25 ?k25 ?qE ?qC ?qK ?qL ?qX ?qO ?qB ?qY ?qP ?qW ?qF ?qQ ?inC ?lfC ?coC ?lkC ?hvC ?hfC ?leC ?fnC ?kpC ?mkC ?alC ?atC0 ?rsC ?inK ?lfK ?coK ?lkK ?hvK ?hfK ?leK ?fnK ?kpK ?mkK ?alK ?atK0 ?rsK ?inL ?lfL ?coL ?lkL ?hvL ?hfL ?leL ?fnL ?kpL ?mkL ?alL ?atL0 ?rsL ?inX ?lfX ?coX ?lkX ?hvX ?hfX ?leX ?fnX ?kpX ?mkX ?alX ?atX0 ?rsX ?inO ?lfO ?coO ?lkO ?hvO ?hfO ?leO ?fnO ?kpO ?mkO ?alO ?atO0 ?rsO ?inB ?lfB ?coB ?lkB ?hvB ?hfB ?leB ?fnB ?kpB ?mkB ?alB ?atB0 ?rsB ?inY ?lfY ?coY ?lkY ?hvY ?hfY ?leY ?fnY ?kpY ?mkY ?alY ?atY0 ?rsY ?inP ?lfP ?coP ?lkP ?hvP ?hfP ?leP ?fnP ?kpP ?mkP ?alP ?atP0 ?rsP ?inW ?lfW ?coW ?lkW ?hvW ?hfW ?leW ?fnW ?kpW ?mkW ?alW ?atW0 ?atW1 ?rsW ?inF ?lfF ?coF ?lkF ?hvF ?hfF ?leF ?fnF ?kpF ?mkF ?alF ?atF0 ?atF1 ?rsF ?inQ ?lfQ ?coQ ?lkQ ?hvQ ?hfQ ?leQ ?fnQ ?kpQ ?mkQ ?alQ ?atQ0 ?atQ1 ?atQ2 ?rsQ ?topS ?xE ?xk ?xi ?xa ?xmm ?z0 ?z1 ?z2 ?z3 ?z4 ?z5 ?z6 ?z7 ?gl0
  (case a0=>k_is)
  (case l0=>k_is)
  (case c0=>k_is)
  (case k0=>k_is)
  (case a1=>k_is)
  (case l1=>k_is)
  (case c1=>k_is)
  (case k1=>k_is)
  (case a2=>k_is)
  (case l2=>k_is)
  (case c2=>k_is)
  (case k2=>k_is)
  (case a3=>k_is)
  (case l3=>k_is)
  (case c3=>k_is)
  (case k3=>k_is)
  (case a4=>k_is)
  (case l4=>k_is)
  (case c4=>k_is)
  (case k4=>k_is)
  (case a5=>k_is)
  (case l5=>k_is)
  (case c5=>k_is)
  (case k5=>k_is)
  (case a6=>k_is)
  (case l6=>k_is)
  (case c6=>k_is)
  (case k6=>k_is)
  (case a7=>k_is)
  (case l7=>k_is)
  (case c7=>k_is)
  (case k7=>k_is)
  (case a8=>k_is)
  (case l8=>k_is)
  (case c8=>k_is)
  (case k8=>k_is)
  (case a9=>k_is)
  (case l9=>k_is)
  (case c9=>k_is)
  (case k9=>k_is)
  (case a10=>k_is)
  (case l10=>k_is)
  (case c10=>k_is)
  (case k10=>k_is)
  (case a11=>k_is)
  (case l11=>k_is)
  (case c11=>k_is)
  (case k11=>k_is)
  (case a12=>k_is)
  (case l12=>k_is)
  (case c12=>k_is)
  (case k12=>k_is)
  (case a13=>k_is)
  (case l13=>k_is)
  (case c13=>k_is)
  (case k13=>k_is)
  (case a14=>k_is)
  (case l14=>k_is)
  (case c14=>k_is)
  (case k14=>k_is)
  (case lc14=>k_is)
  (case h1114=>rfl)
  (case tI14=>kernel_rfl)
  (case hd14=>kernel_rfl)
  (case a15=>k_is)
  (case l15=>k_is)
  (case c15=>k_is)
  (case k15=>k_is)
  (case a16=>k_is)
  (case l16=>k_is)
  (case c16=>k_is)
  (case k16=>k_is)
  (case a17=>k_is)
  (case l17=>k_is)
  (case c17=>k_is)
  (case k17=>k_is)
  (case lc17=>k_is)
  (case h1117=>rfl)
  (case tI17=>kernel_rfl)
  (case hd17=>kernel_rfl)
  (case a18=>k_is)
  (case l18=>k_is)
  (case c18=>k_is)
  (case k18=>k_is)
  (case a19=>k_is)
  (case l19=>k_is)
  (case c19=>k_is)
  (case k19=>k_is)
  (case a20=>k_is)
  (case l20=>k_is)
  (case c20=>k_is)
  (case k20=>k_is)
  (case a21=>k_is)
  (case l21=>k_is)
  (case c21=>k_is)
  (case k21=>k_is)
  (case a22=>k_is)
  (case l22=>k_is)
  (case c22=>k_is)
  (case k22=>k_is)
  (case a23=>k_is)
  (case l23=>k_is)
  (case c23=>k_is)
  (case k23=>k_is)
  (case a24=>k_is)
  (case l24=>k_is)
  (case c24=>k_is)
  (case k24=>k_is)
  (case a25=>k_is)
  (case l25=>k_is)
  (case c25=>k_is)
  (case k25=>k_is)
  (case qE=>k_is)
  (case qC=>k_is)
  (case qK=>k_is)
  (case qL=>k_is)
  (case qX=>k_is)
  (case qO=>k_is)
  (case qB=>k_is)
  (case qY=>k_is)
  (case qP=>k_is)
  (case qW=>k_is)
  (case qF=>k_is)
  (case qQ=>k_is)
  (case inC=>k_is)
  (case lfC=>k_is)
  (case coC=>k_is)
  (case lkC=>k_is)
  (case hvC=>rfl)
  (case hfC=>kernel_rfl)
  (case leC=>k_is)
  (case fnC=>k_is)
  (case kpC=>k_is)
  (case mkC=>kernel_rfl)
  (case alC=>kernel_rfl)
  (case atC0=>kernel_rfl)
  (case rsC=>kernel_rfl)
  (case inK=>k_is)
  (case lfK=>k_is)
  (case coK=>k_is)
  (case lkK=>k_is)
  (case hvK=>rfl)
  (case hfK=>kernel_rfl)
  (case leK=>k_is)
  (case fnK=>k_is)
  (case kpK=>k_is)
  (case mkK=>kernel_rfl)
  (case alK=>kernel_rfl)
  (case atK0=>kernel_rfl)
  (case rsK=>kernel_rfl)
  (case inL=>k_is)
  (case lfL=>k_is)
  (case coL=>k_is)
  (case lkL=>k_is)
  (case hvL=>rfl)
  (case hfL=>kernel_rfl)
  (case leL=>k_is)
  (case fnL=>k_is)
  (case kpL=>k_is)
  (case mkL=>kernel_rfl)
  (case alL=>kernel_rfl)
  (case atL0=>kernel_rfl)
  (case rsL=>kernel_rfl)
  (case inX=>k_is)
  (case lfX=>k_is)
  (case coX=>k_is)
  (case lkX=>k_is)
  (case hvX=>rfl)
  (case hfX=>kernel_rfl)
  (case leX=>k_is)
  (case fnX=>k_is)
  (case kpX=>k_is)
  (case mkX=>kernel_rfl)
  (case alX=>kernel_rfl)
  (case atX0=>kernel_rfl)
  (case rsX=>kernel_rfl)
  (case inO=>k_is)
  (case lfO=>k_is)
  (case coO=>k_is)
  (case lkO=>k_is)
  (case hvO=>rfl)
  (case hfO=>kernel_rfl)
  (case leO=>k_is)
  (case fnO=>k_is)
  (case kpO=>k_is)
  (case mkO=>kernel_rfl)
  (case alO=>kernel_rfl)
  (case atO0=>kernel_rfl)
  (case rsO=>kernel_rfl)
  (case inB=>k_is)
  (case lfB=>k_is)
  (case coB=>k_is)
  (case lkB=>k_is)
  (case hvB=>rfl)
  (case hfB=>kernel_rfl)
  (case leB=>k_is)
  (case fnB=>k_is)
  (case kpB=>k_is)
  (case mkB=>kernel_rfl)
  (case alB=>kernel_rfl)
  (case atB0=>kernel_rfl)
  (case rsB=>kernel_rfl)
  (case inY=>k_is)
  (case lfY=>k_is)
  (case coY=>k_is)
  (case lkY=>k_is)
  (case hvY=>rfl)
  (case hfY=>kernel_rfl)
  (case leY=>k_is)
  (case fnY=>k_is)
  (case kpY=>k_is)
  (case mkY=>kernel_rfl)
  (case alY=>kernel_rfl)
  (case atY0=>kernel_rfl)
  (case rsY=>kernel_rfl)
  (case inP=>k_is)
  (case lfP=>k_is)
  (case coP=>k_is)
  (case lkP=>k_is)
  (case hvP=>rfl)
  (case hfP=>kernel_rfl)
  (case leP=>k_is)
  (case fnP=>k_is)
  (case kpP=>k_is)
  (case mkP=>kernel_rfl)
  (case alP=>kernel_rfl)
  (case atP0=>kernel_rfl)
  (case rsP=>kernel_rfl)
  (case inW=>k_is)
  (case lfW=>k_is)
  (case coW=>k_is)
  (case lkW=>k_is)
  (case hvW=>rfl)
  (case hfW=>kernel_rfl)
  (case leW=>k_is)
  (case fnW=>k_is)
  (case kpW=>k_is)
  (case mkW=>kernel_rfl)
  (case alW=>kernel_rfl)
  (case atW0=>kernel_rfl)
  (case atW1=>kernel_rfl)
  (case rsW=>kernel_rfl)
  (case inF=>k_is)
  (case lfF=>k_is)
  (case coF=>k_is)
  (case lkF=>k_is)
  (case hvF=>rfl)
  (case hfF=>kernel_rfl)
  (case leF=>k_is)
  (case fnF=>k_is)
  (case kpF=>k_is)
  (case mkF=>kernel_rfl)
  (case alF=>kernel_rfl)
  (case atF0=>kernel_rfl)
  (case atF1=>kernel_rfl)
  (case rsF=>kernel_rfl)
  (case inQ=>k_is)
  (case lfQ=>k_is)
  (case coQ=>k_is)
  (case lkQ=>k_is)
  (case hvQ=>rfl)
  (case hfQ=>kernel_rfl)
  (case leQ=>k_is)
  (case fnQ=>k_is)
  (case kpQ=>k_is)
  (case mkQ=>kernel_rfl)
  (case alQ=>kernel_rfl)
  (case atQ0=>kernel_rfl)
  (case atQ1=>kernel_rfl)
  (case atQ2=>kernel_rfl)
  (case rsQ=>kernel_rfl)
  (case topS=>kernel_rfl)
  (case xE=>kernel_rfl)
  (case xk=>kernel_rfl)
  (case xi=>kernel_rfl)
  (case xa=>kernel_rfl)
  (case xmm=>kernel_rfl)
  (case z0=>k_is)
  (case z1=>k_is)
  (case z2=>k_is)
  (case z3=>k_is)
  (case z4=>k_is)
  (case z5=>k_is)
  (case z6=>k_is)
  (case z7=>k_is)
  (case gl0=>k_is)
 case T =>
  intro w h KX
  refine' K12.tab_no ?a14 ?l14 ?lc14 ?h1114 ?tI14 ?n14 ?a17 ?l17 ?lc17 ?h1117 ?tI17 ?n17
  (case a14=>k_is)
  (case l14=>k_is)
  (case lc14=>k_is)
  (case h1114=>rfl)
  (case tI14=>kernel_rfl)
  (case n14=>kernel_rfl)
  (case a17=>k_is)
  (case l17=>k_is)
  (case lc17=>k_is)
  (case h1117=>rfl)
  (case tI17=>kernel_rfl)
  (case n17=>kernel_rfl)
 case G=>decide +kernel
end
