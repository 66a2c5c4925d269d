import PyProof.Rows.All
import Wide.All
import OpenK.AllK
import Wide.FinOn
import Lean
import PyProof.EqAt
import PyProof.EqKinds
import PyProof.TupleCall
import KE.KNest
import KE.KNestM
import KE.KSortTup
import PyProof.CollectWalk
import PyProof.IsRules
import PyProof.Rows.SetFrom
import PyProof.Rows.SortKeyStr
import PyProof.Rows.SortStr
import PyProof.SetKind
import PyProof.TupleOfGen
import PySem.Challenge.RW_cardlanes_k08_lanes_and_counts
set_option Elab.async false
set_option linter.all false
set_option maxRecDepth 100000
section
set_option Elab.async false
set_option linter.all false
set_option maxRecDepth 100000
namespace L2
open PySem PySem.Spec PyProof.Rows
abbrev Key:=Sum Int Str
def keyIs : Key->Value->Bool
 | .inl k,v=>Value.isInt k v
 | .inr x,v=>Value.isStrOf x v
def keyH (w : World) : Key->Int
 | .inl k=>hashInt k
 | .inr x=>hashStr w x
theorem keyIs_shape : ∀ {k : Key} {v : Value},keyIs k v = true->(∃ i t,k = Sum.inl i/\v = Value.int i t)\/(∃ x t,k = Sum.inr x/\v = Value.str x t)
 | .inl i,v,h=>by
  obtain ⟨t,e⟩:=Value.isInt_shape (k:=i) (v:=v) h
  exact .inl ⟨i,t,rfl,e⟩
 | .inr x,v,h=>by
  obtain ⟨t,e⟩:=Value.isStrOf_shape (x:=x) (v:=v) h
  exact .inr ⟨x,t,rfl,e⟩
theorem keyIs_int (i : Int) (t : Tok) : keyIs (.inl i) (.int i t) = true:=by simp [keyIs,Value.isInt]
theorem keyIs_str (x : Str) (t : Tok) : keyIs (.inr x) (.str x t) = true:=by simp [keyIs,Value.isStrOf]
theorem key_ll (a b : Int) : decide ((Sum.inl a : Key) = Sum.inl b) = (a == b):=by
 by_cases e : a = b
 ·subst e;simp
 ·have h : ¬ (Sum.inl a : Key) = Sum.inl b:=fun q=>e (Sum.inl.inj q)
  rw [decide_eq_false h]
  exact (beq_eq_false_iff_ne.mpr e).symm
theorem key_rr (a b : Str) : decide ((Sum.inr a : Key) = Sum.inr b) = decide (a = b):=by
 by_cases e : a = b
 ·subst e;simp
 ·have h : ¬ (Sum.inr a : Key) = Sum.inr b:=fun q=>e (Sum.inr.inj q)
  rw [decide_eq_false h,decide_eq_false e]
theorem key_lr (a : Int) (b : Str) : decide ((Sum.inl a : Key) = Sum.inr b) = false:=decide_eq_false (fun q=>nomatch q)
theorem key_rl (a : Str) (b : Int) : decide ((Sum.inr a : Key) = Sum.inl b) = false:=decide_eq_false (fun q=>nomatch q)
def mixKind (prog : Program) (w : World) : PySem.KeyKind prog w Key where
 is:=keyIs
 hash:=keyH w
 inj:=fun v a b ha hb=>by
  rcases keyIs_shape ha with ⟨i,t,rfl,rfl⟩ | ⟨x,t,rfl,rfl⟩
  ·rcases keyIs_shape hb with ⟨j,u,rfl,e⟩ | ⟨y,u,rfl,e⟩
   ·injection e with e1 _;rw [e1]
   ·exact nomatch e
  ·rcases keyIs_shape hb with ⟨j,u,rfl,e⟩ | ⟨y,u,rfl,e⟩
   ·exact nomatch e
   ·injection e with e1 _;rw [e1]
 byValue:=fun k v h=>by
  rcases keyIs_shape h with ⟨i,t,rfl,rfl⟩ | ⟨x,t,rfl,rfl⟩ <;> rfl
 pyHash:=fun hv h=>by
  rcases keyIs_shape hv with ⟨i,t,rfl,rfl⟩ | ⟨x,t,rfl,rfl⟩
  ·exact wpAny_pyHash_int h
  ·exact wpAny_pyHash_str h
 eqBool:=fun hu hv h=>by
  rcases keyIs_shape hu with ⟨i,t,rfl,rfl⟩ | ⟨x,t,rfl,rfl⟩
  ·rcases keyIs_shape hv with ⟨j,u,rfl,rfl⟩ | ⟨y,u,rfl,rfl⟩
   ·rw [key_ll] at h;exact wpAny_eqBool_int h
   ·rw [key_lr] at h;exact SeqAt.EqAt.int_str i t y u _ _ _ _ h
  ·rcases keyIs_shape hv with ⟨j,u,rfl,rfl⟩ | ⟨y,u,rfl,rfl⟩
   ·rw [key_rl] at h;exact SeqAt.EqAt.str_int x t j u _ _ _ _ h
   ·rw [key_rr] at h;exact wpAny_eqBool_str h
 «strs» := fun k x t v h=>by
  rcases keyIs_shape h with ⟨i,u,rfl,e⟩ | ⟨y,u,rfl,e⟩
  ·exact nomatch e
  ·injection e with e1 _
   subst e1
   cases v <;> rfl
theorem mixKind_int (prog : Program) (w : World) (i : Int) (t : Tok) : (mixKind prog w).is (.inl i) (.int i t) = true:=keyIs_int i t
theorem mixKind_str (prog : Program) (w : World) (x : Str) (t : Tok) : (mixKind prog w).is (.inr x) (.str x t) = true:=keyIs_str x t
end L2
namespace L2
open PySem PySem.Spec PyProof.Rows
inductive V where
 | non | bl (b : Bool) | int (i : Int) | str (x : Str) | byt (b : Array UInt8) | flt (b : UInt64) | ref (a : Addr) | ty (n : String)
 deriving DecidableEq
def RelV : V->Value->Prop
 | .non,u=>u = Value.none
 | .bl b,u=>u = Value.bool b
 | .int i,u=>∃ t,u = Value.int i t
 | .str x,u=>∃ t,u = Value.str x t
 | .byt b,u=>∃ t,u = Value.bytes b t
 | .flt b,u=>∃ t,u = Value.float b t
 | .ref a,u=>u = Value.ref a
 | .ty n,u=>u = Value.type n
abbrev Vals : List V->List Value->Prop:=Paired RelV
theorem Vals.length {xs : List V} {us : List Value} (r : Vals xs us) : xs.length = us.length:=Paired.length r
theorem Vals.get : ∀ {xs : List V} {us : List Value} {i : Nat} {x : V},Vals xs us->xs[i]? = some x->∃ u,us[i]? = some u/\RelV x u
 | _,_,_,_,.nil,e=>by simp at e
 | _,_,0,_,.cons r _,e=>by simp at e;subst e;exact ⟨_,rfl,r⟩
 | _,_,i + 1,x,.cons _ t,e=>by
  obtain ⟨u,h1,h2⟩:=Vals.get (i:=i) (x:=x) t (by simpa using e)
  exact ⟨u,by simpa using h1,h2⟩
theorem Vals.set {x : V} {u : Value} (r : RelV x u) : ∀ {xs : List V} {us : List Value} (i : Nat),Vals xs us->Vals (xs.set i x) (us.set i u)
 | _,_,_,.nil=>.nil
 | _,_,0,.cons _ t=>.cons r t
 | _,_,i + 1,.cons q t=>.cons q (Vals.set r i t)
theorem Vals.append : ∀ {xs ys : List V} {us ws : List Value},Vals xs us->Vals ys ws->Vals (xs ++ ys) (us ++ ws)
 | _,_,_,_,.nil,s=>s
 | _,_,_,_,.cons r t,s=>.cons r (Vals.append t s)
theorem Vals.take : ∀ {xs : List V} {us : List Value} (n : Nat),Vals xs us->Vals (xs.take n) (us.take n)
 | _,_,0,_=>.nil
 | _,_,_ + 1,.nil=>.nil
 | _,_,n + 1,.cons r t=>.cons r (Vals.take n t)
theorem Vals.drop : ∀ {xs : List V} {us : List Value} (n : Nat),Vals xs us->Vals (xs.drop n) (us.drop n)
 | _,_,0,r=>r
 | _,_,_ + 1,.nil=>.nil
 | _,_,n + 1,.cons _ t=>Vals.drop n t
def RelO : Option V->Option Value->Prop
 | some v,some u=>RelV v u
 | none,none=>True
 | _,_=>False
def KV {κ : Type} : List (κ × V)->List (κ × Value)->Prop:=Paired fun (p : κ × V) (q : κ × Value)=>p.1 = q.1/\RelV p.2 q.2
def kV : Key->V
 | .inl i=>.int i
 | .inr x=>.str x
inductive HO where
 | lst (xs : List V)
 | tup (xs : List V)
 | dK (kvs : List (Key × V)) | dT (kvs : List (List Key × V))
 | set (S : Int->Bool) (n : Nat)
 | ins (C dx : Addr) (fs : List (Str × V))
 | own (x : Addr)
 | xd (fs : List (Str × V))
 | met (f x : Addr)
 | rng (lo hi : Int)
 | frz (o : Obj) (u : HO)
 | tbl (ps : Array Value)
 | ext (φ : Heap->Prop)
abbrev Hp:=Addr->Option HO
def upd (H : Hp) (a : Addr) (o : HO) : Hp:=fun b=>if b = a then some o else H b
theorem upd_same {H : Hp} {a : Addr} {o : HO} : upd H a o a = some o:=by unfold upd;rw [if_pos rfl]
theorem upd_ne {H : Hp} {a b : Addr} {o : HO} (h : b ≠ a) : upd H a o b = H b:=by unfold upd;rw [if_neg h]
theorem upd_upd {H : Hp} {a : Addr} {o u : HO} : upd (upd H a o) a u = upd H a u:=by
 funext b;unfold upd;split <;> rfl
theorem ne_of_none {H : Hp} {a b : Addr} {o : HO} (h : H a = some o) (h' : H b = none) : a ≠ b:=by
 intro e;subst e;rw [h] at h';cases h'
section
variable (P : Program) (w : World)
def ObjOk (H : Hp) (h : Heap) (a : Addr) : HO->Prop
 | .lst xs=>xs.length <= sizeLine/\∃ (its : List Value) (n : Nat),Vals xs its/\h.get? a = some { cls:=.type "list",data:=.seq its.toArray n }
 | .tup xs=>xs.length <= sizeLine/\∃ its : List Value,Vals xs its/\IsTup h a its.toArray/\∃ o,h.get? a = some o/\o.dict = none
 | .dK kvs=>kvs.length <= sizeLine/\(a == sysModules) = false/\∃ vs,KV kvs vs/\h.DictOf (mixKind P w) a vs
 | .dT kvs=>kvs.length <= sizeLine/\(a == sysModules) = false/\∃ xs : List (List Key × Addr × Value),
   Paired (fun (p : List Key × V) (q : List Key × Addr × Value)=>p.1 = q.1/\H q.2.1 = some (.tup (p.1.map kV))/\RelV p.2 q.2.2) kvs xs /\
   ∃ o es ep,h.get? a = some o/\o.ExactDict/\o.data = .dict es ep/\es.toList = xs.map (entryOfKey (tupleKind (mixKind P w)))/\(xs.map (·.1)).Nodup
 | .set S n=>h.SetOf (intKind P w) a S n
 | .ins C dx fs=>H dx = some (.own a)/\fs.length <= 1000/\dx ≠ a/\h.get? a = some (PySem.W.instObj C dx) /\
   ∃ mA,h.Ns1 dx mA/\(∀ f,RelO (fs.lookup f) (mA f))/\PySem.Within mA (fs.map (·.1))
 | .own _=>∃ o,h.get? a = some o
 | .xd fs=>∃ mA,h.Ns1 a mA/\∀ f,RelO (fs.lookup f) (mA f)
 | .rng lo hi=>∃ t u v,h.get? a = some { cls:=.type "range",data:=.fields #[.int lo t,.int hi u,.int 1 v] }
 | .frz o u=>h.get? a = some o/\ObjOk H h a u
 | .tbl ps=>h.get? a = some { cls:=.none,data:=.fields ps }
 | .met f x=>h.get? a = some (PySem.W.methodObj (.ref f) (.ref x))
 | .ext φ=>φ h/\(∃ o,h.get? a = some o)/\∀ h1 h2 : Heap,φ h1->(∀ o,h1.get? a = some o->h2.get? a = some o)->φ h2
def HOk (H : Hp) (h : Heap) : Prop := ∀ a o,H a = some o->ObjOk P w H h a o
end
section
variable {P : Program} {w : World} {H H' : Hp} {h h' : Heap} {a : Addr} {o : HO}
theorem ObjOk.lt (x : ObjOk P w H h a o) : a < h.objs.size:=by
 cases o with
 | lst xs=>obtain ⟨_,_,_,_,e⟩:=x;exact Heap.lt_size e
 | tup xs=>obtain ⟨_,_,_,p,_⟩:=x;exact p.lt
 | dK kvs=>obtain ⟨_,_,_,_,o,_,_,e,_⟩:=x;exact Heap.lt_size e
 | dT kvs=>obtain ⟨_,_,_,_,o,_,_,e,_⟩:=x;exact Heap.lt_size e
 | set S n=>obtain ⟨o,_,_,_,e,_⟩:=x;exact Heap.lt_size e
 | ins C dx fs=>obtain ⟨_,_,_,e,_⟩:=x;exact Heap.lt_size e
 | own y=>obtain ⟨_,e⟩:=x;exact Heap.lt_size e
 | xd fs=>obtain ⟨_,⟨_,_,_,e,_⟩,_⟩:=x;exact Heap.lt_size e
 | rng lo hi=>obtain ⟨_,_,_,e⟩:=x;exact Heap.lt_size e
 | frz ob u=>obtain ⟨e,_⟩:=x;exact Heap.lt_size e
 | tbl ps=>exact Heap.lt_size (show h.get? a = some _ from x)
 | met f y=>exact Heap.lt_size (show h.get? a = some _ from x)
 | ext φ=>obtain ⟨_,⟨_,e⟩,_⟩:=x;exact Heap.lt_size e
theorem Paired.mapP {α β : Type} {F G : α->β->Prop} : ∀ {l₁ : List α} {l₂ : List β},Paired F l₁ l₂->(∀ a b,F a b->G a b)->Paired G l₁ l₂
 | _,_,.nil,_=>.nil
 | _,_,.cons r t,f=>.cons (f _ _ r) (Paired.mapP t f)
theorem ObjOk.stay (x : ObjOk P w H h a o) (k : ∀ b u,(b = a\/H b = some (.own a))->h.get? b = some u->h'.get? b = some u)
  (ho : ∀ b,H b = some (.own a)->H' b = some (.own a)) (ht : ∀ b xs,H b = some (.tup xs)->H' b = some (.tup xs)) : ObjOk P w H' h' a o:=by
 induction o with
 | lst xs=>obtain ⟨z,its,n,r,e⟩:=x;exact ⟨z,its,n,r,k _ _ (.inl rfl) e⟩
 | tup xs=>obtain ⟨z,its,r,⟨ob,e,c⟩,od,e2,hd⟩:=x;exact ⟨z,its,r,⟨ob,k _ _ (.inl rfl) e,c⟩,od,k _ _ (.inl rfl) e2,hd⟩
 | dK kvs=>obtain ⟨z,y,vs,r,ob,es,ep,e,c⟩:=x;exact ⟨z,y,vs,r,ob,es,ep,k _ _ (.inl rfl) e,c⟩
 | dT kvs =>
  obtain ⟨z,y,xs,r,ob,es,ep,e,c⟩:=x
  exact ⟨z,y,xs,Paired.mapP r fun p q z=>⟨z.1,ht _ _ z.2.1,z.2.2⟩,ob,es,ep,k _ _ (.inl rfl) e,c⟩
 | set S n=>obtain ⟨ob,es,ep,t,e,c⟩:=x;exact ⟨ob,es,ep,t,k _ _ (.inl rfl) e,c⟩
 | ins C dx fs =>
  obtain ⟨d,z,ne,e,mA,⟨od,es,ep,e2,c⟩,r⟩:=x
  exact ⟨ho _ d,z,ne,k _ _ (.inl rfl) e,mA,⟨od,es,ep,k _ _ (.inr d) e2,c⟩,r⟩
 | own y=>obtain ⟨ob,e⟩:=x;exact ⟨ob,k _ _ (.inl rfl) e⟩
 | xd fs=>obtain ⟨mA,⟨od,es,ep,e,c⟩,r⟩:=x;exact ⟨mA,⟨od,es,ep,k _ _ (.inl rfl) e,c⟩,r⟩
 | rng lo hi=>obtain ⟨t,u,v,e⟩:=x;exact ⟨t,u,v,k _ _ (.inl rfl) e⟩
 | frz ob u ih=>obtain ⟨e,q⟩:=x;exact ⟨k _ _ (.inl rfl) e,ih q⟩
 | tbl ps =>
  have e : h.get? a = some { cls:=.none,data:=.fields ps }:=x
  show h'.get? a = some { cls:=.none,data:=.fields ps }
  exact k a _ (.inl rfl) e
 | met f y =>
  have e : h.get? a = some (PySem.W.methodObj (.ref f) (.ref y)):=x
  show h'.get? a = some (PySem.W.methodObj (.ref f) (.ref y))
  exact k a _ (.inl rfl) e
 | ext φ=>obtain ⟨p,⟨o,e⟩,st⟩:=x;exact ⟨st _ _ p fun o q=>k _ _ (.inl rfl) q,⟨o,k _ _ (.inl rfl) e⟩,st⟩
theorem HOk.lt (x : HOk P w H h) (e : H a = some o) : a < h.objs.size:=(x a o e).lt
theorem HOk.fresh (x : HOk P w H h) (e : h.objs.size <= a) : H a = none:=by
 cases q : H a with
 | none=>rfl
 | some u=>exact absurd (Nat.lt_of_lt_of_le (x.lt q) e) (Nat.lt_irrefl _)
theorem HOk.kept (x : HOk P w H h) (k : ∀ b u,h.get? b = some u->h'.get? b = some u) : HOk P w H h':=fun a o e =>
 (x a o e).stay (fun b u _ q=>k b u q) (fun _ q=>q) fun _ _ q=>q
theorem HOk.laid (x : HOk P w H h) (k : ∀ b u,h.get? b = some u->h'.get? b = some u) (hp : h.objs.size <= a) (new : ObjOk P w (upd H a o) h' a o) : HOk P w (upd H a o) h':=fun b u e=>by
 have hn:=x.fresh hp
 by_cases hb : b = a
 ·subst hb;rw [upd_same] at e;cases e;exact new
 ·rw [upd_ne hb] at e
  exact (x b u e).stay (fun c v _ q=>k c v q) (fun c q=>by rw [upd_ne (ne_of_none q hn)];exact q) fun c xs q=>by rw [upd_ne (ne_of_none q hn)];exact q
end
def Rd (H : Hp) (a : Addr) (u : HO) : Prop:=H a = some u\/∃ o,H a = some (.frz o u)
theorem Rd.of {H : Hp} {a : Addr} {u : HO} (h : H a = some u) : Rd H a u:=.inl h
theorem Rd.ok {P : Program} {w : World} {H : Hp} {h : Heap} {a : Addr} {u : HO} (r : Rd H a u) (x : HOk P w H h) : ObjOk P w H h a u:=by
 rcases r with r | ⟨o,r⟩
 ·exact x a u r
 ·obtain ⟨_,q⟩:=x a _ r
  exact q
def Mut : Option HO->Prop
 | some (.lst _)=>True
 | some (.dK _)=>True
 | some (.dT _)=>True
 | some (.set _ _)=>True
 | some (.ins _ _ _)=>True
 | some (.ext _)=>True
 | _=>False
section
variable {P : Program} {w : World} {H : Hp} {h h' : Heap} {x e : Addr} {o' : HO}
theorem HOk.write (ok : HOk P w H h) (mu : Mut (H x)) (he : e = x\/H e = some (.own x)) (k : ∀ b u,b ≠ e->h.get? b = some u->h'.get? b = some u) (heo : ∃ u,h'.get? e = some u)
  (new : ObjOk P w (upd H x o') h' x o') : HOk P w (upd H x o') h':=fun b u q=>by
 have nown : ∀ c y,H c = some (.own y)->c ≠ x:=fun c y r z=>by subst z;rw [r] at mu;exact mu
 have ntup : ∀ c xs,H c = some (.tup xs)->c ≠ x:=fun c xs r z=>by subst z;rw [r] at mu;exact mu
 by_cases hb : b = x
 ·subst hb;rw [upd_same] at q;cases q;exact new
 ·rw [upd_ne hb] at q
  by_cases hbe : b = e
  ·have q' : H b = some (.own x):=by
    rcases he with z | z
    ·exact absurd (hbe.trans z) hb
    ·rw [hbe];exact z
   rw [q] at q';cases q'
   obtain ⟨v,hv⟩:=heo
   exact ⟨v,by rw [hbe];exact hv⟩
  ·refine (ok b u q).stay (fun c v hc r=>k c v ?_ r) (fun c r=>by rw [upd_ne (nown c b r)];exact r) fun c xs r=>by rw [upd_ne (ntup c xs r)];exact r
   rcases hc with rfl | hc
   ·exact hbe
   ·rintro rfl
    rcases he with z | z
    ·exact nown c b hc z
    ·rw [hc] at z;cases z;exact hb rfl
end
structure Un (fs ex : List Addr) (H H' : Hp) (h h' : Heap) : Prop where
 keep : ∀ b o,h.get? b = some o->H b = none->b ∉ fs->b ∉ ex->h'.get? b = some o
 slot : ∀ b o,h.get? b = some o->H b = none->b ∈ fs->b ∉ ex->∃ sl,h'.get? b = some { o with slots:=sl }
 free : ∀ b o,h.get? b = some o->H b = none->b ∉ ex->H' b = none
 there : ∀ b o,h.get? b = some o->b ∉ ex->∃ o',h'.get? b = some o'
 tups : ∀ b xs,H b = some (.tup xs)->H' b = some (.tup xs)
 frzs : ∀ b o u,H b = some (.frz o u)->H' b = some (.frz o u)
 tbls : ∀ b ps,H b = some (.tbl ps)->∃ more,H' b = some (.tbl (ps ++ more))
section
variable {fs fs' ex ex' : List Addr} {H H1 H2 : Hp} {h h1 h2 h' : Heap} {a x e : Addr} {o : HO}
theorem Un.any (u : Un fs ex H H1 h h1) {b : Addr} {ob : Obj} (q : h.get? b = some ob) (n : H b = none) (hx : b ∉ ex) : ∃ sl,h1.get? b = some { ob with slots:=sl }:=by
 by_cases hb : b ∈ fs
 ·exact u.slot b ob q n hb hx
 ·exact ⟨ob.slots,u.keep b ob q n hb hx⟩
theorem Un.trans (a : Un fs ex H H1 h h1) (b : Un fs ex H1 H2 h1 h2) : Un fs ex H H2 h h2 where
 keep:=fun c ob q n hc hx=>b.keep c ob (a.keep c ob q n hc hx) (a.free c ob q n hx) hc hx
 slot:=fun c ob q n hc hx=>by
  obtain ⟨sl,e1⟩:=a.slot c ob q n hc hx
  obtain ⟨sl',e2⟩:=b.slot c _ e1 (a.free c ob q n hx) hc hx
  exact ⟨sl',e2⟩
 free:=fun c ob q n hx=>by
  obtain ⟨o',e1⟩:=a.there c ob q hx
  exact b.free c o' e1 (a.free c ob q n hx) hx
 there:=fun c ob q hx=>by
  obtain ⟨o',e1⟩:=a.there c ob q hx
  exact b.there c o' e1 hx
 tups:=fun c xs q=>b.tups c xs (a.tups c xs q)
 frzs:=fun c ob xs q=>b.frzs c ob xs (a.frzs c ob xs q)
 tbls:=fun c ps q=>by
  obtain ⟨m1,e1⟩:=a.tbls c ps q
  obtain ⟨m2,e2⟩:=b.tbls c _ e1
  exact ⟨m1 ++ m2,by rw [e2,Array.append_assoc]⟩
theorem Un.kept (k : ∀ b u,h.get? b = some u->h'.get? b = some u) : Un fs ex H H h h' :=
 ⟨fun b ob q _ _ _=>k b ob q,fun b ob q _ _ _=>⟨ob.slots,k b ob q⟩,fun _ _ _ n _=>n,fun b ob q _=>⟨ob,k b ob q⟩,fun _ _ q=>q,fun _ _ _ q=>q,fun _ ps q=>⟨#[],by rw [q];simp⟩⟩
theorem Un.refl : Un fs ex H H h h:=Un.kept fun _ _ q=>q
theorem Un.laid (k : ∀ b u,h.get? b = some u->h'.get? b = some u) (hp : h.objs.size <= a) (hn : H a = none) : Un fs ex H (upd H a o) h h' where
 keep:=fun b u q _ _ _=>k b u q
 slot:=fun b u q _ _ _=>⟨u.slots,k b u q⟩
 free:=fun b u q n _=>by rw [upd_ne (Nat.ne_of_lt (Nat.lt_of_lt_of_le (Heap.lt_size q) hp))];exact n
 there:=fun b u q _=>⟨u,k b u q⟩
 tups:=fun b xs q=>by rw [upd_ne (ne_of_none q hn)];exact q
 frzs:=fun b u xs q=>by rw [upd_ne (ne_of_none q hn)];exact q
 tbls:=fun b ps q=>⟨#[],by rw [upd_ne (ne_of_none q hn),q];simp⟩
theorem Un.write (mu : Mut (H x)) (he : e = x\/H e = some (.own x)) (k : ∀ b u,b ≠ e->h.get? b = some u->h'.get? b = some u) (heo : ∃ u,h'.get? e = some u) : Un fs ex H (upd H x o) h h':=by
 have hx : ∀ b,H b = none->b ≠ x:=fun b n z=>by subst z;rw [n] at mu;exact mu
 have hb : ∀ b,H b = none->b ≠ e:=fun b n z=>by
  subst z
  rcases he with r | r
  ·exact hx b n r
  ·rw [n] at r;cases r
 have hm : ∀ b u,H b = some u->¬ Mut (some u)->b ≠ x:=fun b u q nm z=>by subst z;rw [q] at mu;exact nm mu
 refine ⟨fun b u q n _ _=>k b u (hb b n) q,fun b u q n _ _=>⟨u.slots,k b u (hb b n) q⟩,fun b u q n _=>by rw [upd_ne (hx b n)];exact n,fun b u q _=>?_,
  fun b xs q=>by rw [upd_ne (hm b _ q fun z=>z)];exact q,fun b u xs q=>by rw [upd_ne (hm b _ q fun z=>z)];exact q,fun b ps q=>⟨#[],by rw [upd_ne (hm b _ q fun z=>z),q];simp⟩⟩
 by_cases hbe : b = e
 ·subst hbe;exact heo
 ·exact ⟨u,k b u hbe q⟩
theorem Un.mono (u : Un fs ex H H1 h h1) (hs : ∀ b ∈ fs,b ∈ fs') (hx : ∀ b ∈ ex,b ∈ ex') : Un fs' ex' H H1 h h1 :=
 ⟨fun b ob q n hb he=>u.keep b ob q n (fun z=>hb (hs b z)) fun z=>he (hx b z),fun _ _ q n _ he=>u.any q n fun z=>he (hx _ z),fun b ob q n he=>u.free b ob q n fun z=>he (hx b z),fun b ob q he=>u.there b ob q fun z=>he (hx b z),u.tups,u.frzs,u.tbls⟩
end
def trk (h : Heap) (H : Hp) : List Addr:=(List.range h.objs.size).filter fun a=>(H a).isSome
def hidT (h : Heap) (H : Hp) : Heap:=PySem.W.hideAll h (trk h H)
theorem hidT_size (h : Heap) (H : Hp) : (hidT h H).objs.size = h.objs.size:=PySem.W.hideAll_size _ _
theorem hidT_get {h : Heap} {H : Hp} {b : Addr} {o : Obj} (e : h.get? b = some o) (n : H b = none) : (hidT h H).get? b = some o :=
 PySem.W.hideAll_get _ e fun hm=>by
  have q : (H b).isSome = true:=(List.mem_filter.mp hm).2
  rw [n] at q;simp at q
theorem of_hidT {h : Heap} {H : Hp} {b : Addr} {o : Obj} (e : (hidT h H).get? b = some o) : h.get? b = some o/\H b = none:=by
 have e' : h.get? b = some o:=PySem.W.of_hideAll (trk h H) e
 refine ⟨e',?_⟩
 cases q : H b with
 | none=>rfl
 | some x =>
  have hm : b ∈ trk h H:=List.mem_filter.mpr ⟨List.mem_range.mpr (Heap.lt_size e'),by simp [q]⟩
  have z : (hidT h H).get? b = none:=PySem.W.hideAll_none (trk h H) hm
  rw [z] at e;cases e
def allNews (g h : Heap) (L : Addr) : List (Addr × Obj):=(List.range h.objs.size).filterMap fun a=>if a = L\/(g.get? a).isSome = true then none else (h.get? a).map fun o=>(a,o)
def rest (g h : Heap) (L d : Addr) : List (Addr × Obj):=(allNews g h L).filter fun p=>decide (p.1 ≠ d)
end L2
namespace L2
open PySem PySem.Spec PyProof.Rows
structure Mod (K : PySem.W.Frag) (mg : Str->Option Value) (base : Heap) : Prop where
 kin : K.In base
 glob : base.Ns mainGlobals mg
 blt : ∃ mb,base.Ns builtinsNs mb/\∀ x : Str,x ≠ "__name__"->mb x = bootBuiltins x
 nolimit : base.NoLimit
structure Cx where
 prog : Program
 w : World
 K : PySem.W.Frag
 mg : Str->Option Value
 base : Heap
 A : Around
 N : List Str
 s₀ : Shared
 H₀ : Hp
 env : Env
 outer : List Env
 stack : List Env
 ex : List Addr
 fn : Str->Bool
 calm : Bool
 pn : List (Addr × Obj)
 xe : Value->Shared->Prop
def frs (l : List Env) : List Addr:=l.filterMap (·.frame)
abbrev Cx.fs (X : Cx) : List Addr:=frs X.outer
def Vis (sc : Scope) (x : Str) : Prop:=sc.names.lookup x = some .local\/sc.names.lookup x = some .cell\/sc.names.lookup x = some .free
def Loc (sc : Scope) (x : Str) : Prop:=sc.names.lookup x = some .local\/sc.names.lookup x = some .cell
def Look (env : Env) (h : Heap) (m : Str->Option Value) (x : Str) (u : Value) : Prop :=
 (env.kindOf x = some .local/\m x = some u)\/((env.kindOf x = some .cell\/env.kindOf x = some .free)/\∃ c,env.cells.lookup x = some c/\h.IsCell c (some u))
structure Cx.Ok (X : Cx) : Prop where
 mod : Mod X.K X.mg X.base
 kind : X.env.scope.kind = .function
 glob : X.env.globals = mainGlobals
 blt : X.env.builtins = builtinsNs
 above : X.s₀.heap.objs.size <= X.env.locals
 inj : ∀ x y c,X.env.cells.lookup x = some c->X.env.cells.lookup y = some c->x = y
 has : ∀ x,(X.env.kindOf x = some .cell\/X.env.kindOf x = some .free)->∃ c,X.env.cells.lookup x = some c
 cab : ∀ x c,X.fn x = true->X.env.cells.lookup x = some c->X.s₀.heap.objs.size <= c
 hd : X.calm = true->X.A.handled = none
 frames : X.A.frames = some X.stack
 stk : X.stack = X.outer\/(X.stack = X.env :: X.outer/\X.env.frame = some X.env.locals)
 exf : ∀ b ∈ X.ex,b ≠ X.env.locals/\∀ x c,X.env.cells.lookup x = some c->c ≠ b
 bs : ∀ b o,X.base.get? b = some o->X.s₀.heap.get? b = some o/\X.H₀ b = none
 bsz : X.base.objs.size <= X.s₀.heap.objs.size
 noex : ∀ b o,X.base.get? b = some o->b ∉ X.ex
 exfs : ∀ b ∈ X.ex,b ∉ X.fs
 funs : X.s₀.heap.FunFrames X.base X.outer
 frf : ∀ b ∈ X.fs,X.H₀ b = none
def GOk (g₀ g : Array GenState) : Prop:=AllBare g/\g₀.size <= g.size
structure Inv (X : Cx) (pins : List (Addr × Obj)) (σ : List (Option V)) (H : Hp) (s : Shared) : Prop where
 ok : X.Ok
 os : s.os = X.s₀.os
 bare : GOk X.s₀.gens s.gens
 base : Un X.fs X.ex X.H₀ H X.s₀.heap s.heap
 loc : ∃ m,s.heap.Ns X.env.locals m/\∀ (i : Nat) (x : Str) (v : V),X.N[i]? = some x->σ[i]? = some (some v)->Vis X.env.scope x->∃ u,RelV v u/\Look X.env s.heap m x u
 cell : ∀ x c,X.env.cells.lookup x = some c->∃ v,s.heap.IsCell c v
 free : H X.env.locals = none
 freeC : ∀ x c,X.env.cells.lookup x = some c->H c = none
 pin : ∀ p ∈ X.pn ++ pins,s.heap.get? p.1 = some p.2/\H p.1 = none/\p.1 ≠ X.env.locals/\p.1 ∉ X.fs/\∀ v,p.2.data ≠ .cell v
 hok : HOk X.prog X.w H s.heap
 len : σ.length = X.N.length
section
variable {X : Cx} {pins : List (Addr × Obj)} {σ : List (Option V)} {H H' : Hp} {s : Shared} {h' : Heap}
theorem Cx.Ok.nofr (ok : X.Ok) {b : Addr} {o : Obj} (e : X.base.get? b = some o) : b ∉ X.fs:=fun hb=>by
 have:=(ok.funs.mem hb).1
 rw [e] at this;cases this
theorem Inv.bs (I : Inv X pins σ H s) : ∀ b o,X.base.get? b = some o->s.heap.get? b = some o/\H b = none:=fun b o e =>
 ⟨I.base.keep b o (I.ok.bs b o e).1 (I.ok.bs b o e).2 (I.ok.nofr e) (I.ok.noex b o e),I.base.free b o (I.ok.bs b o e).1 (I.ok.bs b o e).2 (I.ok.noex b o e)⟩
theorem Inv.bk (I : Inv X pins σ H s) : ∀ b o,X.base.get? b = some o->s.heap.get? b = some o:=fun b o e=>(I.bs b o e).1
theorem Inv.mod (I : Inv X pins σ H s) : Mod X.K X.mg X.base:=I.ok.mod
theorem Inv.kIn (I : Inv X pins σ H s) : X.K.In s.heap:=I.ok.mod.kin.keeps I.bk
theorem Inv.nolimit (I : Inv X pins σ H s) : s.heap.NoLimit:=I.ok.mod.nolimit.keeps I.bk
theorem Inv.fr (I : Inv X pins σ H s) : ∃ m,Fr X.base X.env.locals s.heap m :=
 let ⟨m,hn,_⟩:=I.loc
 ⟨m,hn,I.bk,Nat.le_trans I.ok.bsz I.ok.above⟩
theorem Inv.lt (I : Inv X pins σ H s) : X.env.locals < s.heap.objs.size:=let ⟨_,hn,_⟩:=I.loc;hn.lt
theorem Inv.sz (I : Inv X pins σ H s) : X.s₀.heap.objs.size <= s.heap.objs.size:=Nat.le_trans I.ok.above (Nat.le_of_lt I.lt)
theorem Inv.nofs (I : Inv X pins σ H s) {a : Addr} (h : s.heap.objs.size <= a) : a ∉ X.fs:=fun hb=>by
 obtain ⟨_,o,ho,_⟩:=I.ok.funs.mem hb
 exact absurd (Nat.lt_of_lt_of_le (Heap.lt_size ho) (Nat.le_trans I.sz h)) (Nat.lt_irrefl _)
theorem Inv.cne (I : Inv X pins σ H s) : ∀ x c,X.env.cells.lookup x = some c->c ≠ X.env.locals:=fun x c e z=>by
 obtain ⟨v,o,ho,hd⟩:=I.cell x c e
 obtain ⟨m,⟨o',es,ep,ho',hd',_⟩,_⟩:=I.loc
 rw [z,ho'] at ho;cases ho;rw [hd'] at hd;cases hd
theorem Inv.funs (I : Inv X pins σ H s) : s.heap.FunFrames X.base X.outer:=by
 have all : ∀ (l : List Env),(∀ b ∈ frs l,b ∈ X.fs)->X.s₀.heap.FunFrames X.base l->s.heap.FunFrames X.base l:=by
  intro l
  induction l with
  | nil=>intro _ _;trivial
  | cons env r ih =>
   intro hs hl
   obtain ⟨hk,⟨L,o,hf,hn,ho,hd⟩,hr⟩:=hl
   have hL : L ∈ X.fs:=hs L (by unfold frs;rw [List.filterMap_cons,hf];exact List.mem_cons_self)
   obtain ⟨sl,e⟩:=I.base.slot L o ho (I.ok.frf L hL) hL fun z=>I.ok.exfs L z hL
   exact ⟨hk,⟨L,_,hf,hn,e,hd⟩,ih (fun b hb=>hs b (by unfold frs;rw [List.filterMap_cons,hf];exact List.mem_cons_of_mem _ hb)) hr⟩
 exact all X.outer (fun _ hb=>hb) I.ok.funs
theorem Inv.stack (I : Inv X pins σ H s) : s.heap.FunFrames X.base X.stack:=by
 rcases I.ok.stk with e | ⟨e,hf⟩
 ·rw [e];exact I.funs
 ·rw [e]
  obtain ⟨m,hn,_⟩:=I.loc
  refine .cons (by rw [I.ok.kind];decide) hf hn ?_ I.funs
  exact Heap.get?_none_of_le (Nat.le_trans I.ok.bsz I.ok.above)
theorem Inv.stkSub (I : Inv X pins σ H s) : ∀ b ∈ frs X.stack,b ∈ X.env.locals :: X.fs:=fun b hb=>by
 rcases I.ok.stk with e | ⟨e,hf⟩
 ·rw [e] at hb;exact List.mem_cons_of_mem _ hb
 ·rw [e] at hb
  unfold frs at hb
  rw [List.filterMap_cons,hf] at hb
  exact hb
theorem Inv.stkFree (I : Inv X pins σ H s) : ∀ b ∈ frs X.stack,H b = none:=fun b hb=>by
 rcases List.mem_cons.mp (I.stkSub b hb) with e | hb
 ·rw [e];exact I.free
 ·obtain ⟨_,o,ho,_⟩:=I.ok.funs.mem hb
  exact I.base.free b o ho (I.ok.frf b hb) fun z=>I.ok.exfs b z hb
theorem Inv.step {g' : Array GenState} {t' : Nat} {d' : Drawn} {ch : List Addr} (I : Inv X pins σ H s)
  (hch : ∀ b ∈ ch,(b ∈ X.ex\/X.s₀.heap.objs.size <= b)/\b ≠ X.env.locals/\(∀ x c,X.env.cells.lookup x = some c->c ≠ b)/\∀ p ∈ X.pn ++ pins,p.1 ≠ b)
  (keep : ∀ b o,b ≠ X.env.locals->b ∉ X.fs->b ∉ ch->s.heap.get? b = some o->H b = none->h'.get? b = some o)
  (slot : ∀ b o,b ≠ X.env.locals->b ∈ X.fs->b ∉ ch->s.heap.get? b = some o->H b = none->∃ sl,h'.get? b = some { o with slots:=sl }) (free : ∀ b o,b ∉ ch->s.heap.get? b = some o->H b = none->H' b = none)
  (there : ∀ b o,b ∉ ch->s.heap.get? b = some o->∃ o',h'.get? b = some o')
  (tups : ∀ b xs,H b = some (.tup xs)->H' b = some (.tup xs)) (frzs : ∀ b o u,H b = some (.frz o u)->H' b = some (.frz o u)) (tbls : ∀ b ps,H b = some (.tbl ps)->∃ more,H' b = some (.tbl (ps ++ more)))
  (ns : ∀ m,s.heap.Ns X.env.locals m->h'.Ns X.env.locals m) (hok : HOk X.prog X.w H' h') (hg : GOk s.gens g') :
  Inv X pins σ H' { s with heap:=h',gens:=g',drawn:=d',toks:=t' }:=by
 have neL : ∀ b o,X.s₀.heap.get? b = some o->b ≠ X.env.locals:=fun b o e=>Nat.ne_of_lt (Nat.lt_of_lt_of_le (Heap.lt_size e) I.ok.above)
 have neC : ∀ b o,X.s₀.heap.get? b = some o->b ∉ X.ex->b ∉ ch:=fun b o e hx hb=>by
  rcases (hch b hb).1 with z | z
  ·exact hx z
  ·exact absurd (Nat.lt_of_lt_of_le (Heap.lt_size e) z) (Nat.lt_irrefl _)
 have cellK : ∀ x c,X.env.cells.lookup x = some c->∀ v,s.heap.IsCell c v->h'.IsCell c v:=fun x c e v ⟨o,ho,hd⟩=>by
  have nch : c ∉ ch:=fun z=>(hch c z).2.2.1 x c e rfl
  by_cases hc : c ∈ X.fs
  ·obtain ⟨sl,q⟩:=slot c o (I.cne x c e) hc nch ho (I.freeC x c e)
   exact ⟨_,q,hd⟩
  ·exact ⟨o,keep c o (I.cne x c e) hc nch ho (I.freeC x c e),hd⟩
 refine ⟨I.ok,I.os,⟨hg.1,Nat.le_trans I.bare.2 hg.2⟩,⟨fun b o e n hb hx=>?_,fun b o e n hb hx=>?_,fun b o e n hx=>?_,fun b o e hx=>?_,fun b xs e=>tups b xs (I.base.tups b xs e),fun b o xs e=>frzs b o xs (I.base.frzs b o xs e),fun b ps e=>?_⟩,?_,fun x c e=>?_,?_,fun x c e=>?_,fun p hp=>?_,hok,I.len⟩
 ·exact keep b o (neL b o e) hb (neC b o e hx) (I.base.keep b o e n hb hx) (I.base.free b o e n hx)
 ·obtain ⟨sl,e1⟩:=I.base.slot b o e n hb hx
  obtain ⟨sl',e2⟩:=slot b _ (neL b o e) hb (neC b o e hx) e1 (I.base.free b o e n hx)
  exact ⟨sl',e2⟩
 ·obtain ⟨o',e1⟩:=I.base.there b o e hx
  exact free b o' (neC b o e hx) e1 (I.base.free b o e n hx)
 ·obtain ⟨o',e1⟩:=I.base.there b o e hx
  exact there b o' (neC b o e hx) e1
 ·obtain ⟨m1,e1⟩:=I.base.tbls b ps e
  obtain ⟨m2,e2⟩:=tbls b _ e1
  exact ⟨m1 ++ m2,by rw [e2,Array.append_assoc]⟩
 ·obtain ⟨m,hn,hl⟩:=I.loc
  refine ⟨m,ns m hn,fun i x v e1 e2 e3=>?_⟩
  obtain ⟨u,r,l⟩:=hl i x v e1 e2 e3
  refine ⟨u,r,?_⟩
  rcases l with l | ⟨k,c,e,z⟩
  ·exact .inl l
  ·exact .inr ⟨k,c,e,cellK x c e _ z⟩
 ·obtain ⟨v,z⟩:=I.cell x c e
  exact ⟨v,cellK x c e v z⟩
 ·obtain ⟨m,⟨o,_,_,ho,_⟩,_⟩:=I.loc
  exact free _ o (fun z=>(hch _ z).2.1 rfl) ho I.free
 ·obtain ⟨v,o,ho,hd⟩:=I.cell x c e
  exact free c o (fun z=>(hch c z).2.2.1 x c e rfl) ho (I.freeC x c e)
 ·obtain ⟨e,n,ne,nf,d⟩:=I.pin p hp
  have nch : p.1 ∉ ch:=fun z=>(hch p.1 z).2.2.2 p hp rfl
  exact ⟨keep p.1 p.2 ne nf nch e n,free p.1 p.2 nch e n,ne,nf,d⟩
theorem Inv.un {t' : Nat} (I : Inv X pins σ H s) (u : Un X.fs [] H H' s.heap h') (hok : HOk X.prog X.w H' h') : Inv X pins σ H' { s with heap:=h',toks:=t' }:=by
 obtain ⟨m,⟨o,es,ep,ho,r⟩,_⟩:=id I.loc
 obtain ⟨sl,hL⟩:=u.any ho I.free (by simp)
 exact I.step (g':=s.gens) (d':=s.drawn) (ch:=[]) (fun _ z=>nomatch z) (fun b o _ hb _ e n=>u.keep b o e n hb (by simp)) (fun b o _ hb _ e n=>u.slot b o e n hb (by simp)) (fun b o _ e n=>u.free b o e n (by simp)) (fun b o _ e=>u.there b o e (by simp)) u.tups u.frzs u.tbls (fun m' hm=>by
  obtain ⟨o',es',ep',ho',r'⟩:=hm
  rw [ho] at ho';cases ho'
  exact ⟨_,es',ep',hL,r'⟩) hok ⟨I.bare.1,Nat.le_refl _⟩
theorem Inv.call {g' : Array GenState} {t' : Nat} {d' : Drawn} {ch : List Addr} (I : Inv X pins σ H s) (u : Un (frs X.stack) ch H H' s.heap h') (hok : HOk X.prog X.w H' h') (hg : GOk s.gens g')
  (hch : ∀ b ∈ ch,(b ∈ X.ex\/X.s₀.heap.objs.size <= b)/\b ≠ X.env.locals/\(∀ x c,X.env.cells.lookup x = some c->c ≠ b)/\∀ p ∈ X.pn ++ pins,p.1 ≠ b) :
  Inv X pins σ H' { s with heap:=h',gens:=g',drawn:=d',toks:=t' }:=by
 obtain ⟨m,⟨o,es,ep,ho,r⟩,_⟩:=id I.loc
 obtain ⟨sl,hL⟩:=u.any ho I.free fun z=>(hch _ z).2.1 rfl
 exact I.step (ch:=ch) hch (fun b o hL hb hc e n=>u.keep b o e n (fun z=>(List.mem_cons.mp (I.stkSub b z)).elim hL hb) hc) (fun b o _ _ hc e n=>u.any e n hc) (fun b o hc e n=>u.free b o e n hc) (fun b o hc e=>u.there b o e hc) u.tups u.frzs u.tbls (fun m' hm=>by
  obtain ⟨o',es',ep',ho',r'⟩:=hm
  rw [ho] at ho';cases ho'
  exact ⟨_,es',ep',hL,r'⟩) hok hg
theorem Inv.turned {t' : Nat} {it : Addr} (I : Inv X pins σ H s) (k : ∀ b o,b ≠ it->s.heap.get? b = some o->h'.get? b = some o) (hn : H it = none) (hL : it ≠ X.env.locals)
  (h1 : it ∈ X.ex\/X.s₀.heap.objs.size <= it) (h2 : ∀ x c,X.env.cells.lookup x = some c->c ≠ it) (h3 : ∀ p ∈ X.pn ++ pins,p.1 ≠ it) : Inv X pins σ H { s with heap:=h',toks:=t' }:=by
 have nit : ∀ b u,H b = some u->b ≠ it:=fun b u e z=>by rw [z,hn] at e;cases e
 refine I.step (g':=s.gens) (d':=s.drawn) (ch:=[it]) (fun b hb=>?_) (fun b o _ _ hc e _=>k b o (fun z=>hc (by simp [z])) e) (fun b o _ _ hc e _=>⟨o.slots,k b o (fun z=>hc (by simp [z])) e⟩) (fun _ _ _ _ n=>n)
  (fun b o hc e=>⟨o,k b o (fun z=>hc (by simp [z])) e⟩) (fun _ _ e=>e) (fun _ _ _ e=>e) (fun b ps e=>⟨#[],by rw [e];simp⟩) (fun m hm=>?_) (fun b u e=>?_) ⟨I.bare.1,Nat.le_refl _⟩
 ·have e : b = it:=by simpa using hb
  subst e
  exact ⟨h1,hL,h2,h3⟩
 ·obtain ⟨o,es,ep,ho,r⟩:=hm
  exact ⟨o,es,ep,k _ o (Ne.symm hL) ho,r⟩
 ·refine (I.hok b u e).stay (fun c v hc q=>k c v ?_ q) (fun _ q=>q) fun _ _ q=>q
  rcases hc with z | z
  ·rw [z];exact nit b u e
  ·exact nit c _ z
theorem Inv.tok (I : Inv X pins σ H s) (t : Nat) : Inv X pins σ H { s with toks:=t }:=I.un (h':=s.heap) (t':=t) Un.refl I.hok
theorem Inv.kept {t' : Nat} (I : Inv X pins σ H s) (k : ∀ b u,s.heap.get? b = some u->h'.get? b = some u) : Inv X pins σ H { s with heap:=h',toks:=t' }:=I.un (Un.kept k) (I.hok.kept k)
theorem Inv.laid {a : Addr} {o : HO} {t' : Nat} (I : Inv X pins σ H s) (k : ∀ b u,s.heap.get? b = some u->h'.get? b = some u) (hp : s.heap.objs.size <= a) (new : ObjOk X.prog X.w (upd H a o) h' a o) :
  Inv X pins σ (upd H a o) { s with heap:=h',toks:=t' }:=I.un (Un.laid k hp (I.hok.fresh hp)) (I.hok.laid k hp new)
theorem Inv.write {x e : Addr} {o : HO} {t' : Nat} (I : Inv X pins σ H s) (mu : Mut (H x)) (he : e = x\/H e = some (.own x)) (k : ∀ b u,b ≠ e->s.heap.get? b = some u->h'.get? b = some u) (heo : ∃ u,h'.get? e = some u)
  (new : ObjOk X.prog X.w (upd H x o) h' x o) : Inv X pins σ (upd H x o) { s with heap:=h',toks:=t' }:=I.un (Un.write mu he k heo) (I.hok.write mu he k heo new)
theorem Inv.weak {σ' : List (Option V)} (I : Inv X pins σ H s) (hl : σ'.length = σ.length) (w : ∀ (i : Nat) v,σ'[i]? = some (some v)->σ[i]? = some (some v)) : Inv X pins σ' H s :=
 ⟨I.ok,I.os,I.bare,I.base,let ⟨m,hn,hl'⟩:=I.loc;⟨m,hn,fun i x v e1 e2 e3=>hl' i x v e1 (w i v e2) e3⟩,I.cell,I.free,I.freeC,I.pin,I.hok,hl.trans I.len⟩
theorem Inv.pins_of {pins' : List (Addr × Obj)} (I : Inv X pins σ H s) (h : ∀ p ∈ pins',s.heap.get? p.1 = some p.2/\H p.1 = none/\p.1 ≠ X.env.locals/\p.1 ∉ X.fs/\∀ v,p.2.data ≠ .cell v) : Inv X pins' σ H s :=
 ⟨I.ok,I.os,I.bare,I.base,I.loc,I.cell,I.free,I.freeC,fun p hp=>(List.mem_append.mp hp).elim (fun z=>I.pin p (List.mem_append_left _ z)) (h p),I.hok,I.len⟩
theorem nodup_ix {N : List Str} (hN : N.Nodup) {i j : Nat} {x : Str} (a : N[i]? = some x) (b : N[j]? = some x) : i = j:=by
 obtain ⟨h1,e1⟩:=List.getElem?_eq_some_iff.mp a
 obtain ⟨h2,e2⟩:=List.getElem?_eq_some_iff.mp b
 exact (List.getElem_inj hN).mp (e1.trans e2.symm)
theorem store_ok2 {M : Model} {A : Around} {E : Value->Shared->Prop} {i : Nat} {x : Str} {v : V} {u : Value} {Q : Unit->Shared->Prop} (I : Inv X pins σ H s) (hN : X.N.Nodup) (hi : X.N[i]? = some x) (hx : Loc X.env.scope x) (r : RelV v u)
  (h : ∀ s',Inv X pins (σ.set i (some v)) H s'->(∃ a,Heap.SameBut a s.heap s'.heap/\(a = X.env.locals\/X.env.cells.lookup x = some a))->Q () s') (hf : X.fn x = true\/X.env.scope.names.lookup x = some .local:=by first | exact .inl rfl | exact .inr rfl | assumption) : wpAny M A (storeName X.env x u) Q E s:=by
 obtain ⟨m,hn,hl⟩:=id I.loc
 have hcls : (X.env.scope.kind == .class || (X.env.scope.kind == .module && X.env.locals != X.env.globals)) = false:=by rw [I.ok.kind];rfl
 have hiσ : i < σ.length:=by rw [I.len];exact (List.getElem?_eq_some_iff.mp hi).1
 have cne:=I.cne
 have tracked : ∀ {a : Addr} {h' : Heap},(∃ o,s.heap.get? a = some o/\H a = none)->Heap.SameBut a s.heap h'->HOk X.prog X.w H h':=fun {a h'} ha hs b ob e=>by
  obtain ⟨_,_,hfree⟩:=ha
  refine (I.hok b ob e).stay (fun c w' hc q=>(hs.2 c ?_).trans q) (fun _ q=>q) fun _ _ q=>q
  rintro rfl
  rcases hc with rfl | hc
  ·rw [hfree] at e;cases e
  ·rw [hfree] at hc;cases hc
 rcases hx with hk | hk
 ·refine wpAny_storeName_local hk hn (fun h' hn' hs=>?_) hcls
  obtain ⟨oL,_,_,hoL,_⟩:=id hn
  refine h _ ⟨I.ok,I.os,I.bare,⟨fun b o e n hb hx=>?_,fun b o e n hb hx=>?_,I.base.free,fun b o e hx=>?_,I.base.tups,I.base.frzs,I.base.tbls⟩,⟨_,hn',fun j y v' e1 e2 e3=>?_⟩,fun y c e=>?_,I.free,I.freeC,fun p hp=>?_,tracked ⟨oL,hoL,I.free⟩ hs,by simpa using I.len⟩ ⟨_,hs,.inl rfl⟩
  ·exact (hs.2 b (Nat.ne_of_lt (Nat.lt_of_lt_of_le (Heap.lt_size e) I.ok.above))).trans (I.base.keep b o e n hb hx)
  ·obtain ⟨sl,e1⟩:=I.base.slot b o e n hb hx
   exact ⟨sl,(hs.2 b (Nat.ne_of_lt (Nat.lt_of_lt_of_le (Heap.lt_size e) I.ok.above))).trans e1⟩
  ·obtain ⟨o',e1⟩:=I.base.there b o e hx
   exact ⟨o',(hs.2 b (Nat.ne_of_lt (Nat.lt_of_lt_of_le (Heap.lt_size e) I.ok.above))).trans e1⟩
  ·by_cases hj : j = i
   ·subst hj
    rw [hi] at e1;cases e1
    rw [List.getElem?_set_self hiσ] at e2
    cases e2
    exact ⟨u,r,.inl ⟨hk,by simp⟩⟩
   ·rw [List.getElem?_set_ne (Ne.symm hj)] at e2
    obtain ⟨u',r',q⟩:=hl j y v' e1 e2 e3
    refine ⟨u',r',?_⟩
    rcases q with ⟨k,e⟩ | ⟨k,c,e,z⟩
    ·refine .inl ⟨k,?_⟩
     have : y ≠ x:=fun e=>hj (nodup_ix hN e1 (e ▸ hi))
     simp [this,e]
    ·exact .inr ⟨k,c,e,z.sameBut hs (cne y c e)⟩
  ·obtain ⟨w',z⟩:=I.cell y c e
   exact ⟨w',z.sameBut hs (cne y c e)⟩
  ·obtain ⟨e,n,ne,nf,d⟩:=I.pin p hp
   exact ⟨(hs.2 p.1 ne).trans e,n,ne,nf,d⟩
 ·have hfn : X.fn x = true:=by
   rcases hf with z | z
   ·exact z
   ·rw [z] at hk;cases hk
  obtain ⟨c,hc⟩:=I.ok.has x (.inl hk)
  obtain ⟨w',z⟩:=I.cell x c hc
  refine wpAny_storeName_cell I.ok.kind hk hc z (fun h' hc' hs=>?_)
  obtain ⟨oc,hoc,hocd⟩:=id z
  refine h { s with heap:=h' } ⟨I.ok,I.os,I.bare,⟨fun b o e n hb hx=>?_,fun b o e n hb hx=>?_,I.base.free,fun b o e hx=>?_,I.base.tups,I.base.frzs,I.base.tbls⟩,⟨m,hn.sameBut hs (Ne.symm (cne x c hc)),fun j y v' e1 e2 e3=>?_⟩,fun y c' e=>?_,I.free,I.freeC,fun p hp=>?_,tracked ⟨oc,hoc,I.freeC x c hc⟩ hs,by simpa using I.len⟩ ⟨c,hs,.inr hc⟩
  ·exact (hs.2 b (Nat.ne_of_lt (Nat.lt_of_lt_of_le (Heap.lt_size e) (I.ok.cab x c hfn hc)))).trans (I.base.keep b o e n hb hx)
  ·obtain ⟨sl,e1⟩:=I.base.slot b o e n hb hx
   exact ⟨sl,(hs.2 b (Nat.ne_of_lt (Nat.lt_of_lt_of_le (Heap.lt_size e) (I.ok.cab x c hfn hc)))).trans e1⟩
  ·obtain ⟨o',e1⟩:=I.base.there b o e hx
   exact ⟨o',(hs.2 b (Nat.ne_of_lt (Nat.lt_of_lt_of_le (Heap.lt_size e) (I.ok.cab x c hfn hc)))).trans e1⟩
  ·by_cases hj : j = i
   ·subst hj
    rw [hi] at e1;cases e1
    rw [List.getElem?_set_self hiσ] at e2
    cases e2
    exact ⟨u,r,.inr ⟨.inl hk,c,hc,hc'⟩⟩
   ·rw [List.getElem?_set_ne (Ne.symm hj)] at e2
    obtain ⟨u',r',q⟩:=hl j y v' e1 e2 e3
    refine ⟨u',r',?_⟩
    rcases q with q | ⟨k,c',e,z'⟩
    ·exact .inl q
    ·refine .inr ⟨k,c',e,z'.sameBut hs ?_⟩
     rintro rfl
     exact hj (nodup_ix hN e1 (I.ok.inj _ _ _ e hc ▸ hi))
  ·by_cases hcc : c' = c
   ·subst hcc;exact ⟨_,hc'⟩
   ·obtain ⟨w2,z2⟩:=I.cell y c' e
    exact ⟨w2,z2.sameBut hs hcc⟩
  ·obtain ⟨e,n,ne,nf,d⟩:=I.pin p hp
   refine ⟨(hs.2 p.1 ?_).trans e,n,ne,nf,d⟩
   intro q
   rw [q,hoc] at e
   have q' : oc = p.2:=Option.some.inj e
   exact d w' (by rw [<- q'];exact hocd)
theorem store_ok {M : Model} {A : Around} {E : Value->Shared->Prop} {i : Nat} {x : Str} {v : V} {u : Value} {Q : Unit->Shared->Prop} (I : Inv X pins σ H s) (hN : X.N.Nodup) (hi : X.N[i]? = some x) (hx : Loc X.env.scope x) (r : RelV v u)
  (h : ∀ s',Inv X pins (σ.set i (some v)) H s'->Q () s') (hf : X.fn x = true\/X.env.scope.names.lookup x = some .local:=by first | exact .inl rfl | exact .inr rfl | assumption) : wpAny M A (storeName X.env x u) Q E s :=
 store_ok2 I hN hi hx r (fun s' I' _=>h s' I') hf
theorem Inv.call' {s' : Shared} {ch : List Addr} (I : Inv X pins σ H s) (ho : s'.os = s.os) (u : Un (frs X.stack) ch H H' s.heap s'.heap) (hok : HOk X.prog X.w H' s'.heap) (hg : GOk s.gens s'.gens)
  (hch : ∀ b ∈ ch,(b ∈ X.ex\/X.s₀.heap.objs.size <= b)/\b ≠ X.env.locals/\(∀ x c,X.env.cells.lookup x = some c->c ≠ b)/\∀ p ∈ X.pn ++ pins,p.1 ≠ b) : Inv X pins σ H' s':=by
 obtain ⟨h',g',d',t',o'⟩:=s'
 have e : o' = s.os:=ho
 subst e
 exact I.call (g':=g') (t':=t') (d':=d') u hok hg hch
end
abbrev XK:=Value->Option Addr->Hp->Prop
abbrev St:=List (Option V)
abbrev VK:=V->Hp->Prop
abbrev TE:=St->Hp->VK->Prop
abbrev TT:=St->Hp->(Bool->Hp->Prop)->Prop
abbrev TA:=St->Hp->(List V->Hp->Prop)->Prop
structure Ends where
 nx : St->Hp->Prop
 rt : VK
 bk : St->Hp->Prop:=fun _ _=>False
 ct : St->Hp->Prop:=fun _ _=>False
abbrev TS:=Ends->St->Hp->Prop
def EP (X : Cx) (pins : List (Addr × Obj)) (σ : St) (Q : VK) (u : Value) (s' : Shared) : Prop := ∃ v H',Inv X pins σ H' s'/\RelV v u/\Q v H'
def TP (X : Cx) (pins : List (Addr × Obj)) (σ : St) (Q : Bool->Hp->Prop) (b : Bool) (s' : Shared) : Prop := ∃ H',Inv X pins σ H' s'/\Q b H'
def AP (X : Cx) (pins : List (Addr × Obj)) (σ : St) (Q : List V->Hp->Prop) (us : List Value) (s' : Shared) : Prop := ∃ vs H',Inv X pins σ H' s'/\Vals vs us/\Q vs H'
def SP (X : Cx) (pins : List (Addr × Obj)) (D : Ends) (f : Flow) (s' : Shared) : Prop :=
 match f with
 | .next=>∃ σ' H',Inv X pins σ' H' s'/\D.nx σ' H'
 | .brk=>∃ σ' H',Inv X pins σ' H' s'/\D.bk σ' H'
 | .cont=>∃ σ' H',Inv X pins σ' H' s'/\D.ct σ' H'
 | .ret u=>∃ v σ' H',Inv X pins σ' H' s'/\RelV v u/\D.rt v H'
def PE (X : Cx) (e : Expr) (t : TE) : Prop :=
 ∀ (pins : List (Addr × Obj)) (s : Shared) (σ : St) (H : Hp) (Q : VK),Inv X pins σ H s->t σ H Q->wpAny (model X.prog X.w) X.A (eval e X.env) (EP X pins σ Q) X.xe s
def PT (X : Cx) (e : Expr) (t : TT) : Prop :=
 ∀ (pins : List (Addr × Obj)) (s : Shared) (σ : St) (H : Hp) (Q : Bool->Hp->Prop),Inv X pins σ H s->t σ H Q->wpAny (model X.prog X.w) X.A (isTrue e X.env (eval e X.env)) (TP X pins σ Q) X.xe s
def PW (X : Cx) (e : Expr) (t : TT) : Prop :=
 ∀ (whole : Sem Value) (pins : List (Addr × Obj)) (s : Shared) (σ : St) (H : Hp) (Q : Bool->Hp->Prop),Inv X pins σ H s->t σ H Q->wpAny (model X.prog X.w) X.A (isTrue e X.env whole) (TP X pins σ Q) X.xe s
theorem PW.pt {X : Cx} {e : Expr} {t : TT} (h : PW X e t) : PT X e t:=h _
def PA (X : Cx) (es : List Expr) (t : TA) : Prop :=
 ∀ (pos : Pos) (pins : List (Addr × Obj)) (s : Shared) (σ : St) (H : Hp) (Q : List V->Hp->Prop),Inv X pins σ H s->t σ H Q->wpAny (model X.prog X.w) X.A (spliced (backTo pos (starEach es X.env))) (AP X pins σ Q) X.xe s
def PS (X : Cx) (st : Stmt) (t : TS) : Prop :=
 ∀ (pins : List (Addr × Obj)) (s : Shared) (σ : St) (H : Hp) (D : Ends),Inv X pins σ H s->t D σ H->wpAny (model X.prog X.w) X.A (exec st X.env) (SP X pins D) X.xe s
def PSs (X : Cx) (st : List Stmt) (t : TS) : Prop :=
 ∀ (pins : List (Addr × Obj)) (s : Shared) (σ : St) (H : Hp) (D : Ends),Inv X pins σ H s->t D σ H->wpAny (model X.prog X.w) X.A (execs st X.env) (SP X pins D) X.xe s
theorem thn {α : Type} {t : Sem α} {Q Q' : α->Shared->Prop} {M : Model} {A : Around} {E : Value->Shared->Prop} {s : Shared} (h : wpAny M A t Q E s) (hQ : ∀ a s,Q a s->Q' a s) : wpAny M A t Q' E s:=wpAny_mono h hQ fun _ _ x=>x
end L2
namespace L2
open PySem PySem.Spec PyProof.Rows
section
variable {X : Cx}
def tVar (i : Nat) : TE:=fun σ H Q=>∃ v,σ[i]? = some (some v)/\Q v H
def tC (v : V) : TE:=fun _ H Q=>Q v H
theorem pe_var {i : Nat} {x : Str} {pos : Pos} (hN : X.N[i]? = some x) (hv : Vis X.env.scope x) (hd : (x == ("__debug__" : Str)) = false:=by decide) (hcd : (x == ("__classdict__" : Str)) = false:=by decide) : PE X (.Name x pos) (tVar i):=by
 intro pins s σ H Q I h
 obtain ⟨v,e,h⟩:=h
 obtain ⟨m,hn,hl⟩:=I.loc
 obtain ⟨u,r,l⟩:=hl i x v hN e hv
 have fin : EP X pins σ Q u s:=⟨v,H,I,r,h⟩
 rcases l with ⟨hk,hm⟩ | ⟨hk,c,hc,hcell⟩
 ·exact wpAny_Name (wpAny_loadName_local I.ok.kind hk hn hm fin) hd
 ·rcases hk with hk | hk
  ·exact wpAny_Name (wpAny_loadName_cell I.ok.kind hk hc hcell fin) hd
  ·exact wpAny_Name (wpAny_loadName_free I.ok.kind hk hc hcell fin hcd) hd
theorem pe_int {i j pos} : PE X (.Constant (.int i) j pos) (tC (.int i)):=fun _ _ _ H _ I h=>wpAny_Constant_int ⟨.int i,H,I.tok _,⟨_,rfl⟩,h⟩
theorem pe_bl {b j pos} : PE X (.Constant (.bool b) j pos) (tC (.bl b)):=fun _ _ _ H _ I h=>Constant_bool ⟨.bl b,H,I,rfl,h⟩
theorem pe_str {x j pos} : PE X (.Constant (.str x) j pos) (tC (.str x)):=fun _ _ _ H _ I h=>Calls.Constant_str ⟨.str x,H,I.tok _,⟨_,rfl⟩,h⟩
def Gl (X : Cx) (x : Str) : Prop:=X.env.kindOf x = some .globalImplicit
theorem ld_glob {E : Value->Shared->Prop} {pins : List (Addr × Obj)} {s : Shared} {σ : St} {H : Hp} {x : Str} {u : Value} {pos : Pos} {Q : Value->Shared->Prop} (I : Inv X pins σ H s) (hg : Gl X x) (hm : X.mg x = some u) (h : Q u s)
  (hd : (x == ("__debug__" : Str)) = false:=by decide) : wpAny (model X.prog X.w) X.A (eval (.Name x pos) X.env) Q E s :=
 Calls.Name_function_global I.ok.kind hg (Calls.loadGlobal_global (by rw [I.ok.glob];exact I.mod.glob.keeps I.bk) hm h) hd
theorem ld_blt {E : Value->Shared->Prop} {pins : List (Addr × Obj)} {s : Shared} {σ : St} {H : Hp} {x : Str} {u : Value} {pos : Pos} {Q : Value->Shared->Prop} (I : Inv X pins σ H s) (hg : Gl X x) (hm : X.mg x = none) (hv : bootBuiltins x = some u) (h : Q u s)
  (hn : x ≠ "__name__" := by decide) (hd : (x == ("__debug__" : Str)) = false:=by decide) : wpAny (model X.prog X.w) X.A (eval (.Name x pos) X.env) Q E s:=by
 obtain ⟨mb,h1,h2⟩:=I.mod.blt
 exact Calls.Name_function_global I.ok.kind hg (Calls.loadGlobal_builtin (by rw [I.ok.glob];exact I.mod.glob.keeps I.bk) hm (by rw [I.ok.blt];exact h1.keeps I.bk) ((h2 x hn).trans hv) h) hd
theorem pe_glob {x : Str} {v : V} {u : Value} {pos : Pos} (hg : Gl X x) (hm : X.mg x = some u) (r : RelV v u) (hd : (x == ("__debug__" : Str)) = false:=by decide) : PE X (.Name x pos) (tC v) :=
 fun _ _ _ H _ I h=>ld_glob I hg hm ⟨v,H,I,r,h⟩ hd
theorem pe_bltn {x : Str} {v : V} {u : Value} {pos : Pos} (hg : Gl X x) (hm : X.mg x = none) (hv : bootBuiltins x = some u) (r : RelV v u) (hn : x ≠ "__name__" := by decide) (hd : (x == ("__debug__" : Str)) = false:=by decide) : PE X (.Name x pos) (tC v) :=
 fun _ _ _ H _ I h=>ld_blt I hg hm hv ⟨v,H,I,r,h⟩ hn hd
variable {a b : Expr} {ta tb : TE} {pos : Pos}
def tB (t : TE) : TT:=fun σ H Q=>t σ H fun x H1=>∃ c,x = .bl c/\Q c H1
theorem pt_val {e : Expr} {t : TE} (h : PE X e t) (he : ∀ whole, isTrue e X.env whole = (do let v ← whole; standAt e.pos; holding [v] (truthy v)) := by intro _; rfl) : PT X e (tB t) := by
  intro pins s σ H Q I hw
  refine isTrue_plain (thn (h pins s σ H _ I hw) fun v s1 ⟨x, H1, I1, r1, q1⟩ => ?_) (he _)
  obtain ⟨d, rfl, q⟩ := q1
  cases r1
  exact wpAny_truthy_bool ⟨H1, I1, q⟩
variable {tA tB' : TT} {rest : List Expr}
def tAnd (t u : TT) : TT:=fun σ H Q=>t σ H fun c H1=>if c = true then u σ H1 Q else Q false H1
def tOr (t u : TT) : TT:=fun σ H Q=>t σ H fun c H1=>if c = true then Q true H1 else u σ H1 Q
def tNot (t : TT) : TT:=fun σ H Q=>t σ H fun c H1=>Q (!c) H1
theorem pw_and1 (ha : PT X a tA) : PW X (.BoolOp .And [a] pos) tA:=by
 intro wh pins s σ H Q I h
 refine isTrue_and (thn (ha pins s σ H Q I h) fun c s1 e=>?_)
 cases c with
 | true=>exact isTrue_and_nil e
 | false=>exact e
theorem pw_or1 (ha : PT X a tA) : PW X (.BoolOp .Or [a] pos) tA:=by
 intro wh pins s σ H Q I h
 refine isTrue_or (thn (ha pins s σ H Q I h) fun c s1 e=>?_)
 cases c with
 | false=>exact isTrue_or_nil e
 | true=>exact e
theorem pw_and (ha : PT X a tA) (hb : PW X (.BoolOp .And (b :: rest) pos) tB') : PW X (.BoolOp .And (a :: b :: rest) pos) (tAnd tA tB'):=by
 intro wh pins s σ H Q I h
 refine isTrue_and (thn (ha pins s σ H _ I h) fun c s1 ⟨H1,I1,q1⟩=>?_)
 cases c with
 | true=>exact hb wh pins s1 σ H1 Q I1 q1
 | false=>exact ⟨H1,I1,q1⟩
theorem pw_or (ha : PT X a tA) (hb : PW X (.BoolOp .Or (b :: rest) pos) tB') : PW X (.BoolOp .Or (a :: b :: rest) pos) (tOr tA tB'):=by
 intro wh pins s σ H Q I h
 refine isTrue_or (thn (ha pins s σ H _ I h) fun c s1 ⟨H1,I1,q1⟩=>?_)
 cases c with
 | true=>exact ⟨H1,I1,q1⟩
 | false=>exact hb wh pins s1 σ H1 Q I1 q1
theorem pt_not (ha : PT X a tA) : PT X (.UnaryOp .Not a pos) (tNot tA):=by
 intro pins s σ H Q I h
 exact isTrue_not (ha pins s σ H (fun c H1=>Q (!c) H1) I h)
def tAndV (ta tb : TE) : TE:=fun σ H Q=>ta σ H fun x H1=>∃ c,x = .bl c/\if c = true then tb σ H1 Q else Q (.bl false) H1
theorem pe_one {op} {t : TE} (h : PE X a t) : PE X (.BoolOp op [a] pos) t:=fun pins s σ H Q I hw=>BoolOp_one (h pins s σ H Q I hw)
theorem pe_and (ha : PE X a ta) (hb : PE X (.BoolOp .And (b :: rest) pos) tb) : PE X (.BoolOp .And (a :: b :: rest) pos) (tAndV ta tb):=by
 intro pins s σ H Q I h
 refine BoolOp_and (thn (ha pins s σ H _ I h) fun v s1 ⟨x,H1,I1,r1,q1⟩=>?_)
 obtain ⟨c,rfl,q1⟩:=q1
 cases r1
 refine wpAny_truthy_bool ?_
 cases c with
 | true=>exact hb pins s1 σ H1 Q I1 q1
 | false=>exact ⟨.bl false,H1,I1,rfl,q1⟩
def tIf (t : TT) (ta tb : TE) : TE:=fun σ H Q=>t σ H fun c H1=>if c = true then ta σ H1 Q else tb σ H1 Q
theorem pe_ifExp {c : Expr} (hc : PT X c tA) (ha : PE X a ta) (hb : PE X b tb) : PE X (.IfExp c a b pos) (tIf tA ta tb):=by
 intro pins s σ H Q I h
 refine wpAny_IfExp (thn (hc pins s σ H _ I h) fun d s1 ⟨H1,I1,q1⟩=>?_)
 cases d with
 | true=>exact ha pins s1 σ H1 Q I1 q1
 | false=>exact hb pins s1 σ H1 Q I1 q1
end
end L2
namespace L2
open PySem PySem.Spec PyProof.Rows
def SqL (K : PySem.W.Frag) (H : Hp) (a : Addr) (xs : List V) : Prop :=
 Rd H a (.lst xs) \/
  ∃ (o : Obj) (its : Array Value) (n : Nat),K.lookup a = some o/\o.cls = .type "list"/\o.dict = none/\o.data = .seq its n/\its.size <= sizeLine/\Vals xs its.toList
def SqT (K : PySem.W.Frag) (H : Hp) (a : Addr) (xs : List V) : Prop :=
 Rd H a (.tup xs) \/
  ∃ (o : Obj) (its : Array Value) (n : Nat),K.lookup a = some o/\o.cls = .type "tuple"/\o.data = .seq its n/\its.size <= sizeLine/\Vals xs its.toList
def absV : Value->Option V
 | .none=>some .non
 | .bool b=>some (.bl b)
 | .int i _=>some (.int i)
 | .str x _=>some (.str x)
 | .bytes b _=>some (.byt b)
 | .float b _=>some (.flt b)
 | .ref a=>some (.ref a)
 | .type n=>some (.ty n)
 | _=>none
theorem RelV.abs {x : V} {u : Value} (r : RelV x u) : absV u = some x:=by
 cases x with
 | non=>cases r;rfl
 | bl _=>cases r;rfl
 | int _=>obtain ⟨t,rfl⟩:=r;rfl
 | str _=>obtain ⟨t,rfl⟩:=r;rfl
 | byt _=>obtain ⟨t,rfl⟩:=r;rfl
 | flt _=>obtain ⟨t,rfl⟩:=r;rfl
 | ref _=>cases r;rfl
 | ty _=>cases r;rfl
theorem RelV.inj {x y : V} {u : Value} (r : RelV x u) (q : RelV y u) : x = y:=Option.some.inj (r.abs.symm.trans q.abs)
theorem Vals.inj : ∀ {xs ys : List V} {us : List Value},Vals xs us->Vals ys us->xs = ys
 | _,_,_,.nil,.nil=>rfl
 | _,_,_,.cons r t,.cons r' t'=>by rw [r.inj r',Vals.inj t t']
section
variable {X : Cx} {pins : List (Addr × Obj)} {σ : St} {H : Hp} {s : Shared} {a : Addr} {xs ys : List V}
theorem SqL.of {K : PySem.W.Frag} (h : H a = some (.lst xs)) : SqL K H a xs:=.inl (.inl h)
theorem SqT.of {K : PySem.W.Frag} (h : H a = some (.tup xs)) : SqT K H a xs:=.inl (.inl h)
theorem Inv.list (I : Inv X pins σ H s) (h : SqL X.K H a xs) : ∃ its : List Value,Vals xs its/\PlainL s.heap a its.toArray/\xs.length <= sizeLine:=by
 rcases h with h | ⟨o,its,n,hk,hc,hd,hs,hz,r⟩
 ·obtain ⟨z,its,n,r,e⟩:=h.ok I.hok
  exact ⟨its,r,⟨_,n,e,rfl,rfl,rfl⟩,z⟩
 ·refine ⟨its.toList,r,⟨o,n,I.kIn a o hk,hc,hd,by simpa using hs⟩,?_⟩
  have e:=r.length
  simp only [Array.length_toList] at e
  omega
theorem Inv.tuple (I : Inv X pins σ H s) (h : SqT X.K H a xs) : ∃ its : List Value,Vals xs its/\IsTup s.heap a its.toArray/\xs.length <= sizeLine:=by
 rcases h with h | ⟨o,its,n,hk,hc,hs,hz,r⟩
 ·obtain ⟨z,its,r,p,_⟩:=h.ok I.hok
  exact ⟨its,r,p,z⟩
 ·refine ⟨its.toList,r,⟨o,I.kIn a o hk,hc,n,by simpa using hs⟩,?_⟩
  have e:=r.length
  simp only [Array.length_toList] at e
  omega
theorem Inv.list_inj (I : Inv X pins σ H s) (h : SqL X.K H a xs) (h' : SqL X.K H a ys) : xs = ys:=by
 obtain ⟨its,r,⟨o,n,e,_,_,d⟩,_⟩:=I.list h
 obtain ⟨its',r',⟨o',n',e',_,_,d'⟩,_⟩:=I.list h'
 rw [e] at e';cases e'
 rw [d] at d'
 injection d' with d1 _
 have : its = its':=by simpa using congrArg Array.toList d1
 subst this
 exact r.inj r'
theorem Inv.tuple_inj (I : Inv X pins σ H s) (h : SqT X.K H a xs) (h' : SqT X.K H a ys) : xs = ys:=by
 obtain ⟨its,r,⟨o,e,_,n,d⟩,_⟩:=I.tuple h
 obtain ⟨its',r',⟨o',e',_,n',d'⟩,_⟩:=I.tuple h'
 rw [e] at e';cases e'
 rw [d] at d'
 injection d' with d1 _
 have : its = its':=by simpa using congrArg Array.toList d1
 subst this
 exact r.inj r'
end
abbrev Cx.wish (X : Cx) (E : Value->Shared->Prop) : Cx:={ X with xe:=E }
abbrev Cx.nox (X : Cx) : Cx:=X.wish fun _ _=>False
theorem Cx.Ok.wish {X : Cx} (ok : X.Ok) (E : Value->Shared->Prop) : (X.wish E).Ok :=
 ⟨ok.mod,ok.kind,ok.glob,ok.blt,ok.above,ok.inj,ok.has,ok.cab,ok.hd,ok.frames,ok.stk,ok.exf,ok.bs,ok.bsz,ok.noex,ok.exfs,ok.funs,ok.frf⟩
theorem Cx.Ok.unwish {X : Cx} {E : Value->Shared->Prop} (ok : (X.wish E).Ok) : X.Ok :=
 ⟨ok.mod,ok.kind,ok.glob,ok.blt,ok.above,ok.inj,ok.has,ok.cab,ok.hd,ok.frames,ok.stk,ok.exf,ok.bs,ok.bsz,ok.noex,ok.exfs,ok.funs,ok.frf⟩
section
variable {X : Cx} {pins : List (Addr × Obj)} {σ : St} {H : Hp} {s : Shared} {E : Value->Shared->Prop}
theorem Inv.wish (I : Inv X pins σ H s) (E : Value->Shared->Prop) : Inv (X.wish E) pins σ H s:=⟨I.ok.wish E,I.os,I.bare,I.base,I.loc,I.cell,I.free,I.freeC,I.pin,I.hok,I.len⟩
theorem Inv.unwish (I : Inv (X.wish E) pins σ H s) : Inv X pins σ H s:=⟨I.ok.unwish,I.os,I.bare,I.base,I.loc,I.cell,I.free,I.freeC,I.pin,I.hok,I.len⟩
theorem SP.unwish {D : Ends} {f : Flow} {s' : Shared} (h : SP (X.wish E) pins D f s') : SP X pins D f s':=by
 cases f with
 | next=>obtain ⟨σ',H',I,q⟩:=h;exact ⟨σ',H',I.unwish,q⟩
 | brk=>obtain ⟨σ',H',I,q⟩:=h;exact ⟨σ',H',I.unwish,q⟩
 | cont=>obtain ⟨σ',H',I,q⟩:=h;exact ⟨σ',H',I.unwish,q⟩
 | ret u=>obtain ⟨v,σ',H',I,r,q⟩:=h;exact ⟨v,σ',H',I.unwish,r,q⟩
theorem PE.nox {e : Expr} {t : TE} (h : PE X.nox e t) : PE X e t:=fun pins s σ H Q I hw =>
 wpAny_mono (h pins s σ H Q (I.wish _) hw) (fun _ _ ⟨v,H',I',r,q⟩=>⟨v,H',I'.unwish,r,q⟩) fun _ _ z=>False.elim z
theorem PT.nox {e : Expr} {t : TT} (h : PT X.nox e t) : PT X e t:=fun pins s σ H Q I hw =>
 wpAny_mono (h pins s σ H Q (I.wish _) hw) (fun _ _ ⟨H',I',q⟩=>⟨H',I'.unwish,q⟩) fun _ _ z=>False.elim z
theorem PSs.nox {st : List Stmt} {t : TS} (h : PSs X.nox st t) : PSs X st t:=fun pins s σ H D I hw =>
 wpAny_mono (h pins s σ H D (I.wish _) hw) (fun _ _ q=>q.unwish) fun _ _ z=>False.elim z
end
section
variable {X : Cx} {st : Stmt} {rest : List Stmt} {t u : TS} {e : Expr} {te : TE} {pos : Pos}
def tNext : TS:=fun D σ H=>D.nx σ H
def tSeq (t u : TS) : TS:=fun D σ H=>t { D with nx:=u D } σ H
theorem pss_nil : PSs X [] tNext:=fun _ _ σ H _ I h=>wpAny_execs_nil ⟨σ,H,I,h⟩
theorem pss_cons (h1 : PS X st t) (h2 : PSs X rest u) : PSs X (st :: rest) (tSeq t u):=by
 intro pins s σ H D I h
 refine wpAny_execs_cons (thn (h1 pins s σ H { D with nx:=u D } I h) fun f s1 q=>?_)
 cases f with
 | next =>
  obtain ⟨σ',H',I',q⟩:=q
  exact h2 pins s1 σ' H' D I' q
 | ret v=>exact q
 | brk=>exact q
 | cont=>exact q
theorem pss_one (h1 : PS X st t) : PSs X [st] t:=by
 intro pins s σ H D I h
 refine wpAny_execs_cons (thn (h1 pins s σ H D I h) fun f s1 q=>?_)
 cases f with
 | next=>exact wpAny_execs_nil q
 | ret v=>exact q
 | brk=>exact q
 | cont=>exact q
theorem Inv.quiet {pins : List (Addr × Obj)} {σ : St} {H : Hp} {s : Shared} (I : Inv X pins σ H s) : interactive X.env = false:=by simp [interactive,I.ok.kind]
def tDrop (te : TE) : TS:=fun D σ H=>te σ H fun _ H1=>D.nx σ H1
theorem ps_expr (he : PE X e te) (hs : swapsWith e none pos.line X.env = pure false:=by rfl) : PS X (.Expr e pos) (tDrop te):=by
 intro pins s σ H D I h
 exact wpAny_Expr_any (thn (he pins s σ H _ I h) fun v s1 ⟨x,H1,I1,r1,q1⟩=>⟨σ,H1,I1,q1⟩) I.quiet hs
def tRet (te : TE) : TS:=fun D σ H=>te σ H D.rt
theorem ps_ret (he : PE X e te) : PS X (.Return (some e) pos) (tRet te):=by
 intro pins s σ H D I h
 exact wpAny_Return_some (thn (he pins s σ H _ I h) fun v s1 ⟨x,H1,I1,r1,q1⟩=>⟨x,σ,H1,I1,r1,q1⟩)
def tIfS (c : TT) (t u : TS) : TS:=fun D σ H=>c σ H fun b H1=>if b = true then t D σ H1 else u D σ H1
theorem ps_if {c : Expr} {a b : List Stmt} {tc : TT} (hc : PT X c tc) (ha : PSs X a t) (hb : PSs X b u) : PS X (.If c a b pos) (tIfS tc t u):=by
 intro pins s σ H D I h
 refine wpAny_If (thn (hc pins s σ H _ I h) fun d s1 ⟨H1,I1,q1⟩=>?_)
 cases d with
 | true=>exact ha pins s1 σ H1 D I1 q1
 | false=>exact hb pins s1 σ H1 D I1 q1
end
abbrev TG:=V->St->Hp->(St->Hp->Prop)->Prop
abbrev TGs:=List V->St->Hp->(St->Hp->Prop)->Prop
def PG (X : Cx) (target : Expr) (t : TG) : Prop :=
 ∀ (pins : List (Addr × Obj)) (s : Shared) (σ : St) (H : Hp) (v : V) (u : Value) (Q : St->Hp->Prop),Inv X pins σ H s->RelV v u->t v σ H Q ->
  wpAny (model X.prog X.w) X.A (assign target X.env u) (fun _ s'=>∃ σ' H',Inv X pins σ' H' s'/\Q σ' H') X.xe s
def PGs (X : Cx) (ts : List Expr) (t : TGs) : Prop :=
 ∀ (pins : List (Addr × Obj)) (s : Shared) (σ : St) (H : Hp) (vs : List V) (us : List Value) (Q : St->Hp->Prop),Inv X pins σ H s->Vals vs us->t vs σ H Q ->
  wpAny (model X.prog X.w) X.A (assignInOrder ((assignEach ts X.env).map (·.2)) us) (fun _ s'=>∃ σ' H',Inv X pins σ' H' s'/\Q σ' H') X.xe s
abbrev TSet:=V->V->V->Hp->(Hp->Prop)->Prop
def PSet (X : Cx) (t : TSet) : Prop :=
 ∀ (pins : List (Addr × Obj)) (s : Shared) (σ : St) (H : Hp) (o i v : V) (ov iv u : Value) (Q : Hp->Prop),Inv X pins σ H s->RelV o ov->RelV i iv->RelV v u->t o i v H Q ->
  wpAny (model X.prog X.w) X.A (setItem ov iv u) (fun _ s'=>∃ H',Inv X pins σ H' s'/\Q H') X.xe s
section
variable {X : Cx} {pos : Pos}
def gName (i : Nat) : TG:=fun v σ H Q=>Q (σ.set i (some v)) H
theorem pg_name {i : Nat} {x : Str} (hN : X.N.Nodup) (hi : X.N[i]? = some x) (hx : Loc X.env.scope x) (hf : X.fn x = true\/X.env.scope.names.lookup x = some .local:=by first | exact .inl rfl | exact .inr rfl | assumption) : PG X (.Name x pos) (gName i):=by
 intro pins s σ H v u Q I r h
 exact wpAny_assign_Name (store_ok I hN hi hx r (fun s' I'=>⟨_,H,I',h⟩) hf)
def gNil : TGs:=fun vs σ H Q=>vs = []/\Q σ H
def gCons (t : TG) (u : TGs) : TGs:=fun vs σ H Q=>∃ v r,vs = v :: r/\t v σ H fun σ' H'=>u r σ' H' Q
theorem pgs_nil : PGs X [] gNil:=by
 intro pins s σ H vs us Q I r h
 obtain ⟨e,h⟩:=h
 subst e
 cases r
 exact assignInOrder_nil ⟨σ,H,I,h⟩
theorem pgs_cons {e : Expr} {es : List Expr} {t : TG} {u : TGs} (h1 : PG X e t) (h2 : PGs X es u)
  (hs : (assignEach (e :: es) X.env).map (·.2) = assign e X.env :: (assignEach es X.env).map (·.2):=by rfl) : PGs X (e :: es) (gCons t u):=by
 intro pins s σ H vs us Q I r h
 obtain ⟨v,vr,e1,h⟩:=h
 subst e1
 cases r with
 | cons r rr =>
  rw [hs]
  refine assignInOrder_cons (thn (h1 pins s σ H _ _ _ I r h) fun _ s1 ⟨σ1,H1,I1,q1⟩=>?_)
  exact h2 pins s1 σ1 H1 _ _ Q I1 rr q1
def gTup (K : PySem.W.Frag) (n : Nat) (t : TGs) : TG:=fun v σ H Q=>∃ a xs,v = .ref a/\SqT K H a xs/\xs.length = n/\t xs σ H Q
theorem pg_tup {es : List Expr} {k : Nat} {t : TGs} {n : Nat} (hc : X.calm = true) (h : PGs X es t)
  (hn : (assignEach es X.env).length = n:=by rfl) (hst : (assignEach es X.env).findIdx? (·.1) = none:=by rfl) : PG X (.Tuple es k pos) (gTup X.K n t):=by
 intro pins s σ H v u Q I r hw
 obtain ⟨a,xs,e1,hq,hl,hw⟩:=hw
 subst e1
 cases r
 obtain ⟨its,rv,ht,hz⟩:=I.tuple hq
 refine assign_Tuple_tuple (I.ok.hd hc) ht (by simp [hn,<- hl,rv.length]) hst fun h' hx=>?_
 have I1 : Inv X pins σ H { s with heap:=h' }:=I.kept (t':=s.toks) fun b o e=>hx b o (Nat.ne_of_lt (Heap.lt_size e)) e
 exact h pins _ σ H xs _ Q I1 (by simpa using rv) hw
def gSub (to ti : TE) (t : TSet) : TG:=fun v σ H Q=>to σ H fun o H1=>ti σ H1 fun i H2=>t o i v H2 fun H3=>Q σ H3
theorem pg_sub {o i : Expr} {to ti : TE} {t : TSet} (ho : PE X o to) (hi : PE X i ti) (hs : PSet X t)
  (ha : ∀ v,assign (.Subscript o i pos) X.env v = (do
   let ov <- holding [v] (eval o X.env)
   let iv <- holding [v,ov] (eval i X.env)
   standAt pos
   holding [v,ov,iv] (setItem ov iv v)
   release [v,ov,iv] []):=by intro _;rfl) : PG X (.Subscript o i pos) (gSub to ti t):=by
 intro pins s σ H v u Q I r h
 rw [ha]
 refine wpAny_bind (wpAny_holding (thn (ho pins s σ H _ I h) fun ov s1 ⟨x,H1,I1,r1,q1⟩=>?_))
 refine wpAny_bind (wpAny_holding (thn (hi pins s1 σ H1 _ I1 q1) fun iv s2 ⟨y,H2,I2,r2,q2⟩=>?_))
 refine wpAny_bind (wpAny_standAt (wpAny_bind (wpAny_holding (thn (hs pins s2 σ H2 x y v ov iv u _ I2 r1 r2 r q2) fun _ s3 ⟨H3,I3,q3⟩=>?_))))
 exact wpAny_release ⟨σ,H3,I3,q3⟩
def tAsg (te : TE) (g : TG) : TS:=fun D σ H=>te σ H fun x H1=>g x σ H1 D.nx
theorem ps_asg {tg e : Expr} {te : TE} {g : TG} (he : PE X e te) (hg : PG X tg g) (hs : swapsWithSole [tg] e pos.line X.env = pure false:=by rfl) (hw : swappedStores [tg] e X.env = pure none:=by rfl)
  (h1 : (assignEach [tg] X.env).map (·.2) = [assign tg X.env]:=by rfl) : PS X (.Assign [tg] e pos) (tAsg te g):=by
 intro pins s σ H D I h
 refine wpAny_Assign_stores (thn (he pins s σ H _ I h) fun v s1 ⟨x,H1,I1,r1,q1⟩=>?_) hs hw
 rw [h1]
 exact thn (hg pins s1 σ H1 x v _ I1 r1 q1) fun _ s2 q=>q
theorem ps_set {i : Nat} {x : Str} {e : Expr} {te : TE} {pos' : Pos} (hN : X.N.Nodup) (hi : X.N[i]? = some x) (hx : Loc X.env.scope x) (he : PE X e te) (hs : swapsWith e (some (.Name x pos')) pos.line X.env = pure false:=by rfl) (hf : X.fn x = true\/X.env.scope.names.lookup x = some .local:=by first | exact .inl rfl | exact .inr rfl | assumption) :
  PS X (.Assign [.Name x pos'] e pos) (tAsg te (gName i)):=by
 intro pins s σ H D I h
 refine wpAny_Assign_Name (thn (he pins s σ H _ I h) fun v s1 ⟨y,H1,I1,r1,q1⟩=>?_) hs
 exact store_ok I1 hN hi hx r1 (fun s2 I2=>⟨_,H1,I2,q1⟩) hf
end
section
variable {X : Cx} {pos : Pos}
end
structure It where
 go : Nat->Hp->Prop
 yld : Nat->Hp->V->Hp->Prop
 stop : Nat->Hp->Prop
def FpOk (X : Cx) (pins : List (Addr × Obj)) (H : Hp) (b : Addr) : Prop :=
 H b = none/\b ≠ X.env.locals/\b ∉ X.fs/\(b ∈ X.ex\/X.s₀.heap.objs.size <= b)/\(∀ x c,X.env.cells.lookup x = some c->c ≠ b)/\∀ p ∈ X.pn ++ pins,p.1 ≠ b
theorem Inv.fpOk {X : Cx} {pins : List (Addr × Obj)} {σ : St} {H H' : Hp} {s : Shared} {b : Addr} (I : Inv X pins σ H s) (hb : s.heap.objs.size <= b) (hn : H' b = none) : FpOk X pins H' b:=by
 refine ⟨hn,Nat.ne_of_gt (Nat.lt_of_lt_of_le I.lt hb),I.nofs hb,.inr (Nat.le_trans I.sz hb),fun x c e z=>?_,fun p hp z=>?_⟩
 ·obtain ⟨v,q⟩:=I.cell x c e
  exact absurd (Nat.lt_of_lt_of_le q.lt (by rw [z];exact hb)) (Nat.lt_irrefl _)
 ·exact absurd (Nat.lt_of_lt_of_le (Heap.lt_size (I.pin p hp).1) (by rw [z];exact hb)) (Nat.lt_irrefl _)
structure Turn (P : Program) (w : World) (K : PySem.W.Frag) (tg : Expr) (J : It) (fp : List Addr) (it : Addr) (tn : Nat->Heap->Prop) : Prop where
 mem : it ∈ fp
 obj : ∀ i h,tn i h->∀ b ∈ fp,∃ o,h.get? b = some o/\∀ v,o.data ≠ .cell v
 keep : ∀ i h h',tn i h->(∀ b ∈ fp,∀ o,h.get? b = some o->h'.get? b = some o)->tn i h'
 item : ∀ (X : Cx),X.prog = P->X.w = w->X.K = K->X.calm = true->∀ (i : Nat) (pins : List (Addr × Obj)) (s : Shared) (σ : St) (H : Hp) (E : Value->Shared->Prop),Inv X pins σ H s->(∀ b ∈ fp,FpOk X pins H b)->tn i s.heap->J.go i H ->
  wpAny (model P w) X.A (pyNext (.ref it)) (fun r s1=>∃ u,r = some u /\
   wpAny (model P w) X.A (letOwnedTupleGo tg (.ref it) u) (fun _ s2=>∃ x H',Inv X pins σ H' s2/\RelV x u/\J.yld i H x H'/\tn (i + 1) s2.heap/\∀ b ∈ fp,H' b = none) E s1) E s
 done : ∀ (X : Cx),X.prog = P->X.w = w->X.K = K->X.calm = true->∀ (i : Nat) (pins : List (Addr × Obj)) (s : Shared) (σ : St) (H : Hp) (E : Value->Shared->Prop),Inv X pins σ H s->(∀ b ∈ fp,FpOk X pins H b)->tn i s.heap->J.stop i H ->
  wpAny (model P w) X.A (pyNext (.ref it)) (fun r s1=>r = none/\Inv X pins σ H s1) E s
 self : ∀ (A : Around) (i : Nat) (s : Shared) (Q : Value->Shared->Prop) (E : Value->Shared->Prop),tn i s.heap->Q (.ref it) s->wpAny (model P w) A (pyIter (.ref it)) Q E s
abbrev TI:=St->Hp->(It->Hp->Prop)->Prop
def PIE (X : Cx) (pins : List (Addr × Obj)) (σ : St) (tg : Expr) (R : It->Hp->Prop) (itv : Value) (s2 : Shared) : Prop :=
 ∃ (it : Addr) (fp : List Addr) (tn : Nat->Heap->Prop) (J : It) (H' : Hp),itv = .ref it/\Inv X pins σ H' s2/\Turn X.prog X.w X.K tg J fp it tn/\tn 0 s2.heap/\(∀ b ∈ fp,FpOk X pins H' b)/\R J H'
def PI (X : Cx) (tg iter : Expr) (wi : TI) : Prop :=
 ∀ (pins : List (Addr × Obj)) (s : Shared) (σ : St) (H : Hp) (R : It->Hp->Prop),Inv X pins σ H s->wi σ H R ->
  wpAny (model X.prog X.w) X.A (eval iter X.env) (fun v s1=>wpAny (model X.prog X.w) X.A (pyIter v) (PIE X pins σ tg R) X.xe s1) X.xe s
theorem go_of {M : Model} {A : Around} {E : Value → Shared → Prop} {s : Shared} {tg : Expr} {it : Addr} {u : Value} {o : Obj} {n : String} {vs : Array Value} {Q : Unit → Shared → Prop} (ho : s.heap.get? it = some o) (hc : o.cls = .type n) (hd : o.data = .fields vs)
    (hn : ["enumerate", "zip", "dict_itemiterator", "dict_reverseitemiterator", "odict_iterator", "itertools.zip_longest", "itertools.pairwise"].contains n = false) (hQ : Q () s) : wpAny M A (letOwnedTupleGo tg (.ref it) u) Q E s := by
  unfold letOwnedTupleGo
  cases tg <;> first
    | exact wpAny_pure hQ
    | (cases u <;> first
        | exact wpAny_pure hQ
        | (refine wpAny_bind (wpAny_load ho ?_)
           rw [hc, hd]
           show wpAny M A (if (["enumerate", "zip", "dict_itemiterator", "dict_reverseitemiterator", "odict_iterator", "itertools.zip_longest", "itertools.pairwise"].contains n && vs[0]? == some (rawInt _)) = true then _ else _) Q E s
           rw [if_neg (by intro h; rw [hn, Bool.false_and] at h; cases h)]
           exact wpAny_pure hQ))
def Itl (K : PySem.W.Frag) (a : Addr) : It :=
 ⟨fun i H=>∃ xs x,SqL K H a xs/\xs[i]? = some x,fun i H x H'=>H' = H/\∀ xs,SqL K H a xs->xs[i]? = some x,fun i H=>∃ xs,SqL K H a xs/\xs.length <= i⟩
def Itt (K : PySem.W.Frag) (a : Addr) : It :=
 ⟨fun i H=>∃ xs x,SqT K H a xs/\xs[i]? = some x,fun i H x H'=>H' = H/\∀ xs,SqT K H a xs->xs[i]? = some x,fun i H=>∃ xs,SqT K H a xs/\xs.length <= i⟩
def Itr (lo : Int) (n : Nat) : It:=⟨fun i _=>i < n,fun i H x H'=>H' = H/\x = .int (lo + i),fun i _=>n <= i⟩
theorem turn_list {P : Program} {w : World} {K : PySem.W.Frag} {tg : Expr} (a it : Addr) : Turn P w K tg (Itl K a) [it] it (fun i h=>h.IsListIter it a i) where
 mem:=by simp
 obj:=fun i h st b hb=>by
  have e : b = it:=by simpa using hb
  subst e
  obtain ⟨o,e,c,d⟩:=st
  exact ⟨o,e,fun v z=>by rw [d] at z;cases z⟩
 keep:=fun i h h' st k=>st.at fun o e=>k it (by simp) o e
 item:=by
  intro X hP hw hK hc i pins s σ H E I hf st hg
  subst hP hw hK
  obtain ⟨xs,x,hq,hx⟩:=hg
  obtain ⟨its,rv,p,hz⟩:=I.list hq
  obtain ⟨u,hu,ru⟩:=rv.get hx
  obtain ⟨f0,f1,f2,f3,f4,f5⟩:=hf it (by simp)
  refine wpAny_pyNext_list_item st p.isList (x:=u) (by simpa using hu) fun h' st' sb=>?_
  have I1 : Inv X pins σ H { s with heap:=h' }:=I.turned (t':=s.toks) (fun b o hb e=>(sb.2 b hb).trans e) f0 f1 f3 f4 f5
  obtain ⟨o,e,c,d⟩:=id st'
  exact ⟨u,rfl,go_of (s:={ s with heap:=h' }) e c d (by decide) ⟨x,H,I1,ru,⟨rfl,fun ys hy=>by rw [I.list_inj hy hq];exact hx⟩,st',fun b hb=>(hf b hb).1⟩⟩
 done:=by
  intro X hP hw hK hc i pins s σ H E I hf st hg
  subst hP hw hK
  obtain ⟨xs,hq,hx⟩:=hg
  obtain ⟨its,rv,p,hz⟩:=I.list hq
  obtain ⟨f0,f1,f2,f3,f4,f5⟩:=hf it (by simp)
  have hl:=rv.length
  exact wpAny_pyNext_list_end (I.ok.hd hc) st p.isList (by simp;omega) fun h' eb=>⟨rfl,I.turned (t':=s.toks) (fun b o hb e=>eb b o hb e) f0 f1 f3 f4 f5⟩
 self:=fun _ _ _ _ _ st h=>wpAny_pyIter_listiter st h
theorem turn_tuple {P : Program} {w : World} {K : PySem.W.Frag} {tg : Expr} (a it : Addr) : Turn P w K tg (Itt K a) [it] it (fun i h=>h.IsTupleIter it a i) where
 mem:=by simp
 obj:=fun i h st b hb=>by
  have e : b = it:=by simpa using hb
  subst e
  obtain ⟨o,e,c,d⟩:=st
  exact ⟨o,e,fun v z=>by rw [d] at z;cases z⟩
 keep:=fun i h h' st k=>st.at fun o e=>k it (by simp) o e
 item:=by
  intro X hP hw hK hc i pins s σ H E I hf st hg
  subst hP hw hK
  obtain ⟨xs,x,hq,hx⟩:=hg
  obtain ⟨its,rv,p,hz⟩:=I.tuple hq
  obtain ⟨u,hu,ru⟩:=rv.get hx
  obtain ⟨f0,f1,f2,f3,f4,f5⟩:=hf it (by simp)
  refine wpAny_pyNext_tuple_item st (show s.heap.IsTuple a its.toArray from p) (x:=u) (by simpa using hu) fun h' st' sb=>?_
  have I1 : Inv X pins σ H { s with heap:=h' }:=I.turned (t':=s.toks) (fun b o hb e=>(sb.2 b hb).trans e) f0 f1 f3 f4 f5
  obtain ⟨o,e,c,d⟩:=id st'
  exact ⟨u,rfl,go_of (s:={ s with heap:=h' }) e c d (by decide) ⟨x,H,I1,ru,⟨rfl,fun ys hy=>by rw [I.tuple_inj hy hq];exact hx⟩,st',fun b hb=>(hf b hb).1⟩⟩
 done:=by
  intro X hP hw hK hc i pins s σ H E I hf st hg
  subst hP hw hK
  obtain ⟨xs,hq,hx⟩:=hg
  obtain ⟨its,rv,p,hz⟩:=I.tuple hq
  obtain ⟨f0,f1,f2,f3,f4,f5⟩:=hf it (by simp)
  have hl:=rv.length
  exact wpAny_pyNext_tuple_end (I.ok.hd hc) st (show s.heap.IsTuple a its.toArray from p) (by simp;omega) fun h' eb=>⟨rfl,I.turned (t':=s.toks) (fun b o hb e=>eb b o hb e) f0 f1 f3 f4 f5⟩
 self:=fun _ _ _ _ _ st h=>wpAny_pyIter_tupleiter st h
theorem turn_range {P : Program} {w : World} {K : PySem.W.Frag} {tg : Expr} (it : Addr) (lo : Int) (n : Nat) : Turn P w K tg (Itr lo n) [it] it (fun i h=>IsRangeIter h it (lo + (i : Nat) * 1) ((n : Int) - (i : Nat)) 1) where
 mem:=by simp
 obj:=fun i h st b hb=>by
  have e : b = it:=by simpa using hb
  subst e
  exact ⟨_,st,fun v z=>by
   have z' : Data.fields _ = Data.cell v:=z
   cases z'⟩
 keep:=fun i h h' st k=>k it (by simp) _ st
 item:=by
  intro X hP hw hK hc i pins s σ H E I hf st hg
  subst hP hw hK
  obtain ⟨f0,f1,f2,f3,f4,f5⟩:=hf it (by simp)
  have W:=Walks.range (prog:=X.prog) (w:=X.w) (I.ok.hd hc) it lo 1 n
  refine W.item i s _ _ hg st fun v h' tk hv st' kk=>?_
  obtain ⟨t,rfl⟩:=hv
  have I1 : Inv X pins σ H { s with heap:=h',toks:=tk }:=I.turned (fun b o hb e=>kk b o (by simpa using hb) e) f0 f1 f3 f4 f5
  refine ⟨_,rfl,go_of (s:={ s with heap:=h',toks:=tk }) (n := "range_iterator") st' rfl rfl (by decide) ⟨.int (lo + i),H,I1,⟨t,?_⟩,⟨rfl,rfl⟩,st',fun b hb=>(hf b hb).1⟩⟩
  rw [Int.mul_one]
 done:=by
  intro X hP hw hK hc i pins s σ H E I hf st hg
  subst hP hw hK
  obtain ⟨f0,f1,f2,f3,f4,f5⟩:=hf it (by simp)
  exact wpAny_pyNext_range_end (I.ok.hd hc) st (by have : n <= i:=hg;omega) fun h' eb=>⟨rfl,I.turned (t':=s.toks) (fun b o hb e=>eb b o hb e) f0 f1 f3 f4 f5⟩
 self:=fun _ _ _ _ _ st h=>wpAny_pyIter_rangeiter st h
end L2
namespace L2
open PySem PySem.Spec PyProof.Rows
section
variable {X : Cx} {tg : Expr}
def iList (K : PySem.W.Frag) (tl : TE) : TI:=fun σ H R=>tl σ H fun x H1=>∃ a,x = .ref a/\(∃ xs,SqL K H1 a xs)/\R (Itl K a) H1
def iTup (K : PySem.W.Frag) (tl : TE) : TI:=fun σ H R=>tl σ H fun x H1=>∃ a,x = .ref a/\(∃ xs,SqT K H1 a xs)/\R (Itt K a) H1
theorem pi_list {l : Expr} {tl : TE} (hl : PE X l tl) : PI X tg l (iList X.K tl):=by
 intro pins s σ H R I h
 refine thn (hl pins s σ H _ I h) fun v s1 ⟨x,H1,I1,r1,q1⟩=>?_
 obtain ⟨a,e,⟨xs,hq⟩,q⟩:=q1
 subst e
 cases r1
 obtain ⟨its,rv,p,hz⟩:=I1.list hq
 refine wpAny_pyIter_list p.isList ?_
 refine ⟨s1.heap.objs.size,[s1.heap.objs.size],_,_,H1,rfl,I1.kept (t':=s1.toks) fun b o e=>Heap.get?_push_of_some _ e,turn_list a _,⟨_,Heap.get?_push_size _ rfl,rfl,rfl⟩,fun b hb=>?_,q⟩
 have e : b = s1.heap.objs.size:=by simpa using hb
 subst e
 exact I1.fpOk (Nat.le_refl _) (I1.hok.fresh (Nat.le_refl _))
theorem pi_tup {l : Expr} {tl : TE} (hl : PE X l tl) : PI X tg l (iTup X.K tl):=by
 intro pins s σ H R I h
 refine thn (hl pins s σ H _ I h) fun v s1 ⟨x,H1,I1,r1,q1⟩=>?_
 obtain ⟨a,e,⟨xs,hq⟩,q⟩:=q1
 subst e
 cases r1
 obtain ⟨its,rv,p,hz⟩:=I1.tuple hq
 refine wpAny_pyIter_tuple (show s1.heap.IsTuple a its.toArray from p) ?_
 refine ⟨s1.heap.objs.size,[s1.heap.objs.size],_,_,H1,rfl,I1.kept (t':=s1.toks) fun b o e=>Heap.get?_push_of_some _ e,turn_tuple a _,⟨_,Heap.get?_push_size _ rfl,rfl,rfl⟩,fun b hb=>?_,q⟩
 have e : b = s1.heap.objs.size:=by simpa using hb
 subst e
 exact I1.fpOk (Nat.le_refl _) (I1.hok.fresh (Nat.le_refl _))
theorem range_it {pins : List (Addr × Obj)} {σ : St} {H : Hp} {s : Shared} {R : It->Hp->Prop} {E : Value->Shared->Prop} {lo hi : Int} {t u v : Tok} {tk : Nat} (I : Inv X pins σ H s) (h1 : -(2 ^ 62) <= lo) (h2 : lo < 2 ^ 62) (h3 : -(2 ^ 62) <= hi) (h4 : hi < 2 ^ 62)
  (q : R (Itr lo (hi - lo).toNat) H) : wpAny (model X.prog X.w) X.A (pyIter (.ref s.heap.objs.size)) (PIE X pins σ tg R) E { s with heap:=s.heap.push { cls:=.type "range",data:=.fields #[.int lo t,.int hi u,.int 1 v] },toks:=tk }:=by
 refine wpAny_pyIter_range (IsRange.new ..) (small_one h1 h2 h3 h4) ?_
 have I1 : Inv X pins σ H { s with heap:=s.heap.push { cls:=.type "range",data:=.fields #[.int lo t,.int hi u,.int 1 v] },toks:=tk }:=I.kept fun b o e=>Heap.get?_push_of_some _ e
 refine ⟨(s.heap.push { cls:=.type "range",data:=.fields #[.int lo t,.int hi u,.int 1 v] }).objs.size,[(s.heap.push { cls:=.type "range",data:=.fields #[.int lo t,.int hi u,.int 1 v] }).objs.size],_,_,H,rfl,
  I1.kept (t':=tk) fun b o e=>Heap.get?_push_of_some _ e,turn_range _ lo (hi - lo).toNat,?_,fun b hb=>?_,q⟩
 ·have e1 : lo + ((0 : Nat) : Int) * 1 = lo:=by simp
  have e2 : (((hi - lo).toNat : Nat) : Int) - ((0 : Nat) : Int) = Builtin.Range.rangeSize lo hi 1:=by rw [rangeSize_one];split <;> omega
  show IsRangeIter _ _ (lo + ((0 : Nat) : Int) * 1) ((((hi - lo).toNat : Nat) : Int) - ((0 : Nat) : Int)) 1
  rw [e1,e2]
  exact Heap.get?_push_size _ rfl
 ·have e : b = (s.heap.push { cls:=.type "range",data:=.fields #[.int lo t,.int hi u,.int 1 v] }).objs.size:=by simpa using hb
  subst e
  exact I1.fpOk (Nat.le_refl _) (I1.hok.fresh (Nat.le_refl _))
def iRng1 (ta : TA) : TI:=fun σ H R=>ta σ H fun vs H1=>∃ j : Int,vs = [.int j]/\-(2 ^ 62) <= j/\j < 2 ^ 62/\R (Itr 0 j.toNat) H1
def iRng2 (ta : TA) : TI:=fun σ H R=>ta σ H fun vs H1=>∃ i j : Int,vs = [.int i,.int j]/\(-(2 ^ 62) <= i/\i < 2 ^ 62/\-(2 ^ 62) <= j/\j < 2 ^ 62)/\R (Itr i (j - i).toNat) H1
theorem pi_range1 {a : Expr} {ta : TA} {p pos : Pos} (hg : Gl X "range") (hm : X.mg "range" = none) (ha : PA X [a] ta) (hs : starEach [a] X.env = [(false,eval a X.env)]:=by rfl) : PI X tg (.Call (.Name "range" p) [a] [] pos) (iRng1 ta):=by
 intro pins s σ H R I h
 refine Call_ (ld_blt I hg hm boot_range (PyProof.Rows.callWith_type1 (thn (ha pos pins s σ H _ I h) fun us s1 ⟨vs,H1,I1,r1,q1⟩=>?_) hs rfl))
 obtain ⟨j,e,q1,q2,q⟩:=q1
 subst e
 cases r1 with
 | cons r rr =>
  cases rr
  obtain ⟨t,rfl⟩:=r
  exact call_range_1 (range_it I1 (by omega) (by omega) q1 q2 (by simpa using q))
theorem pi_range2 {a b : Expr} {ta : TA} {p pos : Pos} (hg : Gl X "range") (hm : X.mg "range" = none) (ha : PA X [a,b] ta) (hs : starEach [a,b] X.env = [(false,eval a X.env),(false,eval b X.env)]:=by rfl) (hs2 : starEach [b] X.env = [(false,eval b X.env)]:=by rfl) :
  PI X tg (.Call (.Name "range" p) [a,b] [] pos) (iRng2 ta):=by
 intro pins s σ H R I h
 refine Call_ (ld_blt I hg hm boot_range (PyProof.Rows.callWith_type1 (thn (ha pos pins s σ H _ I h) fun us s1 ⟨vs,H1,I1,r1,q1⟩=>?_) (by rw [hs,hs2]) (by rw [hs2];rfl)))
 obtain ⟨i,j,e,⟨q1,q2,q3,q4⟩,q⟩:=q1
 subst e
 cases r1 with
 | cons r rr =>
  cases rr with
  | cons r' rr =>
   cases rr
   obtain ⟨t,rfl⟩:=r
   obtain ⟨t',rfl⟩:=r'
   exact call_range_2 (range_it I1 q1 q2 q3 q4 q)
def tFor (wi : TI) (g : TG) (tb : TS) : TS:=fun D σ H=>wi σ H fun J H1=>∃ W : Nat->Nat->St->Hp->Prop,(∃ m,W 0 m σ H1)/\∀ i m σ H,W i m σ H ->
 (J.stop i H/\D.nx σ H)\/(J.go i H/\∃ N : St->Hp->Prop,(∀ σ' H',N σ' H'->∃ m',m' < m/\W (i + 1) m' σ' H')/\∀ x H',J.yld i H x H'->g x σ H' fun σ2 H2=>tb { D with nx:=N,ct:=N,bk:=D.nx } σ2 H2)
def pinsAt (fp : List Addr) (h : Heap) : List (Addr × Obj):=fp.filterMap fun b=>(h.get? b).map fun o=>(b,o)
theorem mem_pinsAt {fp : List Addr} {h : Heap} {b : Addr} {o : Obj} (hb : b ∈ fp) (e : h.get? b = some o) : (b,o) ∈ pinsAt fp h:=List.mem_filterMap.mpr ⟨b,hb,by rw [e];rfl⟩
theorem of_pinsAt {fp : List Addr} {h : Heap} {p : Addr × Obj} (hp : p ∈ pinsAt fp h) : p.1 ∈ fp/\h.get? p.1 = some p.2:=by
 obtain ⟨b,hb,e⟩:=List.mem_filterMap.mp hp
 cases q : h.get? b with
 | none=>rw [q] at e;cases e
 | some o =>
  rw [q] at e
  have e' : (b,o) = p:=Option.some.inj e
  subst e'
  exact ⟨hb,q⟩
theorem Inv.pinned {pins : List (Addr × Obj)} {σ : St} {H : Hp} {s : Shared} {fp : List Addr} (I : Inv X pins σ H s) (hf : ∀ b ∈ fp,FpOk X pins H b) (ho : ∀ b ∈ fp,∃ o,s.heap.get? b = some o/\∀ v,o.data ≠ .cell v) : Inv X (pins ++ pinsAt fp s.heap) σ H s :=
 I.pins_of fun p hp=>(List.mem_append.mp hp).elim (fun z=>I.pin p (List.mem_append_right _ z)) fun z=>by
  obtain ⟨hb,e⟩:=of_pinsAt z
  obtain ⟨f0,f1,f2,_⟩:=hf p.1 hb
  obtain ⟨o,e',d⟩:=ho p.1 hb
  rw [e] at e';cases e'
  exact ⟨e,f0,f1,f2,d⟩
theorem Inv.unpinned {pins pl : List (Addr × Obj)} {σ : St} {H : Hp} {s : Shared} (I : Inv X (pins ++ pl) σ H s) : Inv X pins σ H s:=I.pins_of fun p hp=>I.pin p (List.mem_append_right _ (List.mem_append_left _ hp))
theorem ps_for {iter : Expr} {body : List Stmt} {wi : TI} {g : TG} {tb : TS} {pos : Pos} (hp : PassesOwn (model X.prog X.w) X.A X.env X.xe) (hc : X.calm = true) (hi : PI X tg iter wi) (hg : PG X tg g) (hb : PSs X body tb)
  (hs : ∀ x,foldedSetIterable iter X.env x = pure x:=by intro _;rfl) : PS X (.For tg iter body [] pos) (tFor wi g tb):=by
 intro pins s σ H D I h
 refine wpAny_For (thn (hi pins s σ H _ I h) fun v s1 h1=>thn h1 fun itv s2 h2=>?_) hs
 obtain ⟨it,fp,tn,J,H2,e,I2,T,st2,f2,W,⟨m0,w0⟩,turn⟩:=h2
 subst e
 have stat : ∀ {H' : Hp},(∀ b ∈ fp,H' b = none)->∀ b ∈ fp,FpOk X pins H' b:=fun hn b hb=>⟨hn b hb,(f2 b hb).2⟩
 refine codeAny_forLoop_any (fun n s'=>∃ i σ' H',Inv X pins σ' H' s'/\tn i s'.heap/\(∀ b ∈ fp,H' b = none)/\W i n σ' H') ?_ m0 ⟨0,σ,H2,I2,st2,fun b hb=>(f2 b hb).1,w0⟩
 rintro n s3 ⟨i,σ3,H3,I3,st3,fr3,w3⟩
 rcases turn i n σ3 H3 w3 with ⟨stop,qn⟩ | ⟨go,N,hN,step⟩
 ·refine wpAny_passesOwn hp (thn (T.done X rfl rfl rfl hc i pins s3 σ3 H3 X.xe I3 (stat fr3) st3 stop) fun r s4 ⟨hr,I4⟩=>?_)
  subst hr
  exact wpAny_execs_nil ⟨σ3,H3,I4,qn⟩
 ·refine wpAny_passesOwn hp (thn (T.item X rfl rfl rfl hc i pins s3 σ3 H3 X.xe I3 (stat fr3) st3 go) fun r s4 ⟨u,hr,h4⟩=>?_)
  subst hr
  refine wpAny_passesOwn hp (thn h4 fun _ s5 ⟨x,H5,I5,r5,y5,st5,fr5⟩=>?_)
  have I5':=I5.pinned (stat fr5) (T.obj _ _ st5)
  refine wpAny_passesOwn hp (thn (hg _ s5 σ3 H5 x u _ I5' r5 (step x H5 y5)) fun _ s6 ⟨σ6,H6,I6,q6⟩=>?_)
  refine wpAny_passesOwn hp (thn (hb _ s6 σ6 H6 _ I6 q6) fun f s7 q7=>?_)
  have again : ∀ {σ7 : St} {H7 : Hp},Inv X (pins ++ pinsAt fp s5.heap) σ7 H7 s7->N σ7 H7->∃ m,m < n/\∃ i σ' H',Inv X pins σ' H' s7/\tn i s7.heap/\(∀ b ∈ fp,H' b = none)/\W i m σ' H':=fun {σ7 H7} I7 n7=>by
   obtain ⟨m',hm,w7⟩:=hN σ7 H7 n7
   refine ⟨m',hm,i + 1,σ7,H7,I7.unpinned,T.keep _ _ _ st5 fun b hb o e=>(I7.pin (b,o) (List.mem_append_right _ (List.mem_append_right _ (mem_pinsAt hb e)))).1,fun b hb=>?_,w7⟩
   obtain ⟨o,e,d⟩:=T.obj _ _ st5 b hb
   exact (I7.pin (b,o) (List.mem_append_right _ (List.mem_append_right _ (mem_pinsAt hb e)))).2.1
  cases f with
  | next=>obtain ⟨σ7,H7,I7,n7⟩:=q7;exact again I7 n7
  | cont=>obtain ⟨σ7,H7,I7,n7⟩:=q7;exact again I7 n7
  | brk=>obtain ⟨σ7,H7,I7,q7⟩:=q7;exact ⟨σ7,H7,I7.unpinned,q7⟩
  | ret v=>obtain ⟨x7,σ7,H7,I7,r7,q7⟩:=q7;exact ⟨x7,σ7,H7,I7.unpinned,r7,q7⟩
end
theorem for_list {K : PySem.W.Frag} {a : Addr} {xs : List V} {g : TG} {tb : TS} {D : Ends} {σ : St} {H : Hp} (Pv : Nat->St->Hp->Prop) (h0 : Pv 0 σ H) (hl : ∀ i σ H,i <= xs.length->Pv i σ H->SqL K H a xs)
  (hs : ∀ i x σ H,xs[i]? = some x->Pv i σ H->g x σ H fun σ2 H2=>tb { D with nx:=Pv (i + 1),ct:=Pv (i + 1),bk:=D.nx } σ2 H2) (hd : ∀ σ H,Pv xs.length σ H->D.nx σ H) :
  ∃ W : Nat->Nat->St->Hp->Prop,(∃ m,W 0 m σ H)/\∀ i m σ H,W i m σ H ->
   ((Itl K a).stop i H/\D.nx σ H)\/((Itl K a).go i H/\∃ N : St->Hp->Prop,(∀ σ' H',N σ' H'->∃ m',m' < m/\W (i + 1) m' σ' H')/\∀ x H',(Itl K a).yld i H x H'->g x σ H' fun σ2 H2=>tb { D with nx:=N,ct:=N,bk:=D.nx } σ2 H2):=by
 refine ⟨fun i m σ H=>m = xs.length - i/\i <= xs.length/\Pv i σ H,⟨xs.length,by simp,Nat.zero_le _,h0⟩,?_⟩
 rintro i m σ H ⟨rfl,hi,p⟩
 have q:=hl i σ H hi p
 by_cases hlt : i < xs.length
 ·refine .inr ⟨⟨xs,xs[i],q,by simp [hlt]⟩,Pv (i + 1),fun σ' H' p'=>⟨xs.length - (i + 1),by omega,rfl,hlt,p'⟩,fun x H' y=>?_⟩
  obtain ⟨e,y⟩:=y
  subst e
  exact hs i x σ _ (y xs q) p
 ·have e : i = xs.length:=by omega
  subst e
  exact .inl ⟨⟨xs,q,Nat.le_refl _⟩,hd σ H p⟩
theorem for_tup {K : PySem.W.Frag} {a : Addr} {xs : List V} {g : TG} {tb : TS} {D : Ends} {σ : St} {H : Hp} (Pv : Nat->St->Hp->Prop) (h0 : Pv 0 σ H) (hl : ∀ i σ H,i <= xs.length->Pv i σ H->SqT K H a xs)
  (hs : ∀ i x σ H,xs[i]? = some x->Pv i σ H->g x σ H fun σ2 H2=>tb { D with nx:=Pv (i + 1),ct:=Pv (i + 1),bk:=D.nx } σ2 H2) (hd : ∀ σ H,Pv xs.length σ H->D.nx σ H) :
  ∃ W : Nat->Nat->St->Hp->Prop,(∃ m,W 0 m σ H)/\∀ i m σ H,W i m σ H ->
   ((Itt K a).stop i H/\D.nx σ H)\/((Itt K a).go i H/\∃ N : St->Hp->Prop,(∀ σ' H',N σ' H'->∃ m',m' < m/\W (i + 1) m' σ' H')/\∀ x H',(Itt K a).yld i H x H'->g x σ H' fun σ2 H2=>tb { D with nx:=N,ct:=N,bk:=D.nx } σ2 H2):=by
 refine ⟨fun i m σ H=>m = xs.length - i/\i <= xs.length/\Pv i σ H,⟨xs.length,by simp,Nat.zero_le _,h0⟩,?_⟩
 rintro i m σ H ⟨rfl,hi,p⟩
 have q:=hl i σ H hi p
 by_cases hlt : i < xs.length
 ·refine .inr ⟨⟨xs,xs[i],q,by simp [hlt]⟩,Pv (i + 1),fun σ' H' p'=>⟨xs.length - (i + 1),by omega,rfl,hlt,p'⟩,fun x H' y=>?_⟩
  obtain ⟨e,y⟩:=y
  subst e
  exact hs i x σ _ (y xs q) p
 ·have e : i = xs.length:=by omega
  subst e
  exact .inl ⟨⟨xs,q,Nat.le_refl _⟩,hd σ H p⟩
theorem for_range {lo : Int} {n : Nat} {g : TG} {tb : TS} {D : Ends} {σ : St} {H : Hp} (Pv : Nat->St->Hp->Prop) (h0 : Pv 0 σ H)
  (hs : ∀ i σ H,i < n->Pv i σ H->g (.int (lo + i)) σ H fun σ2 H2=>tb { D with nx:=Pv (i + 1),ct:=Pv (i + 1),bk:=D.nx } σ2 H2) (hd : ∀ σ H,Pv n σ H->D.nx σ H) :
  ∃ W : Nat->Nat->St->Hp->Prop,(∃ m,W 0 m σ H)/\∀ i m σ H,W i m σ H ->
   ((Itr lo n).stop i H/\D.nx σ H)\/((Itr lo n).go i H/\∃ N : St->Hp->Prop,(∀ σ' H',N σ' H'->∃ m',m' < m/\W (i + 1) m' σ' H')/\∀ x H',(Itr lo n).yld i H x H'->g x σ H' fun σ2 H2=>tb { D with nx:=N,ct:=N,bk:=D.nx } σ2 H2):=by
 refine ⟨fun i m σ H=>m = n - i/\i <= n/\Pv i σ H,⟨n,by simp,Nat.zero_le _,h0⟩,?_⟩
 rintro i m σ H ⟨rfl,hi,p⟩
 by_cases hlt : i < n
 ·refine .inr ⟨hlt,Pv (i + 1),fun σ' H' p'=>⟨n - (i + 1),by omega,rfl,hlt,p'⟩,fun x H' y=>?_⟩
  obtain ⟨e,y⟩:=y
  subst e y
  exact hs i σ _ hlt p
 ·have e : i = n:=by omega
  subst e
  exact .inl ⟨Nat.le_refl _,hd σ H p⟩
end L2
namespace L2
open PySem PySem.Spec PyProof.Rows
abbrev R2:=V->V->Hp->VK->Prop
def OpR (X : Cx) (f : Value->Value->Sem Value) (r : R2) : Prop :=
 ∀ (pins : List (Addr × Obj)) (s : Shared) (σ : St) (H : Hp) (x y : V) (v u : Value) (Q : VK),Inv X pins σ H s->RelV x v->RelV y u->r x y H Q ->
  wpAny (model X.prog X.w) X.A (f v u) (EP X pins σ Q) X.xe s
def UnR (X : Cx) (f : Value->Sem Value) (r : V->Hp->VK->Prop) : Prop :=
 ∀ (pins : List (Addr × Obj)) (s : Shared) (σ : St) (H : Hp) (x : V) (v : Value) (Q : VK),Inv X pins σ H s->RelV x v->r x H Q ->
  wpAny (model X.prog X.w) X.A (f v) (EP X pins σ Q) X.xe s
def CallR (X : Cx) (f : Value) (r : List V->Hp->VK->Prop) : Prop :=
 ∀ (pins : List (Addr × Obj)) (s : Shared) (σ : St) (H : Hp) (xs : List V) (us : List Value) (Q : VK),Inv X pins σ H s->Vals xs us->r xs H Q ->
  wpAny (model X.prog X.w) X.A (call f us) (EP X pins σ Q) X.xe s
def tOp (r : R2) (ta tb : TE) : TE:=fun σ H Q=>ta σ H fun x H1=>tb σ H1 fun y H2=>r x y H2 Q
def tUn (r : V->Hp->VK->Prop) (ta : TE) : TE:=fun σ H Q=>ta σ H fun x H1=>r x H1 Q
def rI (C : Int->Int->Prop) (g : Int->Int->V) : R2:=fun x y H Q=>∃ i j,x = .int i/\y = .int j/\C i j/\Q (g i j) H
def rI0 (g : Int->Int->V) : R2:=fun x y H Q=>∃ i j,x = .int i/\y = .int j/\Q (g i j) H
def rU (g : Int->V) : V->Hp->VK->Prop:=fun x H Q=>∃ i,x = .int i/\Q (g i) H
section
variable {X : Cx} {a b c : Expr} {ta tb tc : TE} {pos : Pos}
theorem binT (ha : PE X a ta) (hb : PE X b tb) {pins : List (Addr × Obj)} {s : Shared} {σ : St} {H : Hp} {R : V->V->Hp->Prop} (I : Inv X pins σ H s)
  (h : ta σ H fun x H1=>tb σ H1 fun y H2=>R x y H2) {Q : Value->Shared->Prop} {f : Value->Value->Sem Value}
  (hf : ∀ v u s2 x y H2,Inv X pins σ H2 s2->RelV x v->RelV y u->R x y H2->wpAny (model X.prog X.w) X.A (f v u) Q X.xe s2) :
  wpAny (model X.prog X.w) X.A (eval a X.env) (fun v s₁=>wpAny (model X.prog X.w) X.A (eval b X.env) (fun u s₂=>wpAny (model X.prog X.w) X.A (f v u) Q X.xe s₂) X.xe s₁) X.xe s:=by
 refine thn (ha pins s σ H _ I h) fun v s1 ⟨x,H1,I1,r1,q1⟩=>?_
 refine thn (hb pins s1 σ H1 _ I1 q1) fun u s2 ⟨y,H2,I2,r2,q2⟩=>?_
 exact hf v u s2 x y H2 I2 r1 r2 q2
theorem pe_op {op : Operator} {r : R2} (ho : OpR X (binaryOp op) r) (ha : PE X a ta) (hb : PE X b tb) : PE X (.BinOp a op b pos) (tOp r ta tb):=by
 intro pins s σ H Q I h
 exact wpAny_BinOp (binT ha hb I h fun v u s2 x y H2 I2 rx ry q=>ho pins s2 σ H2 x y v u Q I2 rx ry q)
theorem pe_un {op : UnaryOp} {r : V->Hp->VK->Prop} (ho : UnR X (unaryOp op) r) (ha : PE X a ta) : PE X (.UnaryOp op a pos) (tUn r ta):=by
 intro pins s σ H Q I h
 exact UnaryOp_ (thn (ha pins s σ H _ I h) fun v s1 ⟨x,H1,I1,r1,q1⟩=>ho pins s1 σ H1 x v Q I1 r1 q1)
theorem opI {f : Value->Value->Sem Value} {C : Int->Int->Prop} {g : Int->Int->Int}
  (rule : ∀ (i j : Int) (t u : Tok) (s : Shared) (Q : Value->Shared->Prop) (E : Value->Shared->Prop),C i j->Q (.int (g i j) s.toks) { s with toks:=s.toks + 1 }->wpAny (model X.prog X.w) X.A (f (.int i t) (.int j u)) Q E s) :
  OpR X f (rI C fun i j=>.int (g i j)):=by
 intro pins s σ H x y v u Q I rx ry h
 obtain ⟨i,j,rfl,rfl,hc,q⟩:=h
 obtain ⟨t,rfl⟩:=rx
 obtain ⟨t',rfl⟩:=ry
 exact rule i j t t' s _ _ hc ⟨.int (g i j),H,I.tok _,⟨_,rfl⟩,q⟩
theorem opI0 {f : Value->Value->Sem Value} {g : Int->Int->Int}
  (rule : ∀ (i j : Int) (t u : Tok) (s : Shared) (Q : Value->Shared->Prop) (E : Value->Shared->Prop),Q (.int (g i j) s.toks) { s with toks:=s.toks + 1 }->wpAny (model X.prog X.w) X.A (f (.int i t) (.int j u)) Q E s) :
  OpR X f (rI0 fun i j=>.int (g i j)):=by
 intro pins s σ H x y v u Q I rx ry h
 obtain ⟨i,j,rfl,rfl,q⟩:=h
 obtain ⟨t,rfl⟩:=rx
 obtain ⟨t',rfl⟩:=ry
 exact rule i j t t' s _ _ ⟨.int (g i j),H,I.tok _,⟨_,rfl⟩,q⟩
theorem opB0 {f : Value->Value->Sem Value} {g : Int->Int->Bool}
  (rule : ∀ (i j : Int) (t u : Tok) (s : Shared) (Q : Value->Shared->Prop) (E : Value->Shared->Prop),Q (.bool (g i j)) s->wpAny (model X.prog X.w) X.A (f (.int i t) (.int j u)) Q E s) :
  OpR X f (rI0 fun i j=>.bl (g i j)):=by
 intro pins s σ H x y v u Q I rx ry h
 obtain ⟨i,j,rfl,rfl,q⟩:=h
 obtain ⟨t,rfl⟩:=rx
 obtain ⟨t',rfl⟩:=ry
 exact rule i j t t' s _ _ ⟨.bl (g i j),H,I,rfl,q⟩
def CDiv (i j : Int) : Prop:=0 < j/\j < 1073741824
def CPow (i j : Int) : Prop:=0 <= j/\j <= 1000000/\i.natAbs < 2 ^ 64
def CMul (i j : Int) : Prop:=(-(2 ^ 64) < i/\i < 2 ^ 64)\/(-(2 ^ 64) < j/\j < 2 ^ 64)
theorem CMul.ok {i j : Int} (h : CMul i j) : IntMulOk i j:=by
 rcases h with ⟨h1,h2⟩ | ⟨h1,h2⟩
 ·exact .of_left (intBits_le_64 h1 h2)
 ·exact .of_right (intBits_le_64 h1 h2)
theorem op_add : OpR X (binaryOp .Add) (rI0 fun i j=>.int (i + j)):=opI0 fun _ _ _ _ _ _ _ q=>add_int q
theorem op_sub : OpR X (binaryOp .Sub) (rI0 fun i j=>.int (i - j)):=opI0 fun _ _ _ _ _ _ _ q=>sub_int q
theorem op_mul : OpR X (binaryOp .Mult) (rI CMul fun i j=>.int (i * j)):=opI fun _ _ _ _ _ _ _ hc q=>mul_int q hc.ok
theorem op_fdiv : OpR X (binaryOp .FloorDiv) (rI CDiv fun i j=>.int (i / j)):=opI fun i j _ _ _ _ _ hc q=>by
 have h1 : (0 : Int) < j:=hc.1
 have h2 : j < 1073741824:=hc.2
 exact floordiv_int (by omega) (by rw [Int.fdiv_eq_ediv_of_nonneg i (by omega)];exact q) (.inl (PyProof.noPylong_small (by omega)))
theorem op_mod : OpR X (binaryOp .Mod) (rI (fun _ j=>0 < j) fun i j=>.int (i % j)):=opI fun i j _ _ _ _ _ hc q=>by
 have h1 : (0 : Int) < j:=hc
 exact mod_int' (by omega) (by rw [Int.fmod_eq_emod_of_nonneg i (by omega)];exact q)
theorem op_pow : OpR X (binaryOp .Pow) (rI CPow fun i j=>.int (i ^ j.toNat)):=opI fun _ _ _ _ _ _ _ hc q=>pow_int_small hc.1 hc.2.1 hc.2.2 q
theorem unI {f : Value->Sem Value} {g : Int->Int}
  (rule : ∀ (i : Int) (t : Tok) (s : Shared) (Q : Value->Shared->Prop) (E : Value->Shared->Prop),Q (.int (g i) s.toks) { s with toks:=s.toks + 1 }->wpAny (model X.prog X.w) X.A (f (.int i t)) Q E s) :
  UnR X f (rU fun i=>.int (g i)):=by
 intro pins s σ H x v Q I rx h
 obtain ⟨i,rfl,q⟩:=h
 obtain ⟨t,rfl⟩:=rx
 exact rule i t s _ _ ⟨.int (g i),H,I.tok _,⟨_,rfl⟩,q⟩
theorem un_neg : UnR X (unaryOp .USub) (rU fun i=>.int (-i)):=unI fun _ _ _ _ _ q=>neg_int q
end
def scal : V->V->Bool
 | .non,.non=>true | .non,.int _=>true | .int _,.non=>true | .non,.bl _=>true | .bl _,.non=>true | .non,.str _=>true | .str _,.non=>true
 | .int _,.int _=>true | .bl _,.bl _=>true | .str _,.str _=>true | .byt _,.byt _=>true
 | .int _,.str _=>true | .str _,.int _=>true | .bl _,.str _=>true | .str _,.bl _=>true
 | _,_=>false
def rEq : R2:=fun x y H Q=>scal x y = true/\Q (.bl (decide (x = y))) H
def rNe : R2:=fun x y H Q=>scal x y = true/\Q (.bl (!decide (x = y))) H
theorem dec_int {i j : Int} : decide (V.int i = V.int j) = (i == j):=by
 rw [Bool.eq_iff_iff]
 simp
theorem dec_bl {i j : Bool} : decide (V.bl i = V.bl j) = (i == j):=by
 rw [Bool.eq_iff_iff]
 simp
theorem dec_str {i j : Str} : decide (V.str i = V.str j) = (i == j):=by
 rw [Bool.eq_iff_iff]
 simp
theorem dec_byt {i j : Array UInt8} : decide (V.byt i = V.byt j) = (i.toList == j.toList):=by
 rw [Bool.eq_iff_iff]
 cases i
 cases j
 simp
section
variable {X : Cx} {a b c : Expr} {ta tb tc : TE} {pos : Pos}
theorem fin_bl {pins : List (Addr × Obj)} {σ : St} {H : Hp} {s : Shared} {Q : VK} {k k' : Bool} (I : Inv X pins σ H s) (q : Q (.bl k) H) (e : k = k') : EP X pins σ Q (.bool k') s:=by
 subst e
 exact ⟨.bl k,H,I,rfl,q⟩
theorem op_eq : OpR X (compareOp .Eq) rEq:=by
 intro pins s σ H x y v u Q I rx ry h
 obtain ⟨hs,q⟩:=h
 cases x with
 | non =>
  cases rx
  cases y with
  | non=>cases ry;exact PySem.EqNone.eq_none_none (fin_bl I q (by simp))
  | bl j=>cases ry;exact PySem.EqNone.eq_none_bool (fin_bl I q (by simp))
  | int j=>obtain ⟨t',rfl⟩:=ry;exact PySem.EqNone.eq_none_int (fin_bl I q (by simp))
  | str j=>obtain ⟨t',rfl⟩:=ry;exact PySem.EqNone.eq_none_str (fin_bl I q (by simp))
  | _=>exact absurd (show false = true from hs) Bool.false_ne_true
 | bl i =>
  cases rx
  cases y with
  | non=>cases ry;exact PySem.EqNone.eq_bool_none (fin_bl I q (by simp))
  | bl j=>cases ry;exact eq_bool (fin_bl I q dec_bl)
  | str j=>obtain ⟨t',rfl⟩:=ry;exact PySem.EqMixed.eq_bool_str (fin_bl I q (by simp))
  | _=>exact absurd (show false = true from hs) Bool.false_ne_true
 | int i =>
  obtain ⟨t,rfl⟩:=rx
  cases y with
  | non=>cases ry;exact PySem.EqNone.eq_int_none (fin_bl I q (by simp))
  | int j=>obtain ⟨t',rfl⟩:=ry;exact eq_int (fin_bl I q dec_int)
  | str j=>obtain ⟨t',rfl⟩:=ry;exact PySem.EqMixed.eq_int_str (fin_bl I q (by simp))
  | _=>exact absurd (show false = true from hs) Bool.false_ne_true
 | str i =>
  obtain ⟨t,rfl⟩:=rx
  cases y with
  | non=>cases ry;exact PySem.EqNone.eq_str_none (fin_bl I q (by simp))
  | bl j=>cases ry;exact PySem.EqMixed.eq_str_bool (fin_bl I q (by simp))
  | int j=>obtain ⟨t',rfl⟩:=ry;exact PySem.EqMixed.eq_str_int (fin_bl I q (by simp))
  | str j=>obtain ⟨t',rfl⟩:=ry;exact eq_str (fin_bl I q dec_str)
  | _=>exact absurd (show false = true from hs) Bool.false_ne_true
 | byt i =>
  obtain ⟨t,rfl⟩:=rx
  cases y with
  | byt j=>obtain ⟨t',rfl⟩:=ry;exact PySem.W.eq_bytes (fin_bl I q dec_byt)
  | _=>exact absurd (show false = true from hs) Bool.false_ne_true
 | _=>cases y <;> exact absurd (show false = true from hs) Bool.false_ne_true
theorem op_ne : OpR X (compareOp .NotEq) rNe:=by
 intro pins s σ H x y v u Q I rx ry h
 obtain ⟨hs,q⟩:=h
 cases x with
 | non =>
  cases rx
  cases y with
  | non=>cases ry;exact PySem.EqNone.ne_none_none (fin_bl I q (by simp))
  | bl j=>cases ry;exact PySem.EqNone.ne_none_bool (fin_bl I q (by simp))
  | int j=>obtain ⟨t',rfl⟩:=ry;exact PySem.EqNone.ne_none_int (fin_bl I q (by simp))
  | str j=>obtain ⟨t',rfl⟩:=ry;exact PySem.EqNone.ne_none_str (fin_bl I q (by simp))
  | _=>exact absurd (show false = true from hs) Bool.false_ne_true
 | bl i =>
  cases rx
  cases y with
  | non=>cases ry;exact PySem.EqNone.ne_bool_none (fin_bl I q (by simp))
  | bl j=>cases ry;exact ne_bool (fin_bl I q (congrArg not dec_bl))
  | str j=>obtain ⟨t',rfl⟩:=ry;exact PySem.EqMixed.ne_bool_str (fin_bl I q (by simp))
  | _=>exact absurd (show false = true from hs) Bool.false_ne_true
 | int i =>
  obtain ⟨t,rfl⟩:=rx
  cases y with
  | non=>cases ry;exact PySem.EqNone.ne_int_none (fin_bl I q (by simp))
  | int j=>obtain ⟨t',rfl⟩:=ry;exact ne_int (fin_bl I q (congrArg not dec_int))
  | str j=>obtain ⟨t',rfl⟩:=ry;exact PySem.EqMixed.ne_int_str (fin_bl I q (by simp))
  | _=>exact absurd (show false = true from hs) Bool.false_ne_true
 | str i =>
  obtain ⟨t,rfl⟩:=rx
  cases y with
  | non=>cases ry;exact PySem.EqNone.ne_str_none (fin_bl I q (by simp))
  | bl j=>cases ry;exact PySem.EqMixed.ne_str_bool (fin_bl I q (by simp))
  | int j=>obtain ⟨t',rfl⟩:=ry;exact PySem.EqMixed.ne_str_int (fin_bl I q (by simp))
  | str j=>obtain ⟨t',rfl⟩:=ry;exact ne_str (fin_bl I q (congrArg not dec_str))
  | _=>exact absurd (show false = true from hs) Bool.false_ne_true
 | byt i =>
  obtain ⟨t,rfl⟩:=rx
  cases y with
  | byt j=>obtain ⟨t',rfl⟩:=ry;exact PySem.W.ne_bytes (fin_bl I q (congrArg not dec_byt))
  | _=>exact absurd (show false = true from hs) Bool.false_ne_true
 | _=>cases y <;> exact absurd (show false = true from hs) Bool.false_ne_true
theorem op_lt : OpR X (compareOp .Lt) (rI0 fun i j=>.bl (decide (i < j))):=opB0 fun _ _ _ _ _ _ _ q=>lt_int q
theorem op_le : OpR X (compareOp .LtE) (rI0 fun i j=>.bl (decide (i <= j))):=opB0 fun _ _ _ _ _ _ _ q=>le_int q
theorem op_gt : OpR X (compareOp .Gt) (rI0 fun i j=>.bl (decide (j < i))):=opB0 fun _ _ _ _ _ _ _ q=>gt_int q
theorem op_ge : OpR X (compareOp .GtE) (rI0 fun i j=>.bl (decide (j <= i))):=opB0 fun _ _ _ _ _ _ _ q=>ge_int q
theorem OpR.or {f : Value->Value->Sem Value} {r r' : R2} (h : OpR X f r) (h' : OpR X f r') : OpR X f (fun x y H Q=>r x y H Q\/r' x y H Q):=by
 intro pins s σ H x y v u Q I rx ry q
 rcases q with q | q
 ·exact h pins s σ H x y v u Q I rx ry q
 ·exact h' pins s σ H x y v u Q I rx ry q
theorem nomark (b : Expr) {op : CmpOp} (h : op ≠ .In:=by decide) (h2 : op ≠ .NotIn:=by decide) : behindInMarks op b = false:=by
 have e1 : (op == CmpOp.In) = false:=by cases op <;> first | rfl | exact absurd rfl h
 have e2 : (op == CmpOp.NotIn) = false:=by cases op <;> first | rfl | exact absurd rfl h2
 cases b <;> simp [behindInMarks,e1,e2]
theorem pe_cmpR {op : CmpOp} {r : R2} (ho : OpR X (compareOp op) r) (ha : PE X a ta) (hb : PE X b tb) (hm : behindInMarks op b = false) : PE X (.Compare a [op] [b] pos) (tOp r ta tb):=by
 intro pins s σ H Q I h
 exact wpAny_Compare1 (binT ha hb I h fun v u s2 x y H2 I2 rx ry q=>ho pins s2 σ H2 x y v u Q I2 rx ry q) hm
def tTest (t : TE) : TT:=fun σ H Q=>t σ H fun x H'=>∃ k,x = .bl k/\Q k H'
theorem pt_cmpR {op : CmpOp} {r : R2} (ho : OpR X (compareOp op) r) (ha : PE X a ta) (hb : PE X b tb) (hm : behindInMarks op b = false) : PT X (.Compare a [op] [b] pos) (tTest (tOp r ta tb)):=by
 intro pins s σ H Q I h
 refine wpAny_isTrue_Compare1 (thn (ha pins s σ H _ I h) fun v s1 ⟨x,H1,I1,r1,q1⟩=>thn (hb pins s1 σ H1 _ I1 q1) fun u s2 ⟨y,H2,I2,r2,q2⟩ =>
  thn (ho pins s2 σ H2 x y v u _ I2 r1 r2 q2) fun c s3 ⟨z,H3,I3,r3,k,e,q3⟩=>?_) hm
 subst e
 cases r3
 exact wpAny_truthy_bool ⟨H3,I3,q3⟩
def tChain (r r' : R2) (ta tb tc : TE) : TE:=fun σ H Q=>ta σ H fun x H1=>tb σ H1 fun y H2=>r x y H2 fun z H3=>∃ k,z = .bl k /\
 (if k = true then tc σ H3 fun w' H4=>r' y w' H4 Q else Q (.bl false) H3)
theorem pt_chain {op op' : CmpOp} {r r' : R2} (ho : OpR X (compareOp op) r) (ho' : OpR X (compareOp op') r') (ha : PE X a ta) (hb : PE X b tb) (hc : PE X c tc)
  (hm : lastMarks [op,op'] [b,c] = false:=by with_unfolding_all rfl) : PT X (.Compare a [op,op'] [b,c] pos) (tTest (tChain r r' ta tb tc)):=by
 intro pins s σ H Q I h
 refine isTrue_chain (thn (ha pins s σ H _ I h) fun v s1 ⟨x,H1,I1,r1,q1⟩=>test_link (thn (hb pins s1 σ H1 _ I1 q1) fun u s2 ⟨y,H2,I2,r2,q2⟩ =>
  thn (ho pins s2 σ H2 x y v u _ I2 r1 r2 q2) fun d s3 ⟨z,H3,I3,r3,k,e,q3⟩=>?_)) hm
 subst e
 cases r3
 refine wpAny_truthy_bool ?_
 cases k with
 | false =>
  obtain ⟨k',e',q'⟩:=q3
  cases e'
  exact ite_ff ⟨H3,I3,q'⟩
 | true =>
  refine ite_tt (test_last (thn (hc pins s3 σ H3 _ I3 q3) fun w' s4 ⟨z',H4,I4,r4,q4⟩=>thn (ho' pins s4 σ H4 y z' u w' _ I4 r2 r4 q4) fun d' s5 ⟨z2,H5,I5,r5,k2,e2,q5⟩=>?_))
  subst e2
  cases r5
  exact wpAny_truthy_bool ⟨H5,I5,q5⟩
theorem line63 : (sizeLine : Nat) < 2 ^ 63:=by rw [sizeLine_eq];decide
theorem op_add_str : OpR X (binaryOp .Add) (fun x y H Q=>∃ i j,x = .str i/\y = .str j/\i.length + j.length <= sizeLine/\Q (.str (i ++ j)) H):=by
 intro pins s σ H x y v u Q I rx ry h
 obtain ⟨i,j,rfl,rfl,hz,q⟩:=h
 obtain ⟨t,rfl⟩:=rx
 obtain ⟨t',rfl⟩:=ry
 exact add_str (fun t' tk=>⟨.str (i ++ j),H,I.tok _,⟨_,rfl⟩,q⟩) hz
theorem vals1 {x : V} {us : List Value} (r : Vals [x] us) : ∃ u,us = [u]/\RelV x u:=by
 cases r with
 | cons r1 r2=>cases r2;exact ⟨_,rfl,r1⟩
theorem vals2 {x y : V} {us : List Value} (r : Vals [x,y] us) : ∃ u w',us = [u,w']/\RelV x u/\RelV y w':=by
 cases r with
 | cons r1 r2 =>
  cases r2 with
  | cons r3 r4=>cases r4;exact ⟨_,_,rfl,r1,r3⟩
theorem call_min2 (hc : X.calm = true) : CallR X (.builtin "min") (fun xs H Q=>∃ i j,xs = [.int i,.int j]/\Q (.int (if j < i then j else i)) H):=by
 intro pins s σ H xs us Q I r h
 obtain ⟨i,j,rfl,q⟩:=h
 obtain ⟨u,w',rfl,⟨t,rfl⟩,⟨t',rfl⟩⟩:=vals2 r
 refine min_two_ints (I.ok.hd hc) fun h' tk k=>⟨_,H,I.kept k,?_,q⟩
 by_cases hj : j < i
 ·rw [if_pos hj,if_pos hj];exact ⟨_,rfl⟩
 ·rw [if_neg hj,if_neg hj];exact ⟨_,rfl⟩
theorem call_int1 : CallR X (.type "int") (fun xs H Q=>(∃ i,xs = [.int i]/\Q (.int i) H)\/∃ k,xs = [.bl k]/\Q (.int (if k then 1 else 0)) H):=by
 intro pins s σ H xs us Q I r h
 rcases h with ⟨i,rfl,q⟩ | ⟨k,rfl,q⟩
 ·obtain ⟨u,rfl,t,rfl⟩:=vals1 r
  exact call_int_int ⟨.int i,H,I,⟨_,rfl⟩,q⟩
 ·obtain ⟨u,rfl,r1⟩:=vals1 r
  cases r1
  exact call_int_bool ⟨.int (if k then 1 else 0),H,I.tok _,⟨_,rfl⟩,q⟩
end
end L2
namespace L2
open PySem PySem.Spec PyProof.Rows
structure ObjM (h : Heap) (x dx C : Addr) (mA : Str->Option Value) : Prop where
 obj : h.get? x = some (PySem.W.instObj C dx)
 ns : h.Ns1 dx mA
 ne : dx ≠ x
theorem lookIn_ns {h : Heap} {dx : Addr} {mA : Str->Option Value} (n : h.Ns1 dx mA) : ∃ od,h.get? dx = some od/\∀ name,PySem.W.lookIn name od = some (mA name):=by
 obtain ⟨o,es,ep,ho,hd,hk,_,hm⟩:=n
 refine ⟨o,ho,fun name=>?_⟩
 have e:=hm name
 unfold nsFind findBy at e
 rw [<- Array.find?_toList] at e
 unfold PySem.W.lookIn
 rw [hd]
 dsimp only
 split
 ·rename_i y q
  rw [q] at e
  exact congrArg some e
 ·rename_i q
  rw [q] at e
  have a : es.toList.any (·.refKey) = false:=by
   rw [List.any_eq_false]
   intro y hy
   obtain ⟨z,t,hkey⟩:=hk y (Array.mem_toList_iff.mp hy)
   simp [DictEntry.refKey,hkey]
  have a' : ¬ es.toList.any (·.refKey) = true:=by rw [a];exact Bool.false_ne_true
  rw [if_neg a']
  exact congrArg some e
theorem ObjM.look {h : Heap} {x dx C : Addr} {mA : Str->Option Value} (I : ObjM h x dx C mA) : ∃ od,PySem.W.InstAt h x (PySem.W.instObj C dx) C (some od)/\∀ name,PySem.W.lookIn name od = some (mA name) :=
 let ⟨od,ho,hl⟩:=lookIn_ns I.ns
 ⟨od,⟨I.obj,rfl,rfl,ho⟩,hl⟩
section
variable {prog : Program} {w : World} {A : Around} {E : Value->Shared->Prop} {s : Shared} {K : PySem.W.Frag} {x dx C f : Addr} {mA : Str->Option Value} {name : Str} {v : Value}
end
def putF (f : Str) (v : V) : List (Str × V)->List (Str × V)
 | []=>[(f,v)]
 | (g,x) :: r=>if g = f then (g,v) :: r else (g,x) :: putF f v r
theorem lookup_putF (f g : Str) (v : V) : ∀ fs : List (Str × V),(putF f v fs).lookup g = if g = f then some v else fs.lookup g
 | []=>by
  show List.lookup g [(f,v)] = _
  by_cases h : g = f
  ·have hb : (g == f) = true:=beq_iff_eq.mpr h
   simp only [List.lookup,hb,if_pos h]
  ·have hb : (g == f) = false:=beq_eq_false_iff_ne.mpr h
   simp only [List.lookup,hb,if_neg h]
 | (k,x) :: r=>by
  have ih:=lookup_putF f g v r
  rw [show putF f v ((k,x) :: r) = (if k = f then (k,v) :: r else (k,x) :: putF f v r) from rfl]
  by_cases hk : k = f
  ·rw [if_pos hk]
   by_cases h : g = k
   ·have hb : (g == k) = true:=beq_iff_eq.mpr h
    simp only [List.lookup,hb,if_pos (h.trans hk)]
   ·have hb : (g == k) = false:=beq_eq_false_iff_ne.mpr h
    simp only [List.lookup,hb,if_neg (fun e : g = f=>h (e.trans hk.symm))]
  ·rw [if_neg hk]
   by_cases h : g = k
   ·have hb : (g == k) = true:=beq_iff_eq.mpr h
    simp only [List.lookup,hb,if_neg (fun e : g = f=>hk (h.symm.trans e))]
   ·have hb : (g == k) = false:=beq_eq_false_iff_ne.mpr h
    simp only [List.lookup,hb]
    exact ih
theorem handed_of {v : V} {u : Value} (r : RelV v u) : PySem.W.handedIn u = true:=by
 cases v with
 | non=>cases (show u = Value.none from r);rfl
 | bl b=>cases (show u = Value.bool b from r);rfl
 | int i=>obtain ⟨t,e⟩:=(show ∃ t,u = Value.int i t from r);cases e;rfl
 | str x=>obtain ⟨t,e⟩:=(show ∃ t,u = Value.str x t from r);cases e;rfl
 | byt b=>obtain ⟨t,e⟩:=(show ∃ t,u = Value.bytes b t from r);cases e;rfl
 | flt b=>obtain ⟨t,e⟩:=(show ∃ t,u = Value.float b t from r);cases e;rfl
 | ref a=>cases (show u = Value.ref a from r);rfl
 | ty n=>cases (show u = Value.type n from r);rfl
section
variable {P : Program} {w : World} {H H' : Hp} {h h' : Heap} {a C dx : Addr} {fs fs' : List (Str × V)}
theorem ins_get (hok : HOk P w H h) (e : H a = some (.ins C dx fs)) : ∃ mA,ObjM h a dx C mA/\(∀ f,RelO (fs.lookup f) (mA f))/\PySem.Within mA (fs.map (·.1))/\fs.length <= 1000/\H dx = some (.own a):=by
 obtain ⟨d,z,ne,ob,mA,n,r,q⟩:=(show ObjOk P w H h a (.ins C dx fs) from hok a _ e)
 exact ⟨mA,⟨ob,n,ne⟩,r,q,z,d⟩
end
structure Cls (K : PySem.W.Frag) (C : Addr) : Prop where
 pg : PySem.W.plainGet K C Str.empty = true
 hd : PySem.W.hasDictIn K C = true
 po : PySem.W.plainOver K C = true
 sa : PySem.W.findIn K (.ref C) "__setattr__" = some (some (.builtin "object.__setattr__"))
theorem Cls.get {K : PySem.W.Frag} {C : Addr} (c : Cls K C) (f : Str) : PySem.W.plainGet K C f = true:=c.pg
section
variable {X : Cx} {pins : List (Addr × Obj)} {σ : St} {H : Hp} {s : Shared} {a C dx : Addr} {fs : List (Str × V)} {f : Str} {v : V} {A : Around} {E : Value->Shared->Prop}
theorem Inv.made (I : Inv X pins σ H s) : Inv X pins σ (upd (upd H s.heap.objs.size (.own (s.heap.objs.size + 1))) (s.heap.objs.size + 1) (.ins C s.heap.objs.size []))
  { s with heap:=(s.heap.push PySem.W.emptyDict).push (PySem.W.instObj C s.heap.objs.size) }:=by
 have e1 : (s.heap.push PySem.W.emptyDict).get? s.heap.objs.size = some PySem.W.emptyDict:=Heap.get?_push_size s.heap rfl
 have e2 : ((s.heap.push PySem.W.emptyDict).push (PySem.W.instObj C s.heap.objs.size)).get? (s.heap.objs.size + 1) = some (PySem.W.instObj C s.heap.objs.size):=by
  have:=Heap.get?_push_size (s.heap.push PySem.W.emptyDict) (o:=PySem.W.instObj C s.heap.objs.size) rfl
  rwa [Heap.size_push] at this
 have e3 : (s.heap.push PySem.W.emptyDict).Ns s.heap.objs.size (fun _=>none):=⟨PySem.W.emptyDict,#[],_,e1,rfl,(fun e he=>absurd he (by simp)),fun _=>rfl⟩
 have I1:=I.laid (a:=s.heap.objs.size) (o:=.own (s.heap.objs.size + 1)) (h':=s.heap.push PySem.W.emptyDict) (t':=s.toks) (fun b u q=>Heap.get?_push_of_some _ q) (Nat.le_refl _) ⟨_,e1⟩
 refine I1.laid (a:=s.heap.objs.size + 1) (o:=.ins C s.heap.objs.size []) (t':=s.toks) (fun b u q=>Heap.get?_push_of_some _ q) (Nat.le_of_eq (Heap.size_push _ _)) ?_
 have ne : s.heap.objs.size ≠ s.heap.objs.size + 1:=Nat.ne_of_lt (Nat.lt_succ_self _)
 refine ⟨by rw [upd_ne ne,upd_same],Nat.zero_le _,ne,e2,fun _=>none,(Heap.Ns1.of_empty e3).at fun o q=>Heap.get?_push_of_some _ q,fun _=>True.intro,fun y hy=>absurd rfl hy⟩
theorem attr_of {prog : Program} {w : World} {env : Env} {e : Expr} {f : Str} {pos : Pos} {s : Shared} {Q : Value->Shared->Prop} (hb : attributeBase e f env (eval e env) = eval e env)
  (h : wpAny (model prog w) A (eval e env) (fun o s₁=>wpAny (model prog w) A (getAttr o f true) Q E s₁) E s) : wpAny (model prog w) A (eval (.Attribute e f pos) env) Q E s :=
 Attribute_any_ h (by rw [arm_eval_Attribute,hb])
end
section
variable {X : Cx} {o e value : Expr} {f : Str} {pos pos' tpos : Pos} {ta tv : TE}
end
section
variable {X : Cx} {pins : List (Addr × Obj)} {σ : St} {H : Hp} {s : Shared} {A : Around} {E : Value->Shared->Prop} {Q : Value->Shared->Prop} {c : Value} {b : Bool}
inductive TyOf (K : PySem.W.Frag) (H : Hp) : V->Value->Prop where
 | non : TyOf K H .non (.type "NoneType")
 | bl (x : Bool) : TyOf K H (.bl x) (.type "bool")
 | int (i : Int) : TyOf K H (.int i) (.type "int")
 | str (x : Str) : TyOf K H (.str x) (.type "str")
 | flt (x : UInt64) : TyOf K H (.flt x) (.type "float")
 | lst {a : Addr} {xs : List V} (e : H a = some (.lst xs)) : TyOf K H (.ref a) (.type "list")
 | frz {a : Addr} {o : Obj} {xs : List V} (e : H a = some (.frz o (.lst xs))) : TyOf K H (.ref a) (.type "list")
 | tup {a : Addr} {xs : List V} (e : H a = some (.tup xs)) : TyOf K H (.ref a) (.type "tuple")
 | dK {a : Addr} {kvs : List (Key × V)} (e : H a = some (.dK kvs)) : TyOf K H (.ref a) (.type "dict")
 | dT {a : Addr} {kvs : List (List Key × V)} (e : H a = some (.dT kvs)) : TyOf K H (.ref a) (.type "dict")
 | ins {a C dx : Addr} {fs : List (Str × V)} (e : H a = some (.ins C dx fs)) (cl : Cls K C) (ha : PySem.W.findIn K (.ref C) "__class__" = some (some (.builtin "object.__class__")))
   (hn : PySem.W.specialIn K (.builtin "object.__class__") "__get__" = some (some (.builtin "getset_descriptor.__get__"))) (htk : PySem.W.takesIn K (.builtin "object.__class__") = some true)
   (hm : PySem.W.mroIn K C (.type "object") = some true) : TyOf K H (.ref a) (.ref C)
theorem isinst_ok {x : V} {u t : Value} (I : Inv X pins σ H s) (rx : RelV x u) (ty : TyOf X.K H x t) (e : PySem.W.kitOne X.K t c = some b) (h : ∀ tk,Q (.bool b) { s with toks:=tk }) :
  wpAny (model X.prog X.w) A (call (.builtin "isinstance") [u,c]) Q E s:=by
 cases ty with
 | non=>cases (show u = Value.none from rx);exact PySem.W.kia_one PySem.W.kitx_none I.kIn True.intro e (fun z=>nomatch z) h
 | bl y=>cases (show u = Value.bool y from rx);exact PySem.W.kia_one PySem.W.kitx_bool I.kIn True.intro e (fun z=>nomatch z) h
 | int i=>obtain ⟨t,q⟩:=(show ∃ t,u = Value.int i t from rx);cases q;exact PySem.W.kia_one PySem.W.kitx_int I.kIn True.intro e (fun z=>nomatch z) h
 | str y=>obtain ⟨t,q⟩:=(show ∃ t,u = Value.str y t from rx);cases q;exact PySem.W.kia_one PySem.W.kitx_str I.kIn True.intro e (fun z=>nomatch z) h
 | flt y=>obtain ⟨t,q⟩:=(show ∃ t,u = Value.float y t from rx);cases q;exact PySem.W.kia_one PySem.W.kitx_float I.kIn True.intro e (fun z=>nomatch z) h
 | @lst a xs ea =>
  cases (show u = Value.ref a from rx)
  obtain ⟨_,_,n,_,h1⟩:=(show ObjOk X.prog X.w H s.heap a (.lst xs) from I.hok a _ ea)
  exact PySem.W.kia_one PySem.W.kitx_list I.kIn ⟨_,h1,rfl⟩ e (fun z=>nomatch z) h
 | @frz a ob xs ea =>
  cases (show u = Value.ref a from rx)
  obtain ⟨_,_,_,n,_,h1⟩:=(show ObjOk X.prog X.w H s.heap a (.frz ob (.lst xs)) from I.hok a _ ea)
  exact PySem.W.kia_one PySem.W.kitx_list I.kIn ⟨_,h1,rfl⟩ e (fun z=>nomatch z) h
 | @tup a xs ea =>
  cases (show u = Value.ref a from rx)
  obtain ⟨_,_,_,p,_⟩:=(show ObjOk X.prog X.w H s.heap a (.tup xs) from I.hok a _ ea)
  obtain ⟨o,h1,h2,_⟩:=p
  exact PySem.W.kia_one PySem.W.kitx_tuple I.kIn ⟨o,h1,h2⟩ e (fun z=>nomatch z) h
 | @dK a kvs ea =>
  cases (show u = Value.ref a from rx)
  obtain ⟨_,_,vs,_,p⟩:=(show ObjOk X.prog X.w H s.heap a (.dK kvs) from I.hok a _ ea)
  obtain ⟨o,es,ep,h1,h2,_⟩:=p
  exact PySem.W.kia_one PySem.W.kitx_dict I.kIn ⟨o,h1,h2.1⟩ e (fun z=>nomatch z) h
 | @dT a kvs ea =>
  cases (show u = Value.ref a from rx)
  obtain ⟨_,_,xs,_,o,es,ep,h1,h2,_⟩:=(show ObjOk X.prog X.w H s.heap a (.dT kvs) from I.hok a _ ea)
  exact PySem.W.kia_one PySem.W.kitx_dict I.kIn ⟨o,h1,h2.1⟩ e (fun z=>nomatch z) h
 | @ins a C dx fs ea cl ha hn htk hm =>
  cases (show u = Value.ref a from rx)
  obtain ⟨mA,O,_⟩:=ins_get I.hok ea
  obtain ⟨od,J,_⟩:=O.look
  exact PySem.W.kia_one (PySem.W.kitx_own (cl.get _) cl.hd ha hn htk hm) I.kIn J e (fun z=>nomatch z) h
end
end L2
namespace L2
open PySem PySem.Spec PyProof.Rows
structure Room (k : Nat) (A : Around) : Prop where
 hd : A.handled = none
 dp : A.depth + 3 * k + 5 < recursionLimit
 un : A.units + 16 * k + 200 < cLine
theorem Room.mono {j k : Nat} {A : Around} (r : Room k A) (h : j <= k) : Room j A:=⟨r.hd,by have:=r.dp;omega,by have:=r.un;omega⟩
theorem Room.deeper {k : Nat} {A : Around} (r : Room (k + 1) A) (env : Env) : Room k (A.deeper env) :=
 ⟨r.hd,by have:=r.dp;show A.depth + 1 + 3 * k + 5 < _;omega,by have:=r.un;show A.units + 3 + 16 * k + 200 < _;omega⟩
theorem Room.in1 {k : Nat} {A : Around} (r : Room (k + 1) A) : Room k A.in1 :=
 ⟨r.hd,by have:=r.dp;show A.depth + 3 * k + 5 < _;omega,by have:=r.un;show A.units + 1 + 16 * k + 200 < _;omega⟩
theorem make_depth {A : Around} {C : Addr} {us : List Value} {kw : List (Str × Value)} : (A.under (.builtin "type.__call__" ⟨.ref C :: us,kw⟩)).depth = A.depth + 1:=by
 first | rfl | simp [Around.under,Code.weight,Code.isCreation,Code.isGuard,Code.isCaller,Code.frames,Code.isFrame,guardIds]
theorem make_units {A : Around} {C : Addr} {us : List Value} {kw : List (Str × Value)} : (A.under (.builtin "type.__call__" ⟨.ref C :: us,kw⟩)).units = A.units + 1:=by
 first | rfl | simp [Around.under,Code.cUnits,Code.frames,Code.isFrame]
theorem Room.make {k : Nat} {A : Around} (r : Room (k + 1) A) (C : Addr) (us : List Value) (kw : List (Str × Value)) : Room k (A.under (.builtin "type.__call__" ⟨.ref C :: us,kw⟩)) :=
 ⟨r.hd,by have:=r.dp;rw [make_depth];omega,by have:=r.un;rw [make_units];omega⟩
theorem Room.depth {k : Nat} {A : Around} (r : Room k A) : A.depth < recursionLimit:=by have:=r.dp;omega
theorem Room.units {k : Nat} {A : Around} (r : Room k A) : A.units + 64 < cLine:=by have:=r.un;omega
def tNil : TA:=fun _ H Q=>Q [] H
def tCons (ta : TE) (tr : TA) : TA:=fun σ H Q=>ta σ H fun x H1=>tr σ H1 fun xs H2=>Q (x :: xs) H2
section
variable {X : Cx} {e : Expr} {es : List Expr} {te : TE} {t : TA} {pos : Pos}
theorem pa_nil : PA X [] tNil:=fun _ _ _ _ H Q I h=>Calls.spliced_nil ⟨[],H,I,.nil,h⟩
theorem pa_cons (ha : PE X e te) (hr : PA X es t) (hs : starEach (e :: es) X.env = (false,eval e X.env) :: starEach es X.env:=by rfl) : PA X (e :: es) (tCons te t):=by
 intro pos pins s σ H Q I h
 rw [hs]
 show wpAny _ _ (spliced ((false,eval e X.env) :: backTo pos (starEach es X.env))) _ _ s
 refine Calls.spliced_cons (thn (ha pins s σ H _ I h) fun u s1 ⟨x,H1,I1,r1,q1⟩=>?_)
 exact thn (hr pos pins s1 σ H1 _ I1 q1) fun us s2 ⟨xs,H2,I2,r2,q2⟩=>⟨x :: xs,H2,I2,.cons r1 r2,q2⟩
def tTup (t : TA) : TE:=fun σ H Q=>t σ H fun xs H1=>xs.length <= sizeLine/\∀ p,H1 p = none->Q (.ref p) (upd H1 p (.tup xs))
def tLst (t : TA) : TE:=fun σ H Q=>t σ H fun xs H1=>xs.length <= sizeLine/\∀ p,H1 p = none->Q (.ref p) (upd H1 p (.lst xs))
theorem pe_tup {x1} (h : PA X es t) : PE X (.Tuple es x1 pos) (tTup t):=by
 intro pins s σ H Q I hq
 refine wpAny_Tuple_spliced (thn (h pos pins s σ H _ I hq) fun us s1 ⟨xs,H1,I1,r,z,q⟩=>⟨by rw [<- r.length];exact z,?_⟩)
 have hf : H1 s1.heap.objs.size = none:=I1.hok.fresh (Nat.le_refl _)
 refine ⟨.ref s1.heap.objs.size,upd H1 s1.heap.objs.size (.tup xs),I1.laid (t':=s1.toks) (fun b u e=>Heap.get?_push_of_some _ e) (Nat.le_refl _) ?_,rfl,q _ hf⟩
 exact ⟨z,us,r,⟨_,Heap.get?_push_size _ rfl,rfl,_,rfl⟩,_,Heap.get?_push_size _ rfl,rfl⟩
theorem pe_lst (h : PA X es t) : PE X (.List es pos) (tLst t):=by
 intro pins s σ H Q I hq
 refine wpAny_List_spliced (thn (h pos pins s σ H _ I hq) fun us s1 ⟨xs,H1,I1,r,z,q⟩=>⟨by rw [<- r.length];exact z,?_⟩)
 have hf : H1 s1.heap.objs.size = none:=I1.hok.fresh (Nat.le_refl _)
 refine ⟨.ref s1.heap.objs.size,upd H1 s1.heap.objs.size (.lst xs),I1.laid (t':=s1.toks) (fun b u e=>Heap.get?_push_of_some _ e) (Nat.le_refl _) ?_,rfl,q _ hf⟩
 exact ⟨z,us,0,r,Heap.get?_push_size _ rfl⟩
end
abbrev Sp:=List V->Hp->VK->XK->Prop
abbrev CXT:=List Env->Hp->Shared->XK->Value->Shared->Prop
structure Env0 (P : Program) (w : World) (K : PySem.W.Frag) (mg : Str->Option Value) (base : Heap) (A : Around) (outer : List Env) (s : Shared) (H : Hp) : Prop where
 frames : A.frames = some outer
 mod : Mod K mg base
 bs : ∀ b o,base.get? b = some o->s.heap.get? b = some o/\H b = none
 bsz : base.objs.size <= s.heap.objs.size
 funs : s.heap.FunFrames base outer
 frf : ∀ b ∈ frs outer,H b = none
 hok : HOk P w H s.heap
 bare : AllBare s.gens
def CE (outer : List Env) (P : Program) (w : World) (H : Hp) (s : Shared) (Q : VK) (u : Value) (s' : Shared) : Prop :=
 ∃ v H',s'.os = s.os/\GOk s.gens s'.gens/\Un (frs outer) [] H H' s.heap s'.heap/\HOk P w H' s'.heap/\RelV v u/\Q v H'
def CR (CX : CXT) (outer : List Env) (P : Program) (w : World) (H : Hp) (s : Shared) (Q : VK) (E : XK) (r : Result) (s' : Shared) : Prop :=
 match r with
 | .ok (.ret u)=>CE outer P w H s Q u s'
 | .ok _=>False
 | .error e=>CX outer H s E e s'
structure FnOk (P : Program) (w : World) (K : PySem.W.Frag) (mg : Str->Option Value) (base : Heap) (CX : CXT) (k : Nat) (f : Addr) (fd : FuncData) (ps : List Str) (sp : Sp) : Prop where
 len : ∀ vs H Q E,sp vs H Q E->vs.length = ps.length
 run : ∀ (A : Around) (outer : List Env) (s : Shared) (H : Hp) (args : Args) (us : List Value) (vs : List V) (Q : VK) (E : XK),Room k A->Env0 P w K mg base A outer s H->BindsTo s fd args (ps.zip us)->Vals vs us->sp vs H Q E ->
  codeAny (model P w) A (.call (.ref f) args) (CR CX outer P w H s Q E) s
theorem FnOk.mono {P : Program} {w : World} {K : PySem.W.Frag} {mg : Str->Option Value} {base : Heap} {CX : CXT} {j k : Nat} {f : Addr} {fd : FuncData} {ps : List Str} {sp : Sp} (F : FnOk P w K mg base CX j f fd ps sp) (h : j <= k) :
  FnOk P w K mg base CX k f fd ps sp:=⟨F.len,fun A outer s H args us vs Q E hr=>F.run A outer s H args us vs Q E (hr.mono h)⟩
theorem FnOk.imp {P : Program} {w : World} {K : PySem.W.Frag} {mg : Str->Option Value} {base : Heap} {CX : CXT} {k : Nat} {f : Addr} {fd : FuncData} {ps : List Str} {sp sp' : Sp} (F : FnOk P w K mg base CX k f fd ps sp)
  (h : ∀ vs H Q E,sp' vs H Q E->sp vs H Q E) : FnOk P w K mg base CX k f fd ps sp' :=
 ⟨fun vs H Q E q=>F.len vs H Q E (h _ _ _ _ q),fun A outer s H args us vs Q E hr he hb hv hs=>F.run A outer s H args us vs Q E hr he hb hv (h _ _ _ _ hs)⟩
theorem Env0.make {P : Program} {w : World} {K : PySem.W.Frag} {mg : Str->Option Value} {base : Heap} {A : Around} {outer : List Env} {s : Shared} {H : Hp} (e : Env0 P w K mg base A outer s H) (C : Addr) (us : List Value) (kw : List (Str × Value)) :
  Env0 P w K mg base (A.under (.builtin "type.__call__" ⟨.ref C :: us,kw⟩)) outer s H:=⟨by first | exact e.frames | (simpa [Around.under,Code.envs,Code.isFrame,pushEnvs] using e.frames),e.mod,e.bs,e.bsz,e.funs,e.frf,e.hok,e.bare⟩
theorem Env0.in1 {P : Program} {w : World} {K : PySem.W.Frag} {mg : Str->Option Value} {base : Heap} {A : Around} {outer : List Env} {s : Shared} {H : Hp} (e : Env0 P w K mg base A outer s H) :
  Env0 P w K mg base A.in1 outer s H:=⟨e.frames,e.mod,e.bs,e.bsz,e.funs,e.frf,e.hok,e.bare⟩
section
variable {X : Cx} {pins : List (Addr × Obj)} {σ : St} {H : Hp} {s s' : Shared}
theorem Inv.env0 (I : Inv X pins σ H s) : Env0 X.prog X.w X.K X.mg X.base X.A X.stack s H :=
 ⟨I.ok.frames,I.ok.mod,I.bs,Nat.le_trans I.ok.bsz I.sz,I.stack,I.stkFree,I.hok,I.bare.1⟩
theorem Inv.after {Q : VK} {u : Value} (I : Inv X pins σ H s) (h : CE X.stack X.prog X.w H s Q u s') : EP X pins σ Q u s':=by
 obtain ⟨v,H',os,bare,un,hok,r,q⟩:=h
 obtain ⟨hh,g,d,t,os'⟩:=s'
 obtain rfl : os' = s.os:=os
 exact ⟨v,H',I.call (h':=hh) (g':=g) (d':=d) (t':=t) (ch:=[]) un hok bare (fun b z=>absurd z (by simp)),r,q⟩
end
def tCall (sp : Sp) (dvs : List V) (E : XK) (t : TA) : TE:=fun σ H Q=>t σ H fun vs H1=>sp (vs ++ dvs) H1 Q E
def Binds (K : PySem.W.Frag) (fd : FuncData) (ps : List Str) (ds : List Value) : Prop :=
 ∀ (s : Shared) (us : List Value),K.In s.heap->(us ++ ds).length = ps.length->BindsTo s fd ⟨us,[]⟩ (ps.zip (us ++ ds))
theorem Binds.all {K : PySem.W.Frag} {fd : FuncData} {ps : List Str} (h : ∀ us : List Value,us.length = ps.length->bindArgs fd ⟨us,[]⟩ = pure (ps.zip us)) : Binds K fd ps []:=fun s us _ hl=>by
 rw [List.append_nil] at hl ⊢
 exact .of_eq (h us hl)
def Passes (CX : CXT) (X : Cx) (E : XK) : Prop := ∀ (pins : List (Addr × Obj)) (σ : St) (H : Hp) (s : Shared) (e : Value) (s' : Shared),Inv X pins σ H s->CX X.stack H s E e s'->X.xe e s'
section
variable {X : Cx} {CX : CXT} {k : Nat} {f C : Addr} {fd : FuncData} {ps : List Str} {sp : Sp} {dvs : List V} {ds : List Value} {E : XK} {x m : Str} {p pos apos : Pos} {e o : Expr} {es : List Expr} {ta : TE} {t : TA}
theorem run_fn {pins : List (Addr × Obj)} {σ : St} {H : Hp} {s : Shared} {Q : VK} {us : List Value} {vs : List V} (F : FnOk X.prog X.w X.K X.mg X.base CX k f fd ps sp) (hr : Room k X.A) (hb : Binds X.K fd ps ds) (hd : Vals dvs ds) (hx : Passes CX X E)
  (I : Inv X pins σ H s) (r : Vals vs us) (h : sp (vs ++ dvs) H Q E) : wpAny (model X.prog X.w) X.A (call (.ref f) us) (EP X pins σ Q) X.xe s:=by
 have r2 : Vals (vs ++ dvs) (us ++ ds):=r.append hd
 have hl : (us ++ ds).length = ps.length:=by rw [<- r2.length];exact F.len _ _ _ _ h
 refine wpAny_call (codeAny_mono (F.run X.A X.stack s H ⟨us,[]⟩ (us ++ ds) (vs ++ dvs) Q E hr I.env0 (hb s us I.kIn hl) r2 h) fun r s' hq=>?_)
 cases r with
 | error e=>exact hx pins σ H s e s' I hq
 | ok fl =>
  cases fl with
  | ret u=>exact I.after hq
  | next=>exact False.elim hq
  | brk=>exact False.elim hq
  | cont=>exact False.elim hq
theorem pe_call (F : FnOk X.prog X.w X.K X.mg X.base CX k f fd ps sp) (hr : Room k X.A) (hg : Gl X x) (hm : X.mg x = some (.ref f)) (hk : PySem.W.keepIn X.K (.ref f) = true) (hb : Binds X.K fd ps ds) (hd : Vals dvs ds) (hx : Passes CX X E)
  (ha : PA X (e :: es) t) (hdb : (x == ("__debug__" : Str)) = false:=by decide) (he : starEach (e :: es) X.env = (false,eval e X.env) :: starEach es X.env:=by rfl) (hpl : (backTo pos (starEach es X.env)).any (·.1) = false:=by rfl) :
  PE X (.Call (.Name x p) (e :: es) [] pos) (tCall sp dvs E t):=by
 intro pins s σ H Q I h
 refine wpAny_Call_Name_kw (ld_glob I hg hm ?_ hdb)
 refine PySem.W.callWith_K (h₀:=X.base) I.ok.mod.kin hk (thn (ha pos pins s σ H _ I h) fun us s1 ⟨vs,H1,I1,r,q⟩=>⟨I1.kIn,?_⟩) he hpl
 exact run_fn F hr hb hd hx I1 r q
end
section
variable {X : Cx} {CX : CXT} {k : Nat} {f C : Addr} {fd : FuncData} {ps ks : List Str} {sp : Sp} {E : XK} {x m : Str} {p pos apos kpos : Pos} {e o : Expr} {es : List Expr} {kws : List Keyword} {te ta : TE} {t tk : TA} {nm : Option Str}
variable {g : List Value->List Value->List Value} {gV : List V->List V->List V}
end
structure FnScope (N P : List Str) (sc : Scope) : Prop where
 kind : sc.kind = .function
 co : sc.isCoroutine = false
 gen : sc.isGenerator = false
 nd : N.Nodup
 pre : N.take P.length = P
 par : ∀ x ∈ P,sc.names.lookup x = some .local\/sc.names.lookup x = some .cell
 nofree : ∀ y ∈ sc.names,y.2 ≠ .free
theorem bindL_out {kindOf : Str->Option NameKind} {x : Str} : ∀ {binds : List (Str × Value)} {m : Str->Option Value},(∀ v,(x,v) ∉ binds)->bindL kindOf binds m x = m x
 | [],_,_=>rfl
 | (n,v) :: r,m,h=>by
  unfold bindL
  rw [bindL_out fun w hw=>h w (List.mem_cons_of_mem _ hw)]
  split
  ·have : x ≠ n:=by rintro rfl;exact h v List.mem_cons_self
   simp [this]
  ·rfl
theorem bindC_out {kindOf : Str->Option NameKind} {x : Str} : ∀ {binds : List (Str × Value)} {m : Str->Option Value},(∀ v,(x,v) ∉ binds)->bindC kindOf binds m x = m x
 | [],_,_=>rfl
 | (n,v) :: r,m,h=>by
  unfold bindC
  rw [bindC_out fun w hw=>h w (List.mem_cons_of_mem _ hw)]
  split
  ·rfl
  ·have : x ≠ n:=by rintro rfl;exact h v List.mem_cons_self
   simp [this]
theorem bindL_get {kindOf : Str->Option NameKind} {x : Str} {v : Value} : ∀ {P : List Str} {vs : List Value} {i : Nat} {m : Str->Option Value},P.Nodup->P[i]? = some x->vs[i]? = some v->kindOf x = some .local ->
  bindL kindOf (P.zip vs) m x = some v
 | [],_,_,_,_,h,_,_=>by simp at h
 | _ :: _,[],_,_,_,_,h,_=>by simp at h
 | p :: P,w :: vs,0,m,nd,h1,h2,hk=>by
  simp at h1 h2;subst h1;subst h2
  show bindL kindOf ((p,w) :: P.zip vs) m p = _
  unfold bindL
  rw [bindL_out fun v hv=>(List.nodup_cons.mp nd).1 (List.of_mem_zip hv).1,if_pos hk]
  simp
 | p :: P,w :: vs,i + 1,m,nd,h1,h2,hk=>by
  show bindL kindOf ((p,w) :: P.zip vs) m x = _
  unfold bindL
  exact bindL_get (i:=i) (List.nodup_cons.mp nd).2 (by simpa using h1) (by simpa using h2) hk
theorem bindC_get {kindOf : Str->Option NameKind} {x : Str} {v : Value} : ∀ {P : List Str} {vs : List Value} {i : Nat} {m : Str->Option Value},P.Nodup->P[i]? = some x->vs[i]? = some v->kindOf x ≠ some .local ->
  bindC kindOf (P.zip vs) m x = some v
 | [],_,_,_,_,h,_,_=>by simp at h
 | _ :: _,[],_,_,_,_,h,_=>by simp at h
 | p :: P,w :: vs,0,m,nd,h1,h2,hk=>by
  simp at h1 h2;subst h1;subst h2
  show bindC kindOf ((p,w) :: P.zip vs) m p = _
  unfold bindC
  rw [bindC_out fun v hv=>(List.nodup_cons.mp nd).1 (List.of_mem_zip hv).1,if_neg hk]
  simp
 | p :: P,w :: vs,i + 1,m,nd,h1,h2,hk=>by
  show bindC kindOf ((p,w) :: P.zip vs) m x = _
  unfold bindC
  exact bindC_get (i:=i) (List.nodup_cons.mp nd).2 (by simpa using h1) (by simpa using h2) hk
def start (N : List Str) (vs : List V) : St:=vs.map some ++ List.replicate (N.length - vs.length) none
def cxOf (CX : CXT) (P : Program) (w : World) (K : PySem.W.Frag) (mg : Str->Option Value) (base : Heap) (N : List Str) (qual : Str) (scope : Scope) (f : Addr) (cd : Value) (A : Around) (outer : List Env) (s : Shared) (H : Hp) (E : XK) : Cx where
 prog:=P
 w:=w
 K:=K
 mg:=mg
 base:=base
 A:=A.deeper (envOfC qual scope s.heap.objs.size f cd)
 N:=N
 s₀:=s
 H₀:=H
 env:=envOfC qual scope s.heap.objs.size f cd
 outer:=outer
 stack:=envOfC qual scope s.heap.objs.size f cd :: outer
 ex:=[]
 calm:=true
 fn:=fun _=>true
 pn:=[]
 xe:=fun e s'=>wpAny (model P w) (A.deeper (envOfC qual scope s.heap.objs.size f cd)) (leaving (envOfC qual scope s.heap.objs.size f cd) e) (fun _ s''=>CX outer H s E e s'') (fun e' s''=>CX outer H s E e' s'') s'
theorem cell_has {sc : Scope} {n : Nat} {x : Str} (h : sc.names.lookup x = some .cell) : ∃ c,(cellsFrom n sc.names []).lookup x = some c:=by
 have q:=PySem.W.cellsFrom_some sc.names n [] (.inl h)
 exact Option.isSome_iff_exists.mp q
theorem inv_start {CX : CXT} {P : Program} {w : World} {K : PySem.W.Frag} {mg : Str->Option Value} {base : Heap} {N ps : List Str} {qual : Str} {scope : Scope} {f : Addr} {cd : Value} {A : Around} {outer : List Env} {s s1 : Shared} {H : Hp} {E : XK} {us : List Value} {vs : List V}
  (S : FnScope N ps scope) (hd : A.handled = none) (e0 : Env0 P w K mg base A outer s H) (hl : vs.length = ps.length) (r : Vals vs us)
  (x : InCallC s s.heap.objs.size (bindL (envOfC qual scope s.heap.objs.size f cd).kindOf (ps.zip us) fun _=>none) (cellsFrom (s.heap.objs.size + 1) scope.names []) (bindC (envOfC qual scope s.heap.objs.size f cd).kindOf (ps.zip us) fun _=>none) s1) :
  Inv (cxOf CX P w K mg base N qual scope f cd A outer s H E) [] (start N vs) H s1:=by
 have hpl : ps.length <= N.length:=by have:=congrArg List.length S.pre;rw [List.length_take] at this;omega
 obtain ⟨h1,tk,rfl,hk⟩:=x.done
 have noA : ∀ b : Addr,b ∉ (cxOf CX P w K mg base N qual scope f cd A outer s H E).ex:=fun b z=>absurd (show b ∈ ([] : List Addr) from z) (by simp)
 refine ⟨⟨e0.mod,S.kind,rfl,rfl,Nat.le_refl _,fun y z c h1 h2=>?_,fun y hy=>?_,fun y c _ h=>?_,fun _=>hd,Around.frames_deeper e0.frames,.inr ⟨rfl,rfl⟩,fun b z=>absurd z (noA b),e0.bs,e0.bsz,fun b _ _=>noA b,fun b z=>absurd z (noA b),e0.funs,e0.frf⟩,
  rfl,⟨e0.bare,Nat.le_refl _⟩,Un.kept hk,⟨_,x.toInCall.ns,fun i y v h1 h2 h3=>?_⟩,fun y c h=>⟨_,x.cell y c h⟩,e0.hok.fresh (Nat.le_refl _),fun y c h=>?_,fun p hp=>absurd (show p ∈ ([] : List (Addr × Obj)) from hp) (by simp),e0.hok.kept hk,?_⟩
 ·exact name_of_addr x.apart (PySem.mem_of_lookup h1) (PySem.mem_of_lookup h2)
 ·have hy : scope.names.lookup y = some .cell\/scope.names.lookup y = some .free:=hy
  rcases hy with hy | hy
  ·exact cell_has hy
  ·exact absurd rfl (S.nofree _ (PySem.mem_of_lookup hy))
 ·exact Nat.le_of_lt (x.above y c (PySem.mem_of_lookup h))
 ·have hi : i < vs.length:=by
   unfold start at h2
   by_cases hi : i < vs.length
   ·exact hi
   ·rw [List.getElem?_append_right (by simpa using hi)] at h2
    rw [List.getElem?_replicate] at h2
    split at h2 <;> cases h2
  have ha : vs[i]? = some v:=by
   unfold start at h2
   rw [List.getElem?_append_left (by simpa using hi),List.getElem?_map] at h2
   cases e : vs[i]? with
   | none=>rw [e] at h2;cases h2
   | some a=>rw [e] at h2;cases h2;rfl
  obtain ⟨u,hu,rv⟩:=r.get ha
  have hp : ps[i]? = some y:=by
   rw [<- S.pre,List.getElem?_take_of_lt (by omega)];exact h1
  have ndP : ps.Nodup:=by rw [<- S.pre];exact S.nd.sublist (List.take_sublist _ _)
  refine ⟨u,rv,?_⟩
  rcases S.par y (List.mem_of_getElem? hp) with k | k
  ·exact .inl ⟨k,bindL_get ndP hp hu k⟩
  ·obtain ⟨c,e⟩:=cell_has (n:=s.heap.objs.size + 1) k
   refine .inr ⟨.inl k,c,e,?_⟩
   have q:=x.cell y c e
   rw [bindC_get ndP hp hu (by show scope.names.lookup y ≠ _;rw [k];decide)] at q
   exact q
 ·exact e0.hok.fresh (Nat.le_of_lt (x.above y c (PySem.mem_of_lookup h)))
 ·unfold start
  show _ = N.length
  rw [List.length_append,List.length_map,List.length_replicate]
  omega
theorem fn_of {CX : CXT} {P : Program} {w : World} {K : PySem.W.Frag} {mg : Str->Option Value} {base : Heap} {k : Nat} {f : Addr} {name qual : Str} {params : Arguments} {body : List Stmt} {scope : Scope} {dV kV doc pm cdv ct oc : Value} {an od : Option Addr}
  {osl : Array (Option Value)} {N ps : List Str} {sp : Sp} (lk : K.lookup f = some ⟨oc,od,.func (PySem.W.fnOf name qual params body scope dV kV doc pm an cdv ct),osl⟩) (hcd : PySem.W.codeIn K cdv qual = true) (S : FnScope N ps scope)
  (len : ∀ vs H Q E,sp vs H Q E->vs.length = ps.length)
  (hbody : ∀ (A : Around) (outer : List Env) (s : Shared) (H : Hp) (vs : List V) (Q : VK) (E : XK),Room k (A.deeper (envOfC qual scope s.heap.objs.size f cdv))->sp vs H Q E ->
   ∃ t,PSs (cxOf CX P w K mg base N qual scope f cdv A outer s H E) body t/\t { nx:=fun _ H'=>Q .non H',rt:=Q } (start N vs) H) :
  FnOk P w K mg base CX (k + 1) f (PySem.W.fnOf name qual params body scope dV kV doc pm an cdv ct) ps sp:=by
 refine ⟨len,fun A outer s H args us vs Q E hr e0 hb r hsp=>?_⟩
 have hl:=len _ _ _ _ hsp
 have KX : K.In s.heap:=e0.mod.kin.keeps fun b o e=>(e0.bs b o e).1
 have lim : s.heap.NoLimit:=e0.mod.nolimit.keeps fun b o e=>(e0.bs b o e).1
 have hkind : ∀ y ∈ ps.zip us,scope.names.lookup y.1 = some .local\/(scope.names.lookup y.1 = some .cell/\((cellsFrom (s.heap.objs.size + 1) scope.names []).lookup y.1).isSome = true):=fun ⟨n,v⟩ hy=>by
  rcases S.par n (List.of_mem_zip hy).1 with q | q
  ·exact .inl q
  ·exact .inr ⟨q,PySem.W.cellsFrom_some _ _ _ (.inl q)⟩
 refine codeAny_call_function hr.depth (KX _ _ lk) rfl S.co S.gen rfl (PySem.W.codeRec_of KX hcd) (hb _ _ _ _ ?_)
 refine wpAny_newFunctionEnv_cells S.kind hkind fun env he s1 x=>?_
 subst he
 refine ⟨lim.keeps x.toInCall.keep,codeAny_func ?_⟩
 obtain ⟨t,ht,hq⟩:=hbody A outer s H vs Q E (hr.deeper _) hsp
 have I : Inv (cxOf CX P w K mg base N qual scope f cdv A outer s H E) [] (start N vs) H s1:=inv_start S hr.hd e0 hl r x
 refine wpAny_mono (ht [] s1 (start N vs) H _ I hq) (fun fl s' hs=>?_) fun e s' hs=>hs
 have fin : ∀ {σ' : St} {H' : Hp} {v : V} {u : Value},Inv (cxOf CX P w K mg base N qual scope f cdv A outer s H E) [] σ' H' s'->RelV v u->Q v H'->CE outer P w H s Q u s' :=
  fun {σ' H' v u} J rv q=>⟨v,H',J.os,J.bare,J.base,J.hok,rv,q⟩
 cases fl with
 | ret u =>
  obtain ⟨v,σ',H',J,rv,q⟩:=hs
  exact fin J rv q
 | next =>
  obtain ⟨σ',H',J,q⟩:=hs
  exact fin (v:=V.non) (u:=Value.none) J rfl q
 | brk =>
  obtain ⟨_,_,_,q⟩:=hs
  exact False.elim q
 | cont =>
  obtain ⟨_,_,_,q⟩:=hs
  exact False.elim q
end L2
namespace L2
open PySem PySem.Spec PyProof.Rows
section
variable {X : Cx} {x : Str} {p pos : Pos} {e : Expr} {es : List Expr} {t : TA} {id T : String} {r : List V->Hp->VK->Prop}
def tCB (r : List V->Hp->VK->Prop) (t : TA) : TE:=fun σ H Q=>t σ H fun vs H1=>r vs H1 Q
theorem pe_callB (hc : CallR X (.builtin id) r) (hg : Gl X x) (hm : X.mg x = none) (hv : bootBuiltins x = some (.builtin id)) (ha : PA X (e :: es) t) (hn : x ≠ "__name__" := by decide) (hdb : (x == ("__debug__" : Str)) = false:=by decide)
  (he : starEach (e :: es) X.env = (false,eval e X.env) :: starEach es X.env:=by rfl) (hpl : (backTo pos (starEach es X.env)).any (·.1) = false:=by rfl) : PE X (.Call (.Name x p) (e :: es) [] pos) (tCB r t):=by
 intro pins s σ H Q I h
 refine wpAny_Call_Name_kw (ld_blt I hg hm hv ?_ hn hdb)
 exact PyProof.Rows.callWith_builtin1 (thn (ha pos pins s σ H _ I h) fun us s1 ⟨vs,H1,I1,r1,q1⟩=>hc pins s1 σ H1 vs us Q I1 r1 q1) he hpl
theorem pe_callTy (hc : CallR X (.type T) r) (hg : Gl X x) (hm : X.mg x = none) (hv : bootBuiltins x = some (.type T)) (ha : PA X (e :: es) t) (hn : x ≠ "__name__" := by decide) (hdb : (x == ("__debug__" : Str)) = false:=by decide)
  (he : starEach (e :: es) X.env = (false,eval e X.env) :: starEach es X.env:=by rfl) (hpl : (backTo pos (starEach es X.env)).any (·.1) = false:=by rfl) : PE X (.Call (.Name x p) (e :: es) [] pos) (tCB r t):=by
 intro pins s σ H Q I h
 refine wpAny_Call_Name_kw (ld_blt I hg hm hv ?_ hn hdb)
 exact PyProof.Rows.callWith_type1 (thn (ha pos pins s σ H _ I h) fun us s1 ⟨vs,H1,I1,r1,q1⟩=>hc pins s1 σ H1 vs us Q I1 r1 q1) he hpl
end
end L2
namespace HT
open PySem PyProof.Rows
section
open PySem.SeqAt
open PySem.AutoSeq1 (wpAny_loadPart')
open PySem.MeetsSeq PySem.MeetsSeq2 PySem.MeetsSeq3
end
section
variable {prog : Program} {w : World} {A : Around} {E : Value->Shared->Prop} {s : Shared}
theorem cat_tup {t b : Addr} {vs ws : List Value} {Q : Value->Shared->Prop} (ht : IsTup s.heap t vs.toArray) (hb : IsTup s.heap b ws.toArray) (hv : vs ≠ [])
  (h1 : ws = []->Q (.ref t) s) (h2 : ws ≠ []->Q (.ref s.heap.objs.size) { s with heap:=s.heap.push { cls:=.type "tuple",data:=.seq (vs ++ ws).toArray } })
  (hsz : vs.length + ws.length <= sizeLine) : wpAny (model prog w) A (binaryOp .Add (.ref t) (.ref b)) Q E s:=by
 obtain ⟨⟨cls,dd,data,sl⟩,ho,hc,n,hd⟩:=id ht
 obtain ⟨⟨cls2,dd2,data2,sl2⟩,ho2,hc2,n2,hd2⟩:=id hb
 simp only at hc hd hc2 hd2
 subst hc hd hc2 hd2
 have e : vs.toArray ++ ws.toArray = (vs ++ ws).toArray:=by simp
 by_cases hw : ws = []
 ·exact concat_meets ⟨_,ho,rfl⟩ ⟨_,ho2,rfl⟩ noFill_tuple_add seq_tuple_add PySem.F.slot_tuple_add PySem.F.entry_tuple_add (PySem.F.args_tuple_add_2 _ _)
   (tuple_addW1 t b vs.toArray ws.toArray n n2 dd dd2 sl sl2 (by simpa using hv) (by simp [hw])) ⟨ho,ho2,h1 hw⟩
 ·refine concat_meets ⟨_,ho,rfl⟩ ⟨_,ho2,rfl⟩ noFill_tuple_add seq_tuple_add PySem.F.slot_tuple_add PySem.F.entry_tuple_add (PySem.F.args_tuple_add_2 _ _)
   (tuple_addW2 t b vs.toArray ws.toArray n n2 dd dd2 sl sl2 (by simpa using hv) (by simpa using hw) (by rw [List.size_toArray,List.size_toArray];exact hsz)) ⟨ho,ho2,?_⟩
  rw [e]
  exact h2 hw
def sIx (n d : Nat) : Option Int->Nat
 | none=>d
 | some v=>if v < 0 then (v + (n : Int)).toNat else min v.toNat n
theorem sIx_none (n d : Nat) : sIx n d none = d:=rfl
theorem sIx_nat (n d k : Nat) : sIx n d (some (k : Int)) = min k n:=by
 show (if (k : Int) < 0 then ((k : Int) + (n : Int)).toNat else min (k : Int).toNat n) = min k n
 rw [if_neg (by omega),Int.toNat_natCast]
end
end HT
namespace L2
open PySem PySem.Spec PyProof.Rows
abbrev TO:=St->Hp->(Option Int->Hp->Prop)->Prop
def PO (X : Cx) (e : Option Expr) (t : TO) : Prop :=
 ∀ (pins : List (Addr × Obj)) (s : Shared) (σ : St) (H : Hp) (Q : Option Int->Hp->Prop),Inv X pins σ H s->t σ H Q ->
  wpAny (model X.prog X.w) X.A (evalPart e X.env) (fun u s'=>∃ o H',Inv X pins σ H' s'/\IsPart u o/\Q o H') X.xe s
def tNoPart : TO:=fun _ H Q=>Q none H
def tPart (t : TE) : TO:=fun σ H Q=>t σ H fun x H1=>∃ i,x = .int i/\Q (some i) H1
section
variable {X : Cx} {e : Expr} {te : TE} {lo hi : Option Expr} {tl th : TO} {pos p2 : Pos}
theorem po_none : PO X none tNoPart:=by
 intro pins s σ H Q I h
 rw [evalPart_none]
 exact wpAny_pure ⟨none,H,I,.none,h⟩
theorem po_some (h : PE X e te) : PO X (some e) (tPart te):=by
 intro pins s σ H Q I hw
 rw [evalPart_some]
 refine thn (h pins s σ H _ I hw) fun u s1 ⟨x,H1,I1,r1,q1⟩=>?_
 obtain ⟨i,rfl,q⟩:=q1
 obtain ⟨t,rfl⟩:=r1
 exact ⟨some i,H1,I1,.int i t,q⟩
def SlR (X : Cx) (r : V->Option Int->Option Int->Hp->VK->Prop) : Prop :=
 ∀ (pins : List (Addr × Obj)) (s : Shared) (σ : St) (H : Hp) (x : V) (v vl vu : Value) (lo hi : Option Int) (sl : Addr) (Q : VK),Inv X pins σ H s->RelV x v->s.heap.IsSliceOf sl vl vu .none->IsPart vl lo->IsPart vu hi->r x lo hi H Q ->
  ∃ T id,typeLookup (.type T) "__getitem__" = pure (some (.builtin id))/\s.TypeIs v T/\wpAny (model X.prog X.w) X.A (getItem v (.ref sl)) (EP X pins σ Q) X.xe s
theorem SlR.or {r r' : V->Option Int->Option Int->Hp->VK->Prop} (h : SlR X r) (h' : SlR X r') : SlR X (fun x lo hi H Q=>r x lo hi H Q\/r' x lo hi H Q):=by
 intro pins s σ H x v vl vu lo hi sl Q I rx hs pl pu q
 rcases q with q | q
 ·exact h pins s σ H x v vl vu lo hi sl Q I rx hs pl pu q
 ·exact h' pins s σ H x v vl vu lo hi sl Q I rx hs pl pu q
def tSl (r : V->Option Int->Option Int->Hp->VK->Prop) (te : TE) (tl th : TO) : TE:=fun σ H Q=>te σ H fun x H1=>tl σ H1 fun l H2=>th σ H2 fun u H3=>r x l u H3 Q
theorem pe_slice {r : V->Option Int->Option Int->Hp->VK->Prop} (hr : SlR X r) (he : PE X e te) (hl : PO X lo tl) (hu : PO X hi th) : PE X (.Subscript e (.Slice lo hi none p2) pos) (tSl r te tl th):=by
 intro pins s σ H Q I h
 refine Subscript_ (thn (he pins s σ H _ I h) fun v s1 ⟨x,H1,I1,r1,q1⟩=>?_)
 refine wpAny_Slice (thn (hl pins s1 σ H1 _ I1 q1) fun vl s2 ⟨l,H2,I2,pl,q2⟩=>thn (hu pins s2 σ H2 _ I2 q2) fun vu s3 ⟨u,H3,I3,pu,q3⟩=>?_)
 rw [evalPart_none]
 refine wpAny_pure ?_
 have I4 : Inv X pins σ H3 { s3 with heap:=s3.heap.push { cls:=.type "slice",data:=.fields #[vl,vu,.none] } }:=I3.kept (t':=s3.toks) fun b ob q=>Heap.get?_push_of_some _ q
 obtain ⟨T,id,hT,ht,hg⟩:=hr pins { s3 with heap:=s3.heap.push { cls:=.type "slice",data:=.fields #[vl,vu,.none] } } σ H3 x v vl vu l u s3.heap.objs.size Q I4 r1 (Heap.IsSliceOf.new ..) pl pu q3
 show wpAny (model X.prog X.w) X.A (subscriptTail e (.Slice lo hi none p2) v (.ref s3.heap.objs.size)) (EP X pins σ Q) X.xe { s3 with heap:=s3.heap.push { cls:=.type "slice",data:=.fields #[vl,vu,.none] } }
 exact tail_any (ops:=[.ref s3.heap.objs.size,v]) ht hT hg (by with_unfolding_all rfl)
def cutV (xs : List V) (lo hi : Option Int) : List V:=(xs.drop (HT.sIx xs.length 0 lo)).take (HT.sIx xs.length xs.length hi - HT.sIx xs.length 0 lo)
theorem cutV_length (xs : List V) (lo hi : Option Int) : (cutV xs lo hi).length <= xs.length:=by
 unfold cutV
 rw [List.length_take,List.length_drop]
 omega
def rCatT (K : PySem.W.Frag) : R2:=fun x y H Q=>∃ a b xs ys,x = .ref a/\y = .ref b/\SqT K H a xs/\SqT K H b ys/\xs ≠ []/\xs.length + ys.length <= sizeLine /\
 (ys = []->Q (.ref a) H)/\(ys ≠ []->∀ p,H p = none->Q (.ref p) (upd H p (.tup (xs ++ ys))))
theorem Vals.nil_iff {xs : List V} {us : List Value} (r : Vals xs us) : us = [] ↔ xs = []:=by
 cases r with
 | nil=>simp
 | cons _ _=>simp
theorem op_catT : OpR X (binaryOp .Add) (rCatT X.K):=by
 intro pins s σ H x y v u Q I rx ry h
 obtain ⟨a,b,xs,ys,rfl,rfl,ha,hb,hx,hz,q1,q2⟩:=h
 cases rx
 cases ry
 obtain ⟨its,r1,p1,_⟩:=I.tuple ha
 obtain ⟨its2,r2,p2,_⟩:=I.tuple hb
 refine HT.cat_tup p1 p2 (fun z=>hx (r1.nil_iff.mp z)) (fun z=>⟨.ref a,H,I,rfl,q1 (r2.nil_iff.mp z)⟩) (fun z=>?_) (by rw [<- r1.length,<- r2.length];exact hz)
 refine ⟨.ref s.heap.objs.size,_,I.laid (t':=s.toks) (o:=.tup (xs ++ ys)) (fun b ob q=>Heap.get?_push_of_some _ q) (Nat.le_refl _) ?_,rfl,q2 (fun w=>z (r2.nil_iff.mpr w)) _ (I.hok.fresh (Nat.le_refl _))⟩
 exact ⟨by rw [List.length_append];exact hz,_,r1.append r2,IsTup.new _ _,_,Heap.get?_push_size _ rfl,rfl⟩
end
end L2
namespace L2
open PySem PySem.Spec PyProof.Rows
def ixN (n : Nat) (i : Int) : Option Nat:=if 0 <= i then (if i < n then some i.toNat else none) else if -(n : Int) <= i then some (i + n).toNat else none
def atI {α : Type} (xs : List α) (i : Int) : Option α:=(ixN xs.length i).bind fun j=>xs[j]?
theorem ixN_seq {n : Nat} {i : Int} {j : Nat} (h : ixN n i = some j) : seqIndex? i n = some j/\j < n/\-(n : Int) <= i/\i < n:=by
 unfold ixN at h
 by_cases h0 : 0 <= i
 ·rw [if_pos h0] at h
  by_cases h1 : i < n
  ·rw [if_pos h1] at h
   have e : i.toNat = j:=Option.some.inj h
   exact ⟨by rw [seqIndex_of h0 h1,e],by omega,by omega,h1⟩
  ·rw [if_neg h1] at h;cases h
 ·rw [if_neg h0] at h
  by_cases h1 : -(n : Int) <= i
  ·rw [if_pos h1] at h
   have e : (i + n).toNat = j:=Option.some.inj h
   exact ⟨by rw [seqIndex_neg (by omega) h1,e],by omega,h1,by omega⟩
  ·rw [if_neg h1] at h;cases h
theorem atI_get {α : Type} {xs : List α} {i : Int} {v : α} (h : atI xs i = some v) : ∃ j,seqIndex? i xs.length = some j/\xs[j]? = some v/\j < xs.length/\-(xs.length : Int) <= i/\i < xs.length:=by
 unfold atI at h
 cases e : ixN xs.length i with
 | none=>rw [e] at h;cases h
 | some j =>
  rw [e] at h
  obtain ⟨h1,h2,h3,h4⟩:=ixN_seq e
  exact ⟨j,h1,h,h2,h3,h4⟩
theorem atI_nat {α : Type} {xs : List α} {j : Nat} {v : α} (h : xs[j]? = some v) : atI xs (j : Int) = some v:=by
 have hj : j < xs.length:=(List.getElem?_eq_some_iff.mp h).1
 have e : ixN xs.length (j : Int) = some j:=by
  unfold ixN
  rw [if_pos (by omega),if_pos (by omega)];simp
 unfold atI;rw [e];exact h
def PlainIx (b : Expr) : Prop := ∀ o i,subscripted b false o i = operate [o,i] (getItem o i)
def IxR (X : Cx) (r : R2) : Prop :=
 ∀ (value slice : Expr) (pins : List (Addr × Obj)) (s : Shared) (σ : St) (H : Hp) (x y : V) (v u : Value) (Q : VK),Inv X pins σ H s->RelV x v->RelV y u->r x y H Q ->
  subscripted slice false v u = operate [v,u] (getItem v u)->wpAny (model X.prog X.w) X.A (subscriptTail value slice v u) (EP X pins σ Q) X.xe s
def MtR (X : Cx) (id : String) (r : V->List V->Hp->VK->Prop) : Prop :=
 ∀ (pins : List (Addr × Obj)) (s : Shared) (σ : St) (H : Hp) (x : V) (xs : List V) (v : Value) (us : List Value) (Q : VK),Inv X pins σ H s->RelV x v->Vals xs us->r x xs H Q ->
  wpAny (model X.prog X.w) X.A (call (.builtin id) (v :: us)) (EP X pins σ Q) X.xe s
section
variable {X : Cx} {a b : Expr} {ta tb : TE} {pos : Pos}
theorem IxR.or {r r' : R2} (h : IxR X r) (h' : IxR X r') : IxR X (fun x y H Q=>r x y H Q\/r' x y H Q):=by
 intro value slice pins s σ H x y v u Q I rx ry q hs
 rcases q with q | q
 ·exact h value slice pins s σ H x y v u Q I rx ry q hs
 ·exact h' value slice pins s σ H x y v u Q I rx ry q hs
theorem MtR.or {id : String} {r r' : V->List V->Hp->VK->Prop} (h : MtR X id r) (h' : MtR X id r') : MtR X id (fun x xs H Q=>r x xs H Q\/r' x xs H Q):=by
 intro pins s σ H x xs v us Q I rx rs q
 rcases q with q | q
 ·exact h pins s σ H x xs v us Q I rx rs q
 ·exact h' pins s σ H x xs v us Q I rx rs q
theorem pe_ix {r : R2} (hr : IxR X r) (ha : PE X a ta) (hb : PE X b tb) (hs : PlainIx b) : PE X (.Subscript a b pos) (tOp r ta tb):=by
 intro pins s σ H Q I h
 exact Subscript_ (binT ha hb I h fun v u s2 x y H2 I2 rx ry q=>hr a b pins s2 σ H2 x y v u Q I2 rx ry q (hs _ _))
def rIxL (K : PySem.W.Frag) : R2:=fun x y H Q=>∃ p xs i v,x = .ref p/\y = .int i/\SqL K H p xs/\atI xs i = some v/\Q v H
def rIxT (K : PySem.W.Frag) : R2:=fun x y H Q=>∃ p xs i v,x = .ref p/\y = .int i/\SqT K H p xs/\atI xs i = some v/\Q v H
def rIxS : R2:=fun x y H Q=>∃ z i c,x = .str z/\y = .int i/\z.length <= sizeLine/\atI z.cps.toList i = some c/\Q (.str ⟨#[c]⟩) H
theorem ix_list : IxR X (rIxL X.K):=by
 intro value slice pins s σ H x y v u Q I rx ry h hs
 obtain ⟨p,xs,i,z,rfl,rfl,hq,he,q⟩:=h
 cases rx
 obtain ⟨t,rfl⟩:=ry
 obtain ⟨its,r,pl,hz⟩:=I.list hq
 obtain ⟨j,h1,h2,h3,h4,h5⟩:=atI_get he
 obtain ⟨w,ew,rw'⟩:=r.get h2
 have hl:=r.length
 have hn:=line63
 have fin : EP X pins σ Q w s:=⟨z,H,I,rw',q⟩
 by_cases h0 : 0 <= i
 ·have hj : i.toNat = j:=by
   rw [seqIndex_of h0 h5] at h1
   exact Option.some.inj h1
  exact item_listR pl.isList h0 (by omega) (by rw [hj];simpa using ew) fin hs
 ·have hj : (i + (its.toArray.size : Int)).toNat = j:=by
   rw [seqIndex_neg (by omega) h4] at h1
   rw [List.size_toArray,<- hl]
   exact Option.some.inj h1
  exact subscriptTail_builtinR (x:=w) pl.isList.typeIs slot_list_getitem.lookup
   (wpAny_getItem_list_neg (Q:=fun r s'=>r = w/\EP X pins σ Q r s') pl.isList (by omega) (by rw [List.size_toArray] <;> omega) (by omega) (by rw [hj];simpa using ew) ⟨rfl,fin⟩) hs
theorem ix_tup : IxR X (rIxT X.K):=by
 intro value slice pins s σ H x y v u Q I rx ry h hs
 obtain ⟨p,xs,i,z,rfl,rfl,hq,he,q⟩:=h
 cases rx
 obtain ⟨t,rfl⟩:=ry
 obtain ⟨its,r,pl,hz⟩:=I.tuple hq
 obtain ⟨j,h1,h2,h3,h4,h5⟩:=atI_get he
 obtain ⟨w,ew,rw'⟩:=r.get h2
 have hl:=r.length
 have hn:=line63
 have fin : EP X pins σ Q w s:=⟨z,H,I,rw',q⟩
 exact subscriptTail_builtinR (x:=w) pl.typeIs slot_tuple_getitem.lookup
  (getItem_tuple (j:=j) (Q:=fun r s'=>r = w/\EP X pins σ Q r s') pl (by omega) (by omega) (by rw [List.size_toArray,<- hl];exact h1) (by simpa using ew) ⟨rfl,fin⟩) hs
theorem ix_str : IxR X rIxS:=by
 intro value slice pins s σ H x y v u Q I rx ry h hs
 obtain ⟨z,i,c,rfl,rfl,hz,he,q⟩:=h
 obtain ⟨t,rfl⟩:=rx
 obtain ⟨t',rfl⟩:=ry
 obtain ⟨j,h1,h2,h3,h4,h5⟩:=atI_get he
 have hl : z.cps.toList.length = z.length:=by simp [Str.length]
 rw [hl] at h1 h4 h5
 have hn:=line63
 exact tail_any (typeIs_str s z t) slot_str_getitem.lookup (getItem_str (c:=c) (by
  have e1 : decide (i < -(2 ^ 63 : Int)) = false:=decide_eq_false (by omega)
  have e2 : decide (i ≥ 2 ^ 63) = false:=decide_eq_false (by omega)
  rw [e1,e2,Bool.or_false]) (by rw [h1];simpa using h2) ⟨.str ⟨#[c]⟩,H,I.tok _,⟨_,rfl⟩,q⟩) hs
theorem mapSeq_set (its : List Value) (n j : Nat) (u : Value) : Obj.mapSeq (·.setIfInBounds j u) { cls:=.type "list",data:=.seq its.toArray n } = { cls:=.type "list",data:=.seq (its.set j u).toArray n }:=by
 simp [Obj.mapSeq]
theorem Inv.lst {pins : List (Addr × Obj)} {σ : St} {H : Hp} {s : Shared} {p : Addr} {xs : List V} (I : Inv X pins σ H s) (h : H p = some (.lst xs)) :
  ∃ (its : List Value) (n : Nat),Vals xs its/\s.heap.get? p = some { cls:=.type "list",data:=.seq its.toArray n }/\xs.length <= sizeLine:=by
 obtain ⟨z,its,n,r,e⟩:=I.hok p _ h
 exact ⟨its,n,r,e,z⟩
theorem Inv.lstUpd {pins : List (Addr × Obj)} {σ : St} {H : Hp} {s : Shared} {p : Addr} {xs ys : List V} {its its' : List Value} {n n' : Nat} {f : Obj->Obj} (I : Inv X pins σ H s) (h : H p = some (.lst xs))
  (ho : s.heap.get? p = some { cls:=.type "list",data:=.seq its.toArray n }) (hf : f { cls:=.type "list",data:=.seq its.toArray n } = { cls:=.type "list",data:=.seq its'.toArray n' }) (r : Vals ys its') (hz : ys.length <= sizeLine) (t : Nat) :
  Inv X pins σ (upd H p (.lst ys)) { s with heap:=s.heap.update p f,toks:=t }:=by
 have e : (s.heap.update p f).get? p = some { cls:=.type "list",data:=.seq its'.toArray n' }:=by
  rw [Heap.get?_update_self f ho (by rw [hf] <;> rfl),hf]
 refine I.write (x:=p) (e:=p) (by rw [h];trivial) (.inl rfl) (fun b u hb q=>(Heap.get?_update_other _ _ (Ne.symm hb)).trans q) ⟨_,e⟩ ?_
 exact ⟨hz,its',n',r,e⟩
def rSetL : V->V->V->Hp->(Hp->Prop)->Prop:=fun o i v H Q=>∃ p xs k j,o = .ref p/\i = .int k/\H p = some (.lst xs)/\ixN xs.length k = some j/\Q (upd H p (.lst (xs.set j v)))
theorem set_list : PSet X rSetL:=by
 intro pins s σ H o i v ov iv u Q I ro ri rv h
 obtain ⟨p,xs,k,j,rfl,rfl,hp,hj,q⟩:=h
 cases ro
 obtain ⟨t,rfl⟩:=ri
 obtain ⟨its,n,r,ho,hz⟩:=I.lst hp
 obtain ⟨h1,h2,h3,h4⟩:=ixN_seq hj
 have hl:=r.length
 have hn:=line63
 have I' : Inv X pins σ (upd H p (.lst (xs.set j v))) { s with heap:=s.heap.update p (Obj.mapSeq (·.setIfInBounds j u)) } :=
  I.lstUpd hp ho (mapSeq_set its n j u) (r.set rv j) (by rw [List.length_set];exact hz) s.toks
 by_cases h0 : 0 <= k
 ·have hk : k.toNat = j:=by
   rw [seqIndex_of h0 h4] at h1
   exact Option.some.inj h1
  exact PySem.W.ki_setAt ho h0 (by omega) (by rw [List.size_toArray,<- hl];exact h4) (by rw [hk];exact ⟨_,I',q⟩)
 ·have hk : (k + (its.toArray.size : Int)).toNat = j:=by
   rw [seqIndex_neg (by omega) h3] at h1
   rw [List.size_toArray,<- hl]
   exact Option.some.inj h1
  exact PySem.W.ki_setBack ho (by omega) (by rw [List.size_toArray,<- hl];exact h3) (by omega) (by rw [hk];exact ⟨_,I',q⟩)
theorem slice_bounds (lo hi : Option Int) (n : Nat) : (sliceBounds lo hi none n).1 = ((HT.sIx n 0 lo : Nat) : Int)/\(sliceBounds lo hi none n).2.1 = ((HT.sIx n n hi : Nat) : Int)/\(sliceBounds lo hi none n).2.2 = 1:=by
 refine ⟨?_,?_,rfl⟩
 ·cases lo with
  | none=>simp [sliceBounds,HT.sIx]
  | some i =>
   simp only [sliceBounds,HT.sIx,Option.getD_none,show (1 : Int) > 0 by decide,if_true]
   by_cases h : i < 0
   ·simp only [h,if_true] <;> omega
   ·simp only [h,if_false] <;> omega
 ·cases hi with
  | none=>simp [sliceBounds,HT.sIx]
  | some i =>
   simp only [sliceBounds,HT.sIx,Option.getD_none,show (1 : Int) > 0 by decide,if_true]
   by_cases h : i < 0
   ·simp only [h,if_true] <;> omega
   ·simp only [h,if_false] <;> omega
theorem slicePick_cut (its : List Value) (lo hi : Option Int) : slicePick its.toArray lo hi none = ((its.drop (HT.sIx its.length 0 lo)).take (HT.sIx its.length its.length hi - HT.sIx its.length 0 lo)).toArray:=by
 obtain ⟨h1,h2,h3⟩:=slice_bounds lo hi its.toArray.size
 unfold slicePick
 rw [h1,h2,h3]
 simp only [sliceRange_one,pick_run,List.size_toArray] <;> rfl
def rSlL (K : PySem.W.Frag) : V->Option Int->Option Int->Hp->VK->Prop:=fun x lo hi H Q=>∃ a xs,x = .ref a/\SqL K H a xs/\∀ p,H p = none->Q (.ref p) (upd H p (.lst (cutV xs lo hi)))
theorem sl_list : SlR X (rSlL X.K):=by
 intro pins s σ H x v vl vu lo hi sl Q I rx hs pl pu h
 obtain ⟨a,xs,rfl,hx,q⟩:=h
 cases rx
 obtain ⟨its,r,ht,hz⟩:=I.list hx
 have hlen:=r.length
 refine ⟨"list",_,slot_list_getitem.lookup,ht.isList.typeIs,?_⟩
 refine wpAny_getItem_list_slice ht.isList hs pl pu .none (by simp) ?_ (by rw [List.size_toArray] <;> omega)
 rw [slicePick_cut,<- hlen]
 refine ⟨.ref s.heap.objs.size,_,I.laid (t':=s.toks) (o:=.lst (cutV xs lo hi)) (fun b ob q=>Heap.get?_push_of_some _ q) (Nat.le_refl _) ?_,rfl,q _ (I.hok.fresh (Nat.le_refl _))⟩
 exact ⟨Nat.le_trans (cutV_length xs lo hi) hz,_,0,(r.drop (HT.sIx xs.length 0 lo)).take (HT.sIx xs.length xs.length hi - HT.sIx xs.length 0 lo),Heap.get?_push_size _ rfl⟩
def flatV : V->Bool
 | .non=>true
 | .bl _=>true
 | .int _=>true
 | .str _=>true
 | _=>false
def eqV : V->V->Bool
 | .non,.non=>true
 | .bl a,.bl b=>a == b
 | .bl a,.int b=>(if a then 1 else 0) == b
 | .int a,.bl b=>a == (if b then 1 else 0)
 | .int a,.int b=>a == b
 | .str a,.str b=>a == b
 | _,_=>false
theorem eqAt_V {A : Around} {s : Shared} {y x : V} {u v : Value} (ry : RelV y u) (rx : RelV x v) (fy : flatV y = true) (fx : flatV x = true) : SeqAt.EqAt A s u v (eqV y x):=by
 cases y with
 | non =>
  cases ry
  cases x with
  | non=>cases rx;exact SeqAt.EqAt.same _
  | bl b=>cases rx;exact SeqAt.EqAt.none_bool b
  | int b=>obtain ⟨t,rfl⟩:=rx;exact SeqAt.EqAt.none_int b t
  | str b=>obtain ⟨t,rfl⟩:=rx;exact SeqAt.EqAt.none_str b t
  | _=>exact absurd (show false = true from fx) Bool.false_ne_true
 | bl a =>
  cases ry
  cases x with
  | non=>cases rx;exact SeqAt.EqAt.bool_none a
  | bl b=>cases rx;exact SeqAt.EqAt.bool_bool a b
  | int b=>obtain ⟨t,rfl⟩:=rx;exact SeqAt.EqAt.bool_int a b t
  | str b=>obtain ⟨t,rfl⟩:=rx;exact SeqAt.EqAt.bool_str a b t
  | _=>exact absurd (show false = true from fx) Bool.false_ne_true
 | int a =>
  obtain ⟨t',rfl⟩:=ry
  cases x with
  | non=>cases rx;exact SeqAt.EqAt.int_none a t'
  | bl b=>cases rx;exact SeqAt.EqAt.int_bool a t' b
  | int b=>obtain ⟨t,rfl⟩:=rx;exact SeqAt.EqAt.int_int a t' b t
  | str b=>obtain ⟨t,rfl⟩:=rx;exact SeqAt.EqAt.int_str a t' b t
  | _=>exact absurd (show false = true from fx) Bool.false_ne_true
 | str a =>
  obtain ⟨t',rfl⟩:=ry
  cases x with
  | non=>cases rx;exact SeqAt.EqAt.str_none a t'
  | bl b=>cases rx;exact SeqAt.EqAt.str_bool a t' b
  | int b=>obtain ⟨t,rfl⟩:=rx;exact SeqAt.EqAt.str_int a t' b t
  | str b=>obtain ⟨t,rfl⟩:=rx;exact SeqAt.EqAt.str_str a t' b t
  | _=>exact absurd (show false = true from fx) Bool.false_ne_true
 | _=>exact absurd (show false = true from fy) Bool.false_ne_true
def eqU (x : V) (u : Value) : Bool:=match u with
 | .none=>eqV .non x
 | .bool b=>eqV (.bl b) x
 | .int i _=>eqV (.int i) x
 | .str z _=>eqV (.str z) x
 | _=>false
theorem eqU_of {x y : V} {u : Value} (r : RelV y u) (f : flatV y = true) : eqU x u = eqV y x:=by
 cases y with
 | non=>cases r;rfl
 | bl b=>cases r;rfl
 | int i=>obtain ⟨t,rfl⟩:=r;rfl
 | str z=>obtain ⟨t,rfl⟩:=r;rfl
 | _=>exact absurd (show false = true from f) Bool.false_ne_true
theorem any_eqU {x : V} : ∀ {xs : List V} {us : List Value},Vals xs us->xs.all flatV = true->us.any (eqU x) = xs.any fun y=>eqV y x
 | _,_,.nil,_=>rfl
 | y :: xs,u :: us,.cons r t,f=>by
  rw [List.all_cons,Bool.and_eq_true] at f
  rw [List.any_cons,List.any_cons,eqU_of r f.1,any_eqU t f.2]
theorem mem_eqAt {A : Around} {s : Shared} {x : V} {v : Value} (rx : RelV x v) (fx : flatV x = true) : ∀ {xs : List V} {us : List Value},Vals xs us->xs.all flatV = true->∀ u ∈ us,SeqAt.EqAt A s u v (eqU x u)
 | _,_,.nil,_=>fun u hu=>by cases hu
 | y :: xs,u :: us,.cons r t,f=>fun u' hu=>by
  rw [List.all_cons,Bool.and_eq_true] at f
  rcases List.mem_cons.mp hu with rfl | hu
  ·rw [eqU_of r f.1];exact eqAt_V r rx f.1 fx
  ·exact mem_eqAt rx fx t f.2 u' hu
def inV (x : V) (xs : List V) : Bool:=xs.any fun y=>eqV y x
def rIn (K : PySem.W.Frag) (neg : Bool) : R2:=fun x y H Q=>∃ p xs,y = .ref p/\(SqL K H p xs\/SqT K H p xs)/\flatV x = true/\xs.all flatV = true/\Q (.bl (if neg then !inV x xs else inV x xs)) H
theorem op_notIn_seq : OpR X (compareOp .NotIn) (rIn X.K true):=by
 intro pins s σ H x y v u Q I rx ry h
 obtain ⟨p,xs,rfl,hq,fx,fs,q⟩:=h
 cases ry
 rcases hq with hq | hq
 ·obtain ⟨its,r,pl,hz⟩:=I.list hq
  refine SeqAt.notIn_listAt (eqU x) pl.isList (fun w hw=>mem_eqAt rx fx r fs w (by simpa using hw)) ⟨.bl _,H,I,rfl,?_⟩
  rw [show its.toArray.any (eqU x) = its.any (eqU x) by simp,any_eqU r fs]
  exact q
 ·obtain ⟨its,r,pl,hz⟩:=I.tuple hq
  refine SeqAt.notIn_tupleAt (eqU x) pl (fun w hw=>mem_eqAt rx fx r fs w (by simpa using hw)) ⟨.bl _,H,I,rfl,?_⟩
  rw [show its.toArray.any (eqU x) = its.any (eqU x) by simp,any_eqU r fs]
  exact q
theorem call_len_seq : CallR X (.builtin "len") (fun xs H Q=>∃ p ys,xs = [.ref p]/\(SqL X.K H p ys\/SqT X.K H p ys)/\Q (.int ys.length) H):=by
 intro pins s σ H xs us Q I r h
 obtain ⟨p,ys,rfl,hq,q⟩:=h
 obtain ⟨u,rfl,rx⟩:=vals1 r
 cases rx
 have hn:=line63
 rcases hq with hq | hq
 ·obtain ⟨its,r',pl,hz⟩:=I.list hq
  have hlen:=r'.length
  exact Calls.call_len_list pl.isList (by simp only [List.size_toArray] <;> omega) ⟨.int ys.length,H,I.tok _,⟨s.toks + 1,by rw [List.size_toArray,hlen]⟩,q⟩
 ·obtain ⟨its,r',pl,hz⟩:=I.tuple hq
  have hlen:=r'.length
  exact len_tuple pl (by simp only [List.size_toArray] <;> omega) ⟨.int ys.length,H,I.tok _,⟨s.toks + 1,by rw [List.size_toArray,hlen]⟩,q⟩
theorem call_len_str : CallR X (.builtin "len") (fun xs H Q=>∃ z,xs = [.str z]/\z.length <= sizeLine/\Q (.int z.length) H):=by
 intro pins s σ H xs us Q I r h
 obtain ⟨z,rfl,hz,q⟩:=h
 obtain ⟨u,rfl,t,rfl⟩:=vals1 r
 have hn:=line63
 exact len_str (by omega) ⟨.int z.length,H,I.tok _,⟨_,rfl⟩,q⟩
theorem CallR.or {f : Value} {r r' : List V->Hp->VK->Prop} (h : CallR X f r) (h' : CallR X f r') : CallR X f (fun xs H Q=>r xs H Q\/r' xs H Q):=by
 intro pins s σ H xs us Q I rs q
 rcases q with q | q
 ·exact h pins s σ H xs us Q I rs q
 ·exact h' pins s σ H xs us Q I rs q
theorem call_tuple_of : CallR X (.type "tuple") (fun xs H Q=>∃ p ys,xs = [.ref p]/\((SqL X.K H p ys/\∀ l,H l = none->Q (.ref l) (upd H l (.tup ys)))\/(SqT X.K H p ys/\Q (.ref p) H))):=by
 intro pins s σ H xs us Q I r h
 obtain ⟨p,ys,rfl,h⟩:=h
 obtain ⟨u,rfl,rx⟩:=vals1 r
 cases rx
 rcases h with ⟨hq,q⟩ | ⟨hq,q⟩
 ·obtain ⟨its,r',pl,hz⟩:=I.list hq
  have hlen:=r'.length
  refine call_tuple_list pl.isList (fun h' kp=>?_) (by simp only [List.size_toArray] <;> omega)
  have I1 : Inv X pins σ H { s with heap:=h' }:=I.kept (t':=s.toks) kp
  have I2 : Inv X pins σ (upd H h'.objs.size (.tup ys)) { s with heap:=h'.push { cls:=.type "tuple",data:=.seq its.toArray } } :=
   I1.laid (t':=s.toks) (fun b o e=>Heap.get?_push_of_some _ e) (Nat.le_refl _) (show ObjOk X.prog X.w _ _ _ (.tup ys) from ⟨hz,its,r',IsTup.new _ _,_,Heap.get?_push_size _ rfl,rfl⟩)
  exact ⟨.ref h'.objs.size,_,I2,rfl,q _ (I1.hok.fresh (Nat.le_refl _))⟩
 ·obtain ⟨its,r',pl,hz⟩:=I.tuple hq
  exact call_tuple_same pl ⟨.ref p,H,I,rfl,q⟩
def tyV (K : PySem.W.Frag) (T : String) (x : V) (H : Hp) : Prop:=match x with
 | .str _=>T = "str"
 | .int _=>T = "int"
 | .ref p=>(T = "list"/\∃ xs,SqL K H p xs)\/(T = "tuple"/\∃ o,K.lookup p = some o/\o.cls = .type "tuple"/\o.dict = none) \/
   (T = "dict"/\((∃ kvs,H p = some (.dK kvs))\/∃ kvs,H p = some (.dT kvs)))\/(T = "set"/\∃ S n,H p = some (.set S n))
 | _=>False
theorem tyV_is {pins : List (Addr × Obj)} {σ : St} {H : Hp} {s : Shared} {T : String} {x : V} {v : Value} (I : Inv X pins σ H s) (r : RelV x v) (ty : tyV X.K T x H) :
  s.TypeIs v T/\∀ a,v = .ref a->∃ ob,s.heap.get? a = some ob/\ob.dict = none:=by
 cases x with
 | str z =>
  obtain ⟨t,rfl⟩:=r
  cases (show T = "str" from ty)
  exact ⟨typeIs_str s z t,fun _ e=>nomatch e⟩
 | int i =>
  obtain ⟨t,rfl⟩:=r
  cases (show T = "int" from ty)
  exact ⟨typeIs_int s i t,fun _ e=>nomatch e⟩
 | ref p =>
  cases r
  rcases ty with ⟨rfl,xs,hq⟩ | ⟨rfl,o,hk,hc,hd⟩ | ⟨rfl,hk⟩ | ⟨rfl,S,n,hk⟩
  ·obtain ⟨its,_,pl,_⟩:=I.list hq
   refine ⟨pl.isList.typeIs,fun a e=>?_⟩
   cases e
   obtain ⟨o,n,e,c,hd,_⟩:=pl
   exact ⟨o,e,hd⟩
  ·refine ⟨⟨o,I.kIn p o hk,hc⟩,fun a e=>?_⟩
   cases e
   exact ⟨o,I.kIn _ o hk,hd⟩
  ·have z : ∃ o,s.heap.get? p = some o/\o.ExactDict:=by
    rcases hk with ⟨kvs,hk⟩ | ⟨kvs,hk⟩
    ·obtain ⟨_,_,_,_,o,_,_,e,ex,_⟩:=I.hok p _ hk
     exact ⟨o,e,ex⟩
    ·obtain ⟨_,_,_,_,o,_,_,e,ex,_⟩:=I.hok p _ hk
     exact ⟨o,e,ex⟩
   obtain ⟨o,e,ex⟩:=z
   refine ⟨⟨o,e,ex.1⟩,fun a e2=>?_⟩
   cases e2
   exact ⟨o,e,ex.2.1⟩
  ·obtain ⟨o,_,_,_,e,ex,_⟩:=I.hok p _ hk
   refine ⟨⟨o,e,ex.1⟩,fun a e2=>?_⟩
   cases e2
   exact ⟨o,e,ex.2.1⟩
 | _=>exact False.elim ty
def tBM (K : PySem.W.Frag) (T : String) (r : V->List V->Hp->VK->Prop) (to : TE) (t : TA) : TE:=fun σ H Q=>to σ H fun x H1=>tyV K T x H1/\t σ H1 fun xs H2=>r x xs H2 Q
variable {o e : Expr} {es : List Expr} {to : TE} {t : TA} {name : Str} {apos cpos : Pos} {T id : String} {r : V->List V->Hp->VK->Prop}
theorem pe_bm (pa : PlainAttrs T) (slot : Slot T name id) (hty : typeOf (.builtin id) = pure (.type "method_descriptor")) (hm : MtR X id r) (ho : PE X o to) (ha : PA X (e :: es) t)
  (hbase : attributeBase o name X.env (eval o X.env) = eval o X.env:=by rfl)
  (hfew : ((backTo cpos (starEach (e :: es) X.env)).all (fun x=>!x.1) && (backToKw cpos (keywordEach [] X.env)).all (fun x=>x.1.isSome)
   && decide ((e :: es).length + ([] : List Keyword).length + (if ([] : List Keyword).isEmpty then 0 else 1) < 30)) = true:=by rfl)
  (hline : (apos.endLine == cpos.line) = true:=by rfl) (hs : starEach (e :: es) X.env = (false,eval e X.env) :: starEach es X.env:=by rfl) (hplain : (backTo cpos (starEach es X.env)).any (·.1) = false:=by rfl) :
  PE X (.Call (.Attribute o name apos) (e :: es) [] cpos) (tBM X.K T r to t):=by
 intro pins s σ H Q I h
 refine wpAny_Call_method_late hbase hfew hline rfl (thn (ho pins s σ H _ I h) fun v s1 ⟨x,H1,I1,r1,ty,q1⟩=>?_)
 obtain ⟨h1,h2⟩:=tyV_is I1 r1 ty
 refine ⟨T,id,pa,slot,hty,h1,h2,?_⟩
 have hA:=ha cpos pins s1 σ H1 _ I1 q1
 rw [hs] at hA ⊢
 refine Calls.callWith_builtin (by show (false || (backTo cpos (starEach es X.env)).any (·.1)) = false;rw [hplain] <;> rfl) (Calls.evalArgs_plain ?_)
 exact thn hA fun us s2 ⟨vs,H2,I2,r2,q2⟩=>hm pins s2 σ H2 x vs v us Q I2 r1 r2 q2
end
end L2
namespace L2
open PySem PySem.Spec PyProof.Rows
def MtM (X : Cx) (id : String) (r : V->List V->Hp->VK->Prop) : Prop :=
 ∀ (pins : List (Addr × Obj)) (s : Shared) (σ : St) (H : Hp) (x : V) (xs : List V) (v : Value) (us : List Value) (Q : VK),Inv X pins σ H s->RelV x v->Vals xs us->r x xs H Q ->
  wpAny (model X.prog X.w) X.A (call (.builtin id) (v :: us)) (EP X pins σ Q) X.xe s
theorem Vals.one : ∀ {x : V} {us : List Value},Vals [x] us->∃ u,us = [u]/\RelV x u
 | _,_,.cons r .nil=>⟨_,rfl,r⟩
theorem Vals.two : ∀ {x y : V} {us : List Value},Vals [x,y] us->∃ u v,us = [u,v]/\RelV x u/\RelV y v
 | _,_,_,.cons r (.cons q .nil)=>⟨_,_,rfl,r,q⟩
theorem Vals.zero : ∀ {us : List Value},Vals [] us->us = []
 | _,.nil=>rfl
theorem Vals.dropLast {xs : List V} {us : List Value} (h : Vals xs us) : Vals xs.dropLast us.dropLast:=by
 induction h with
 | nil=>exact .nil
 | cons r t ih =>
  cases t with
  | nil=>exact .nil
  | cons q t'=>exact .cons r ih
theorem Vals.eraseIdx : ∀ {xs : List V} {us : List Value} (i : Nat),Vals xs us->Vals (xs.eraseIdx i) (us.eraseIdx i)
 | _,_,_,.nil=>.nil
 | _,_,0,.cons _ t=>t
 | _,_,i + 1,.cons r t=>.cons r (Vals.eraseIdx i t)
theorem Vals.reverse {xs : List V} {us : List Value} (h : Vals xs us) : Vals xs.reverse us.reverse:=by
 induction h with
 | nil=>exact .nil
 | cons r t ih=>rw [List.reverse_cons,List.reverse_cons];exact Vals.append ih (.cons r .nil)
section
variable {X : Cx} {pins : List (Addr × Obj)} {σ : St} {H : Hp} {s : Shared} {l b : Addr} {xs ys zs : List V}
theorem Inv.lset {its its' : List Value} {n : Nat} {f : Array Value->Array Value} {t' : Nat} (I : Inv X pins σ H s) (hH : H l = some (.lst xs))
  (e : s.heap.get? l = some { cls:=.type "list",data:=.seq its.toArray n }) (hf : f its.toArray = its'.toArray) (hv : Vals ys its') (hz : ys.length <= sizeLine) :
  Inv X pins σ (upd H l (.lst ys)) { s with heap:=s.heap.update l (Obj.mapSeq f),toks:=t' }:=by
 have q:=PySem.IsL.update e f
 rw [hf] at q
 refine I.write (x:=l) (e:=l) (by rw [hH];exact trivial) (.inl rfl) (fun b' u hb hu=>(Heap.get?_update_other s.heap (Obj.mapSeq f) (Ne.symm hb)).trans hu) ⟨_,q⟩ ?_
 exact ⟨hz,its',_,hv,q⟩
theorem Inv.lnew {its : List Value} {t' : Nat} (I : Inv X pins σ H s) (hv : Vals ys its) (hz : ys.length <= sizeLine) :
  Inv X pins σ (upd H s.heap.objs.size (.lst ys)) { s with heap:=s.heap.push { cls:=.type "list",data:=.seq its.toArray },toks:=t' } :=
 I.laid (fun _ _ q=>Heap.get?_push_of_some _ q) (Nat.le_refl _) ⟨hz,its,0,hv,Heap.get?_push_size _ rfl⟩
theorem Inv.fresh (I : Inv X pins σ H s) : H s.heap.objs.size = none:=I.hok.fresh (Nat.le_refl _)
theorem Inv.lstM (I : Inv X pins σ H s) (hH : H l = some (.lst xs)) : xs.length <= sizeLine/\∃ (its : List Value) (n : Nat),Vals xs its/\xs.length = its.length/\s.heap.get? l = some { cls:=.type "list",data:=.seq its.toArray n }:=by
 obtain ⟨z,its,n,r,e⟩:=I.hok l _ hH
 exact ⟨z,its,n,r,r.length,e⟩
end
section
variable {X : Cx}
def rAppend : V->List V->Hp->VK->Prop:=fun x vs H Q=>∃ l xs y,x = .ref l/\vs = [y]/\H l = some (.lst xs)/\xs.length < sizeLine/\Q .non (upd H l (.lst (xs ++ [y])))
theorem mt_append : MtM X "list.append" rAppend:=by
 intro pins s σ H x vs v us Q I rx rv h
 obtain ⟨l,xs,y,rfl,rfl,hH,hz,q⟩:=h
 cases rx
 obtain ⟨u,rfl,ru⟩:=rv.one
 obtain ⟨z,its,n,r,hl,e⟩:=I.lstM hH
 refine call_meets F.slot_list_append ⟨_,e,rfl⟩ F.entry_list_append (F.args_list_append_2 _ _) (PySem.list_append l its.toArray n u (by rw [List.size_toArray];omega)) ⟨e,?_⟩
 refine ⟨.non,_,I.lset (its':=its ++ [u]) hH e (by simp) (r.append (.cons ru .nil)) ?_,rfl,q⟩
 rw [List.length_append,List.length_singleton]
 omega
def rCat : R2:=fun x y H Q=>∃ l b xs zs,x = .ref l/\y = .ref b/\H l = some (.lst xs)/\H b = some (.lst zs)/\xs.length + zs.length <= sizeLine/\∀ p,H p = none->Q (.ref p) (upd H p (.lst (xs ++ zs)))
theorem op_cat : OpR X (binaryOp .Add) rCat:=by
 intro pins s σ H x y v u Q I rx ry h
 obtain ⟨l,b,xs,zs,rfl,rfl,hH,hB,hz,q⟩:=h
 cases rx
 cases ry
 obtain ⟨z,its,n,r,hl,e⟩:=I.lstM hH
 obtain ⟨z2,its2,n2,r2,hl2,e2⟩:=I.lstM hB
 refine PySem.P.add_list e e2 ?_ (by rw [List.size_toArray,List.size_toArray];omega)
 have ea : its.toArray ++ its2.toArray = (its ++ its2).toArray:=by simp
 rw [ea]
 exact ⟨.ref _,_,I.lnew (t':=s.toks) (r.append r2) (by rw [List.length_append];omega),rfl,q _ I.fresh⟩
end
section
variable {prog : Program} {w : World} {A : Around} {E : Value->Shared->Prop} {s : Shared}
end
section
variable {X : Cx}
end
end L2
namespace Att
open PySem PySem.W PySem.Calls PyProof.Rows
theorem ints_of_wellAll {P : Params} {h : Heap} : ∀ (ns : List Int) (vs : List Value),WellAll P h vs (ns.map WData.int)->IntsAre vs ns:=by
 intro ns
 induction ns with
 | nil =>
  intro vs w
  rw [List.map_nil] at w
  cases w
  exact .nil
 | cons n ns ih =>
  intro vs w
  rw [List.map_cons] at w
  cases w with
  | cons a b =>
   cases a
   exact .cons _ _ (ih _ b)
theorem script_of {l : OpenLaw} {n : Nat} (hn : l.most = some n) {P : Params} {h : Heap} {args : List WData} {vals : List Value}
  (hpre : l.row.toRowW.claim.pre args = true) (hwl : WellAll P h vals args) :
  ∃ a vs ns,vals = [Value.ref a]/\args = [WData.list (ns.map WData.int)]/\h.get? a = some { cls:=.type "list",data:=.seq vs.toArray }/\IntsAre vs ns/\ns.length <= n:=by
 have hsh : WShape.hasAll [] args [.list .int] = true:=(pre_splitW hpre).1
 have hc : l.pre.holds [] { args:=args } = true:=(pre_splitW hpre).2
 obtain ⟨d,r,rfl,h1,h2⟩:=hasAllW_cons hsh
 obtain rfl:=hasAllW_nil h2
 obtain ⟨xs,rfl,h3⟩:=hasW_list h1
 obtain ⟨ns,rfl⟩:=items_int h3
 have hlen : ns.length <= n:=by
  unfold OpenLaw.pre at hc
  have h4 : (WTm.not (.lt (.lit (.int (n : Int))) (.len (.arg 0)))).holds [] { args:=[.list (ns.map .int)] } = true:=by
   have h4:=(holds_andW hc).1
   rw [hn] at h4
   exact h4
  have h5:=condW_of h4 (w_not (w_lt w_lit (w_len_list (w_arg rfl))))
  rw [List.length_map] at h5
  refine Nat.le_of_not_lt fun q=>?_
  have q' : (n : Int) < ((ns.length : Nat) : Int):=by omega
  first
   | (rw [decide_eq_true q'] at h5;exact absurd h5 (by decide))
   | (simp at h5;omega)
 cases hwl with
 | cons w1 w2 =>
  cases w2
  cases w1 with
  | list ho hall=>exact ⟨_,_,ns,rfl,rfl,ho,ints_of_wellAll ns _ hall,hlen⟩
theorem post_true (l : OpenLaw) (args : List WData) : l.row.toRowW.claim.post args (.bool true) args = true :=
 postW_of (r:=l.row.toRowW) (X:=(true == true))
  (show WShape.has [] (.bool true) .bool = true by first | rfl | decide | simp [WShape.has,WShape.arms,WShape.armsAll])
  (show (WTm.eq .res (.lit (.bool true))).value [] { args:=args,res:=some (.bool true),after:=args } = some (.bool (true == true)) from w_eq_bool (w_res rfl) w_lit) rfl
theorem attach_call {l : OpenLaw} {n : Nat} {q : Program} {loose : List Str} {XP : (Str->Option Value)->Heap->Prop} {YP : World->Heap->Prop} {d : DefRec}
  (hn : l.most = some n) (hdf : d.params.defaults = [])
  (call : ∀ (w : World) (s₀ s₁ : Shared) (mg mb : Str->Option Value) (fa : Addr) (o : Obj) (pm cd doc : Value) (a : Addr) (vs : List Value) (ns : List Int),
   Ground q loose [] XP w s₀ mg mb s₁.heap->YP w s₁.heap ->
   s₁.heap.get? fa = some o->o.data = .func (docDef d.name d.params d.body d.scope pm cd doc)->s₁.heap.CodeRec cd d.name->mg d.name = some (.ref fa) ->
   s₁.heap.get? a = some { cls:=.type "list",data:=.seq vs.toArray }->IntsAre vs ns->ns.length <= n->s₁.gens = #[] ->
   codeAny (model l.prog w) callerA (.call (.ref fa) ⟨[.ref a],[]⟩) (fun r s'=>r = .ok (.ret (.bool true))/\OldK s₁.heap s'.heap/\s'.os = s₁.os/\AllBare s'.gens) s₁) :
  WalkO q loose XP YP l.row.toRowW d [] (fun f vs=>PySem.call f vs):=by
 intro w s₀ s₁ mg mb G Y fa o pm cd doc dV kV ho hd hcd hD hmg hg args vals as hpre hlay hrd hwl hlo
 obtain rfl : dV = .none:=Dflts.none hD hdf
 obtain rfl : kV = .none:=Dflts.noKw hD
 obtain ⟨a,vs,ns,rfl,rfl,hobj,hints,hlen⟩:=script_of hn hpre hwl
 refine enter_call (codeAny_mono (call w s₀ s₁ mg mb fa o pm cd doc a vs ns G Y ho (fd_plain hd) hcd hmg hobj hints hlen hg) fun r s' hq=>?_)
 obtain ⟨rfl,h2,h3,h4⟩:=hq
 exact ⟨.inl ⟨.bool true,.bool true,[],rfl,fun _=>rfl,.bool true,post_true l _,fun _=>⟨List.Pairwise.nil,fun _ hm=>(nomatch hm)⟩⟩,h2,h3,h4⟩
section
variable {prog : Program} {w : World} {A : Around} {E : Value->Shared->Prop} {s : Shared} {K : Frag}
end
end Att
namespace L2
open PySem PySem.Spec PyProof.Rows
theorem vals_ints : ∀ {vs : List Value} {ns : List Int},IntsAre vs ns->Vals (ns.map V.int) vs
 | _,_,.nil=>.nil
 | _,_,.cons n t h=>.cons ⟨t,rfl⟩ (vals_ints h)
end L2
namespace L2
open PySem PySem.Spec PyProof.Rows
end L2
namespace L2
open PySem PySem.Spec PyProof.Rows
def defArgs (s : Stmt) : Arguments:=match s with
 | .FunctionDef _ a _ _ _ _ _ _ _ _=>a
 | _=>{ posonlyargs:=[],args:=[],vararg:=none,kwonlyargs:=[],kw_defaults:=[],kwarg:=none,defaults:=[] }
def defBody (s : Stmt) : List Stmt:=match s with
 | .FunctionDef _ _ b _ _ _ _ _ _ _=>b
 | _=>[]
def defScope (s : Stmt) : Scope:=match s with
 | .FunctionDef _ _ _ _ _ _ sc _ _ _=>sc
 | _=>{ kind:=.function,names:=[],isGenerator:=false,isCoroutine:=false }
abbrev CX0 : CXT:=fun _ _ _ _ _ _=>False
abbrev E0 : XK:=fun _ _ _=>False
theorem pass0 {X : Cx} : Passes CX0 X E0:=fun _ _ _ _ _ _ _ h=>h.elim
structure Fun (K : PySem.W.Frag) (x qual : Str) (st : Stmt) (f : Addr) (fd : FuncData) : Prop where
 ex : ∃ (oc : Value) (od : Option Addr) (kV doc pm : Value) (an : Option Addr) (cdv ct : Value) (osl : Array (Option Value)),
  fd = PySem.W.fnOf x qual (defArgs st) (defBody st) (defScope st) .none kV doc pm an cdv ct/\K.lookup f = some ⟨oc,od,.func fd,osl⟩/\PySem.W.codeIn K cdv qual = true
 kp : PySem.W.keepIn K (.ref f) = true
section
variable {P : Program} {w : World} {K : PySem.W.Frag} {mg : Str->Option Value} {base : Heap}
theorem Fun.ok {x qual : Str} {st : Stmt} {f : Addr} {fd : FuncData} {N ps : List Str} {k : Nat} {sp : Sp} (F : Fun K x qual st f fd) (S : FnScope N ps (defScope st)) (len : ∀ vs H Q E,sp vs H Q E->vs.length = ps.length)
  (hbody : ∀ (cdv : Value) (A : Around) (outer : List Env) (s : Shared) (H : Hp) (vs : List V) (Q : VK) (E : XK),Room k (A.deeper (envOfC qual (defScope st) s.heap.objs.size f cdv))->sp vs H Q E ->
   ∃ t,PSs (cxOf CX0 P w K mg base N qual (defScope st) f cdv A outer s H E).nox (defBody st) t/\t { nx:=fun _ H'=>Q .non H',rt:=Q } (start N vs) H) : FnOk P w K mg base CX0 (k + 1) f fd ps sp:=by
 obtain ⟨oc,od,kV,doc,pm,an,cdv,ct,osl,rfl,lk,hcd⟩:=F.ex
 refine fn_of lk hcd S len fun A outer s H vs Q E hr hsp=>?_
 obtain ⟨t,h,q⟩:=hbody cdv A outer s H vs Q E hr hsp
 exact ⟨t,h.nox,q⟩
theorem Fun.binds {x qual : Str} {st : Stmt} {f : Addr} {fd : FuncData} {ps : List Str} (F : Fun K x qual st f fd)
  (h : ∀ (kV doc pm : Value) (an : Option Addr) (cdv ct : Value) (us : List Value),us.length = ps.length->bindArgs (PySem.W.fnOf x qual (defArgs st) (defBody st) (defScope st) .none kV doc pm an cdv ct) ⟨us,[]⟩ = pure (ps.zip us)) : Binds K fd ps []:=by
 obtain ⟨oc,od,kV,doc,pm,an,cdv,ct,osl,rfl,lk,hcd⟩:=F.ex
 exact .all (h kV doc pm an cdv ct)
theorem fun_mk {x qual : Str} {st : Stmt} {f : Addr} {oc : Value} {od an : Option Addr} {osl : Array (Option Value)} {kV doc pm cdv ct : Value} (l : K.lookup f = some ⟨oc,od,.func (PySem.W.fnOf x qual (defArgs st) (defBody st) (defScope st) .none kV doc pm an cdv ct),osl⟩)
  (c : PySem.W.codeIn K cdv qual = true) (k : PySem.W.keepIn K (.ref f) = true) : Fun K x qual st f (PySem.W.fnOf x qual (defArgs st) (defBody st) (defScope st) .none kV doc pm an cdv ct):=⟨⟨oc,od,kV,doc,pm,an,cdv,ct,osl,rfl,l,c⟩,k⟩
end
theorem small1000 {n : Nat} (h : n <= 1000) : n < sizeLine:=Nat.lt_of_le_of_lt h (by decide)
section
variable {X : Cx}
theorem pv (i : Nat) {x : Str} {pos : Pos} (hN : X.N[i]? = some x:=by rfl) (hv : Vis X.env.scope x:=by first | exact Or.inl rfl | exact Or.inr (Or.inl rfl) | exact Or.inr (Or.inr rfl)) (hd : (x == ("__debug__" : Str)) = false:=by decide)
  (hcd : (x == ("__classdict__" : Str)) = false:=by decide) : PE X (.Name x pos) (tVar i):=pe_var hN hv hd hcd
end
theorem iteF {A B : Prop} (h : B) : if false = true then A else B:=by
 rw [if_neg Bool.false_ne_true]
 exact h
theorem iteT {A B : Prop} (h : A) : if true = true then A else B:=by
 rw [if_pos rfl]
 exact h
theorem ite2 {c A B : Prop} [Decidable c] (h1 : c->A) (h2 : ¬ c->B) : if c then A else B:=by
 by_cases h : c
 ·rw [if_pos h]
  exact h1 h
 ·rw [if_neg h]
  exact h2 h
def Same (H H' : Hp) : Prop := ∀ b o,H b = some o->H' b = some o
theorem Same.refl (H : Hp) : Same H H:=fun _ _ h=>h
theorem Same.trans {H H1 H2 : Hp} (a : Same H H1) (b : Same H1 H2) : Same H H2:=fun c o h=>b c o (a c o h)
theorem Same.free {H H' : Hp} (e : Same H H') {l : Addr} (h : H' l = Option.none) : H l = Option.none:=by
 cases q : H l with
 | none=>rfl
 | some o =>
  rw [e l o q] at h
  cases h
theorem Same.seq {K : PySem.W.Frag} {H H' : Hp} {a : Addr} {xs : List V} (e : Same H H') (h : SqL K H a xs) : SqL K H' a xs:=by
 rcases h with (h | ⟨o,h⟩) | h
 ·exact .inl (.inl (e _ _ h))
 ·exact .inl (.inr ⟨o,e _ _ h⟩)
 ·exact .inr h
end L2
end

section
set_option Elab.async false
set_option linter.all false
set_option maxRecDepth 100000
namespace L2
open PySem PySem.Spec PyProof.Rows
theorem forIn_yield_fold {α β : Type} {f : α->β->Sem (ForInStep β)} (g : β->α->β) : ∀ {l : List α} (c : β),(∀ x ∈ l,∀ c,f x c = pure (.yield (g c x)))->forIn l c f = pure (l.foldl g c)
 | [],_,_=>rfl
 | x :: l,c,h=>by
  rw [List.forIn_cons,h x List.mem_cons_self,pure_bind]
  exact forIn_yield_fold g (g c x) fun y hy=>h y (List.mem_cons_of_mem _ hy)
def clOf (env : Env) (names : List (Str × NameKind)) : List (Str × Addr) :=
 names.foldl (fun cs y=>if y.2 == .free then (y.1,(env.cells.lookup y.1).getD 0) :: cs else cs) []
theorem closure_of {scope : Scope} {env : Env} (h : ∀ y ∈ scope.names,y.2 = .free->∃ c,env.cells.lookup y.1 = some c) : closureFor scope env = pure (clOf env scope.names):=by
 simp only [closureFor]
 rw [forIn_yield_fold (fun cs y=>if y.2 == .free then (y.1,(env.cells.lookup y.1).getD 0) :: cs else cs) [] (fun x hx c=>by
  obtain ⟨n,kind⟩:=x
  cases e : (kind == NameKind.free) with
  | false=>simp only [e,Bool.false_eq_true,if_false]
  | true =>
   obtain ⟨a,ha⟩:=h (n,kind) hx (by simpa using e)
   have ha' : env.cells.lookup n = some a:=ha
   simp only [e,if_true,cellOf,ha',Option.getD_some]
   rfl)]
 rfl
theorem clOf_inv {env : Env} (P : List (Str × Addr)->Prop) : ∀ (names : List (Str × NameKind)) (cs : List (Str × Addr)),P cs->(∀ y ∈ names,∀ cs,P cs->P (if y.2 == .free then (y.1,(env.cells.lookup y.1).getD 0) :: cs else cs)) ->
  P (names.foldl (fun cs y=>if y.2 == .free then (y.1,(env.cells.lookup y.1).getD 0) :: cs else cs) cs)
 | [],_,h,_=>h
 | y :: r,cs,h,k=>by
  rw [List.foldl_cons]
  exact clOf_inv P r _ (k y List.mem_cons_self cs h) fun z hz=>k z (List.mem_cons_of_mem _ hz)
theorem clOf_sub {env : Env} {names : List (Str × NameKind)} (h : ∀ y ∈ names,y.2 = .free->∃ c,env.cells.lookup y.1 = some c) {n : Str} {c : Addr} (e : (clOf env names).lookup n = some c) : env.cells.lookup n = some c:=by
 have q : ∀ n c,(clOf env names).lookup n = some c->env.cells.lookup n = some c:=clOf_inv (fun cs=>∀ n c,cs.lookup n = some c->env.cells.lookup n = some c) names [] (fun _ _ z=>by simp at z) fun y hy cs ih n c z=>by
  cases e : (y.2 == NameKind.free) with
  | false=>rw [e] at z;exact ih n c z
  | true =>
   rw [e,if_pos rfl] at z
   obtain ⟨a,ha⟩:=h y hy (by simpa using e)
   rw [ha,Option.getD_some] at z
   rw [List.lookup_cons] at z
   cases e2 : (n == y.1) with
   | false=>rw [e2] at z;exact ih n c z
   | true =>
    rw [e2] at z
    have e3 : n = y.1:=by simpa using e2
    rw [e3,ha]
    exact z
 exact q n c e
theorem clOf_has {env : Env} {names : List (Str × NameKind)} {n : Str} (h : (n,NameKind.free) ∈ names) : ∃ c,(clOf env names).lookup n = some c:=by
 have gen : ∀ (names : List (Str × NameKind)) (cs : List (Str × Addr)),((n,NameKind.free) ∈ names\/∃ c,cs.lookup n = some c)->∃ c,(names.foldl (fun cs y=>if y.2 == .free then (y.1,(env.cells.lookup y.1).getD 0) :: cs else cs) cs).lookup n = some c:=by
  intro names
  induction names with
  | nil=>intro cs z;exact z.elim (fun z=>by simp at z) id
  | cons y r ih =>
   intro cs z
   rw [List.foldl_cons]
   refine ih _ ?_
   rcases z with z | ⟨c,z⟩
   ·rcases List.mem_cons.mp z with z | z
    ·subst z
     exact .inr ⟨(env.cells.lookup n).getD 0,by simp⟩
    ·exact .inl z
   ·refine .inr ?_
    split
    ·rw [List.lookup_cons]
     cases n == y.1 with
     | false=>exact ⟨c,z⟩
     | true=>exact ⟨_,rfl⟩
    ·exact ⟨c,z⟩
 exact gen names [] (.inl h)
theorem lookup_relabel {env : Env} {x : Str} : ∀ {names : List (Str × NameKind)},
  (names.map fun (n,k)=>if (k == NameKind.free && env.scope.kind == .function && env.kindOf n == some .cell) then (n,NameKind.cell) else (n,k)).lookup x =
   (names.lookup x).map fun k=>if (k == NameKind.free && env.scope.kind == .function && env.kindOf x == some .cell) then NameKind.cell else k
 | []=>rfl
 | (n,k) :: r=>by
  have ih := @lookup_relabel env x r
  show List.lookup x ((if (k == NameKind.free && env.scope.kind == .function && env.kindOf n == some .cell) = true then (n,NameKind.cell) else (n,k)) :: _) = _
  cases hx : x == n with
  | true =>
   have e : x = n:=by simpa using hx
   subst e
   by_cases hc : (k == NameKind.free && env.scope.kind == .function && env.kindOf x == some .cell) = true
   ·rw [if_pos hc];simp only [List.lookup_cons,beq_self_eq_true,Option.map_some];rw [if_pos hc]
   ·rw [if_neg hc];simp only [List.lookup_cons,beq_self_eq_true,Option.map_some];rw [if_neg hc]
  | false =>
   by_cases hc : (k == NameKind.free && env.scope.kind == .function && env.kindOf n == some .cell) = true
   ·rw [if_pos hc];simp only [List.lookup_cons,hx];exact ih
   ·rw [if_neg hc];simp only [List.lookup_cons,hx];exact ih
structure CompScope (env : Env) (scope : Scope) : Prop where
 kind : scope.kind = .function
 cell : ∀ y ∈ scope.names,y.2 ≠ .cell
 loc : ∀ y ∈ scope.names,y.2 = .local->scope.names.lookup y.1 = some .local
 free : ∀ y ∈ scope.names,y.2 = .free->env.scope.names.lookup y.1 = some .cell\/env.scope.names.lookup y.1 = some .free
abbrev compCx (X : Cx) (scope : Scope) (Nc : List Str) (C : Addr) (s₂ : Shared) (H₂ : Hp) (ex : List Addr) : Cx where
 prog:=X.prog
 w:=X.w
 K:=X.K
 mg:=X.mg
 base:=X.base
 A:=X.A
 N:=Nc
 s₀:=s₂
 H₀:=H₂
 env:=compEnvC scope (clOf X.env scope.names) C X.env
 outer:=X.stack
 stack:=X.stack
 ex:=ex
 fn:=fun _=>false
 calm:=true
 pn:=[]
 xe:=fun _ _=>False
section
variable {X : Cx}
def compSt (k : Nat) (js : List Nat) (σ : St) : St:=List.replicate k none ++ js.map fun j=>(σ[j]?).getD none
theorem comp_get {k : Nat} {js : List Nat} {σ : St} {i : Nat} {v : V} (h : (compSt k js σ)[i]? = some (some v)) : ∃ t j,i = k + t/\js[t]? = some j/\σ[j]? = some (some v):=by
 unfold compSt at h
 by_cases hi : i < k
 ·rw [List.getElem?_append_left (by simpa using hi),List.getElem?_replicate,if_pos hi] at h
  cases h
 ·rw [List.getElem?_append_right (by simpa using hi),List.length_replicate,List.getElem?_map] at h
  cases e : js[i - k]? with
  | none=>rw [e] at h;cases h
  | some j =>
   rw [e] at h
   have h' : (σ[j]?).getD none = some v:=Option.some.inj h
   refine ⟨i - k,j,by omega,e,?_⟩
   cases e2 : σ[j]? with
   | none=>rw [e2] at h';cases h'
   | some o=>rw [e2] at h';exact congrArg some h'
theorem compSt_len {k : Nat} {js : List Nat} {σ : St} : (compSt k js σ).length = k + js.length:=by
 unfold compSt
 rw [List.length_append,List.length_replicate,List.length_map]
theorem inv_comp {pins : List (Addr × Obj)} {σ : St} {H : Hp} {s s4 : Shared} {scope : Scope} {Nc : List Str} {k : Nat} {js : List Nat} {C : Addr} {fp : List Addr} (I : Inv X pins σ H s) (hc : X.calm = true) (S : CompScope X.env scope)
  (hjs : (Nc.drop k).map some = js.map (X.N[·]?)) (hfr : ∀ x ∈ Nc.drop k,scope.names.lookup x = some .free) (hk : k <= Nc.length)
  (hfp : ∀ b ∈ fp,FpOk X pins H b) (hlt : ∀ b ∈ fp,b < s.heap.objs.size) (hC : s.heap.objs.size <= C) (hn : s4.heap.Ns C fun _=>none) (hkeep : ∀ b o,s.heap.get? b = some o->s4.heap.get? b = some o)
  (ho : s4.os = s.os) (hg : s4.gens = s.gens) : Inv (compCx X scope Nc C s H fp) [] (compSt k js σ) H s4:=by
 have fr : ∀ y ∈ scope.names,y.2 = .free->∃ c,X.env.cells.lookup y.1 = some c:=fun y hy e=>I.ok.has y.1 (S.free y hy e)
 have kinds : ∀ x,(relabel scope X.env).names.lookup x = some .cell\/(relabel scope X.env).names.lookup x = some .free->(x,NameKind.free) ∈ scope.names:=fun x hx=>by
  have q : (relabel scope X.env).names.lookup x = (scope.names.lookup x).map fun k=>if (k == NameKind.free && X.env.scope.kind == .function && X.env.kindOf x == some .cell) then NameKind.cell else k:=lookup_relabel
  cases e : scope.names.lookup x with
  | none=>rw [q,e] at hx;rcases hx with z | z <;> cases z
  | some kd =>
   have mem:=PySem.mem_of_lookup e
   cases kd with
   | free=>exact mem
   | cell=>exact absurd rfl (S.cell _ mem)
   | _=>rw [q,e] at hx;rcases hx with z | z <;> cases z
 have lenJ : js.length = Nc.length - k:=by
  have:=congrArg List.length hjs
  simpa using this.symm
 refine ⟨⟨I.ok.mod,S.kind,I.ok.glob,I.ok.blt,hC,fun x y c h1 h2=>I.ok.inj x y c (clOf_sub fr h1) (clOf_sub fr h2),fun x hx=>clOf_has (kinds x hx),fun x c z=>(by cases z),fun _=>I.ok.hd hc,I.ok.frames,.inl rfl,fun b hb=>⟨?_,fun x c e=>?_⟩,I.bs,Nat.le_trans I.ok.bsz I.sz,fun b o e hb=>?_,fun b hb z=>?_,I.stack,I.stkFree⟩,
  ho,?_,Un.kept hkeep,⟨_,hn,fun i x v e1 e2 e3=>?_⟩,fun x c e=>?_,I.hok.fresh hC,fun x c e=>I.freeC x c (clOf_sub fr e),fun p hp=>absurd (show p ∈ ([] : List (Addr × Obj)) from hp) (by simp),I.hok.kept hkeep,?_⟩
 ·exact Nat.ne_of_lt (Nat.lt_of_lt_of_le (hlt b hb) hC)
 ·exact (hfp b hb).2.2.2.2.1 x c (clOf_sub fr e)
 ·rcases (hfp b hb).2.2.2.1 with z | z
  ·exact I.ok.noex b o e z
  ·exact absurd (Nat.lt_of_lt_of_le (Heap.lt_size e) (Nat.le_trans I.ok.bsz z)) (Nat.lt_irrefl _)
 ·rcases List.mem_cons.mp (I.stkSub b z) with z | z
  ·exact (hfp b hb).2.1 z
  ·exact (hfp b hb).2.2.1 z
 ·rw [hg];exact ⟨I.bare.1,Nat.le_refl _⟩
 ·obtain ⟨t,j,rfl,hj,hv⟩:=comp_get e2
  have ex : X.N[j]? = some x:=by
   have q:=congrArg (fun l=>l[t]?) hjs
   simp only [List.getElem?_map,List.getElem?_drop,hj,Option.map_some] at q
   have e1' : Nc[k + t]? = some x:=e1
   rw [e1'] at q
   exact (Option.some.inj q).symm
  have hx : scope.names.lookup x = some .free:=hfr x (by
   have : (Nc.drop k)[t]? = some x:=by rw [List.getElem?_drop];exact e1
   exact List.mem_of_getElem? this)
  have kx:=S.free (x,.free) (PySem.mem_of_lookup hx) rfl
  obtain ⟨m,_,hl⟩:=I.loc
  obtain ⟨u,r,l⟩:=hl j x v ex hv (.inr kx)
  obtain ⟨c',hc'⟩:=clOf_has (env:=X.env) (PySem.mem_of_lookup hx)
  have q : (relabel scope X.env).names.lookup x = (scope.names.lookup x).map fun k=>if (k == NameKind.free && X.env.scope.kind == .function && X.env.kindOf x == some .cell) then NameKind.cell else k:=lookup_relabel
  refine ⟨u,r,.inr ⟨?_,c',hc',?_⟩⟩
  ·show (relabel scope X.env).names.lookup x = some .cell\/(relabel scope X.env).names.lookup x = some .free
   rw [q,hx,Option.map_some]
   split
   ·exact .inl rfl
   ·exact .inr rfl
  ·rcases l with ⟨k1,_⟩ | ⟨_,c,hcc,z⟩
   ·have k1' : X.env.scope.names.lookup x = some .local:=k1
    have kx' : X.env.scope.names.lookup x = some .cell\/X.env.scope.names.lookup x = some .free:=kx
    rw [k1'] at kx'
    rcases kx' with z | z <;> cases z
   ·have e : c = c':=by
     have:=clOf_sub fr hc'
     rw [hcc] at this
     exact Option.some.inj this
    subst e
    exact z.keeps hkeep
 ·obtain ⟨v,z⟩:=I.cell x c (clOf_sub fr e)
  exact ⟨v,z.keeps hkeep⟩
 ·rw [compSt_len]
  show _ = Nc.length
  omega
def PTs (X : Cx) (ifs : List Expr) (t : TT) : Prop :=
  ∀ (pins : List (Addr × Obj)) (s : Shared) (σ : St) (H : Hp) (Q : Bool → Hp → Prop), Inv X pins σ H s → t σ H Q →
    wpAny (model X.prog X.w) X.A (forIn ifs true fun c r => if r = true then do let ok ← isTrue c X.env (eval c X.env); pure (ForInStep.yield ok) else pure (ForInStep.yield r)) (TP X pins σ Q) X.xe s
def tYes : TT:=fun _ H Q=>Q true H
theorem pts_nil : PTs X [] tYes:=fun _ _ _ H _ I h=>wpAny_tests_nil ⟨H,I,h⟩
theorem pts_one {c : Expr} {t : TT} (h : PT X c t) : PTs X [c] t:=fun pins s σ H Q I q=>wpAny_tests_one (h pins s σ H Q I q)
def GOwn (k : Nat) (g : TG) : Prop := ∀ x σ H Q,k <= σ.length->g x σ H Q->g x σ H fun σ2 H2=>Q σ2 H2/\σ2.length = σ.length/\∀ j,k <= j->σ2[j]? = σ[j]?
def GsOwn (k : Nat) (g : TGs) : Prop := ∀ x σ H Q,k <= σ.length->g x σ H Q->g x σ H fun σ2 H2=>Q σ2 H2/\σ2.length = σ.length/\∀ j,k <= j->σ2[j]? = σ[j]?
theorem gown_name {i k : Nat} (h : i < k) : GOwn k (gName i):=fun x σ H Q _ q=>⟨q,by simp,fun j hj=>List.getElem?_set_ne (by omega)⟩
theorem gsown_nil {k : Nat} : GsOwn k gNil:=fun x σ H Q _ ⟨e,q⟩=>⟨e,q,rfl,fun _ _=>rfl⟩
theorem gsown_cons {i k : Nat} {gs : TGs} (h1 : i < k) (h2 : GsOwn k gs) : GsOwn k (gCons (gName i) gs):=by
 rintro x σ H Q hl ⟨v,r,rfl,q⟩
 refine ⟨v,r,rfl,?_⟩
 show gs r (σ.set i (some v)) H _
 have q':=h2 r (σ.set i (some v)) H Q (by simpa using hl) q
 have e : (fun (σ2 : St) (H2 : Hp)=>Q σ2 H2/\σ2.length = (σ.set i (some v)).length/\∀ j,k <= j->σ2[j]? = (σ.set i (some v))[j]?) = fun σ2 H2=>Q σ2 H2/\σ2.length = σ.length/\∀ j,k <= j->σ2[j]? = σ[j]? := by
  funext σ2 H2
  rw [List.length_set]
  refine congrArg (Q σ2 H2/\·) (congrArg (σ2.length = σ.length/\·) ?_)
  refine forall_congr fun j=>?_
  refine propext ⟨fun z hj=>?_,fun z hj=>?_⟩
  ·rw [z hj,List.getElem?_set_ne (by omega)]
  ·rw [z hj,List.getElem?_set_ne (by omega)]
 rw [e] at q'
 exact q'
theorem gown_tup {K : PySem.W.Frag} {n k : Nat} {gs : TGs} (h : GsOwn k gs) : GOwn k (gTup K n gs):=by
 rintro x σ H Q hl ⟨a,xs,rfl,hq,hn,q⟩
 exact ⟨a,xs,rfl,hq,hn,h xs σ H Q hl q⟩
def LComp (J : It) (g : TG) (tt : TT) (te : TE) (σc : St) (Q : VK) (H1 : Hp) : Prop := ∃ W : Nat->Nat->List V->Hp->Prop,(∃ m,W 0 m [] H1)/\∀ i m xs H,W i m xs H ->
 (J.stop i H/\∀ p,H p = none->Q (.ref p) (upd H p (.lst xs))) \/
 (J.go i H/\∀ x H',J.yld i H x H'->g x σc H' fun σ2 H2=>tt σ2 H2 fun b H3=>if b = true then te σ2 H3 fun v H4=>xs.length < sizeLine/\∃ m',m' < m/\W (i + 1) m' (xs ++ [v]) H4 else ∃ m',m' < m/\W (i + 1) m' xs H3)
def tLComp (k : Nat) (js : List Nat) (wi : TI) (g : TG) (tt : TT) (te : TE) : TE:=fun σ H Q=>wi σ H fun J H1=>LComp J g tt te (compSt k js σ) Q H1
end
end L2
end

section
set_option Elab.async false
set_option linter.all false
set_option maxRecDepth 100000
namespace L2
open PySem PySem.Spec PyProof.Rows
section
variable {X : Cx}
theorem compLoop_any {prog : Program} {w : World} {A : Around} {R : Result → Shared → Prop} {s : Shared} {elt target iter : Expr} {ifs : List Expr} {scope : Scope} {pos : Pos} {it acc : Value} {env : Env} (I : Nat → Shared → Prop)
    (turn : ∀ n s, I n s → wpAny (model prog w) A (pyNext it) (fun r s₁ => match r with
      | none => R (.ok .next) s₁
      | some v => wpAny (model prog w) A (letOwnedTupleGo target it v) (fun _ s₁' => wpAny (model prog w) A (assign target env v) (fun _ s₂ =>
          wpAny (model prog w) A (forIn ifs true fun c r => if r = true then do let ok ← isTrue c env (eval c env); pure (ForInStep.yield ok) else pure (ForInStep.yield r)) (fun ok s₃ =>
            if ok = true then wpAny (model prog w) A (eval elt env) (fun x s₄ =>
              wpAny (model prog w) A (call (.builtin "list.append") [acc, x]) (fun _ s₅ => ∃ m, m < n ∧ I m s₅) (fun _ _ => False) s₄) (fun _ _ => False) s₃
            else ∃ m, m < n ∧ I m s₃) (fun _ _ => False) s₂) (fun _ _ => False) s₁') (fun _ _ => False) s₁) (fun _ _ => False) s)
    (n : Nat) (h : I n s) :
    codeAny (model prog w) A (.compLoop (.ListComp elt [⟨target, iter, ifs, 0⟩] scope pos) 0 it acc env) R s := by
  refine codeAny_loop rfl I (fun n s hI => ?_) n h
  show wpAny _ A ((compTurn (.ListComp elt [⟨target, iter, ifs, 0⟩] scope pos) 0 it acc env).onRaise (fun x => do noteFrame x env; theTreesLotGoes x)) _ _ s
  refine wpAny_noted ?_
  rw [compTurn_list]
  refine wpAny_bind (wpAny_standAt (wpAny_bind (wpAny_mono (turn n s hI) (fun r s₁ h₁ => ?_) fun _ _ h' => h'.elim)))
  cases r with
  | none => exact wpAny_pure h₁
  | some v =>
    refine wpAny_bind (wpAny_mono h₁ (fun _ s₁' h₁' => ?_) fun _ _ h' => h'.elim)
    refine wpAny_bind (wpAny_mono h₁' (fun _ s₂ h₂ => wpAny_bind (wpAny_mono h₂ (fun ok s₃ h₃ => ?_) fun _ _ h' => h'.elim)) fun _ _ h' => h'.elim)
    cases ok with
    | false => exact wpAny_pure ⟨rfl, h₃⟩
    | true =>
      exact wpAny_bind (wpAny_bind (wpAny_mono h₃ (fun x s₄ h₄ => wpAny_bind (wpAny_mono h₄ (fun _ s₅ h₅ => wpAny_pure (wpAny_pure ⟨rfl, h₅⟩)) fun _ _ h' => h'.elim)) fun _ _ h' => h'.elim))
theorem comp_core {elt tg iter : Expr} {ifs : List Expr} {scope : Scope} {pos : Pos} {Nc : List Str} {k : Nat} {js : List Nat} {wi : TI} {g : TG} {tt : TT} {te : TE} (hc : X.calm = true) (S : CompScope X.env scope)
  (hjs : (Nc.drop k).map some = js.map (X.N[·]?)) (hfr : ∀ x ∈ Nc.drop k,scope.names.lookup x = some .free) (hk : k <= Nc.length) (hi : PI X tg iter wi)
  (hg : ∀ C s H ex,PG (compCx X scope Nc C s H ex) tg g) (gk : GOwn k g) (ht : ∀ C s H ex,PTs (compCx X scope Nc C s H ex) ifs tt) (he : ∀ C s H ex,PE (compCx X scope Nc C s H ex) elt te)
  {pins : List (Addr × Obj)} {s : Shared} {σ : St} {H : Hp} {Q : VK} (I : Inv X pins σ H s) (h : tLComp k js wi g tt te σ H Q) :
  wpAny (model X.prog X.w) X.A (eval iter X.env) (fun x s₁=>wpAny (model X.prog X.w) X.A (pyIter x) (fun itv s₂=>wpAny (model X.prog X.w) X.A (newList []) (fun acc s₃ =>
   wpAny (model X.prog X.w) X.A (newFunctionEnv scope X.env.globals (clOf X.env scope.names) [] X.env.qual none .none (some X.env)) (fun cenv s₄ =>
    codeAny (model X.prog X.w) X.A (.compStart (.ListComp elt [⟨tg,iter,ifs,0⟩] scope pos) 0 itv acc { cenv with scope:=relabel scope X.env })
     (fun r s'=>∃ fl D H' m,r = .ok fl/\acc = .ref D/\Inv X pins σ H' s'/\s'.heap.Ns cenv.locals m/\FpOk X pins H' cenv.locals/\Q (.ref D) H') s₄) X.xe s₃) X.xe s₂) X.xe s₁) X.xe s:=by
 refine thn (hi pins s σ H _ I h) fun v s1 h1=>thn h1 fun itv s2 h2=>?_
 obtain ⟨it,fp,tn,J,H2,e,I2,T,st2,f2,W,⟨m0,w0⟩,turn⟩:=h2
 subst e
 refine wpAny_newObj_type (wpAny_newFunctionEnv S.cell (by intro y hy;simp at hy) (fun h₁ hns₁ hsb₁=>?_) S.kind)
 dsimp only at hns₁ hsb₁ ⊢
 generalize hH3 : s2.heap.push { cls:=.type "list",dict:=none,data:=.seq ([] : List Value).toArray } = H3 at hns₁ hsb₁ ⊢
 have hC : H3.objs.size = s2.heap.objs.size + 1:=by rw [<- hH3,Heap.size_push]
 generalize eC : H3.objs.size = C at hns₁ hsb₁ hC ⊢
 generalize eD : s2.heap.objs.size = D at hC ⊢
 have hDC : D ≠ C:=by omega
 have hle : D <= C:=by omega
 have hlt' : D < C:=by omega
 have hltD : ∀ b o,s2.heap.get? b = some o->b < D:=fun b o e=>by rw [<- eD];exact Heap.lt_size e
 have keep : ∀ b o,s2.heap.get? b = some o->h₁.get? b = some o:=fun b o e=>hsb₁.extBut b o (Nat.ne_of_lt (Nat.lt_trans (hltD b o e) hlt')) (Heap.get?_push_of_some _ (hH3 ▸ Heap.get?_push_of_some _ e))
 have hD1 : ∃ nn,h₁.get? D = some { cls:=.type "list",data:=.seq (([] : List Value).toArray) nn } :=
  ⟨_,hsb₁.extBut _ _ hDC (Heap.get?_push_of_some _ (hH3 ▸ eD ▸ Heap.get?_push_size _ rfl))⟩
 have ltf : ∀ b ∈ fp,b < s2.heap.objs.size:=fun b hb=>by
  obtain ⟨o,e,_⟩:=T.obj 0 _ st2 b hb
  exact Heap.lt_size e
 have I4 : Inv (compCx X scope Nc C s2 H2 fp) [] (compSt k js σ) H2 { s2 with heap:=h₁,toks:=s2.toks + ([] : List (Str × Value)).length } :=
  inv_comp (s4:={ s2 with heap:=h₁,toks:=s2.toks + ([] : List (Str × Value)).length }) I2 hc S hjs hfr hk f2 ltf (by omega) hns₁ keep rfl rfl
 have frz : ∀ y ∈ scope.names,y.2 = .free->∃ c,X.env.cells.lookup y.1 = some c:=fun y hy e=>I2.ok.has y.1 (S.free y hy e)
 have Dcell : ∀ x c,(clOf X.env scope.names).lookup x = some c->c ≠ D:=fun x c e z=>by
  obtain ⟨v,q⟩:=I2.cell x c (clOf_sub frz e)
  have l:=q.lt
  rw [z,eD] at l
  exact Nat.lt_irrefl _ l
 have Dstk : D ∉ frs X.stack:=fun z=>by
  rcases List.mem_cons.mp (I2.stkSub D z) with z | z
  ·have l:=I2.lt
   rw [<- z,eD] at l
   exact Nat.lt_irrefl _ l
  ·exact I2.nofs (Nat.le_of_eq eD) z
 have Dfp : ∀ b ∈ fp,D ≠ b:=fun b hb z=>by have l:=ltf b hb;rw [<- z,eD] at l;exact Nat.lt_irrefl _ l
 have fpok : ∀ {H' : Hp} {o : Obj},(∀ b ∈ fp,H' b = none)->∀ b ∈ fp,FpOk (compCx X scope Nc C s2 H2 fp) [(D,o)] H' b:=fun {H' o} hn b hb=>by
  refine ⟨hn b hb,?_,?_,.inl hb,fun x c e=>(f2 b hb).2.2.2.2.1 x c (clOf_sub frz e),fun p hp=>?_⟩
  ·have l:=ltf b hb
   rw [eD] at l
   exact Nat.ne_of_lt (Nat.lt_trans l hlt')
  ·intro z
   rcases List.mem_cons.mp (I2.stkSub b z) with z | z
   ·exact (f2 b hb).2.1 z
   ·exact (f2 b hb).2.2.1 z
  ·have e : p = (D,o):=by simpa using hp
   subst e
   exact Dfp b hb
 have loop : codeAny (model X.prog X.w) X.A (.compLoop (.ListComp elt [⟨tg,iter,ifs,0⟩] scope pos) 0 (.ref it) (.ref D) (compEnvC scope (clOf X.env scope.names) C X.env))
   (fun r s'=>∃ fl D' H' m,r = .ok fl/\Value.ref D = .ref D'/\Inv X pins σ H' s'/\s'.heap.Ns C m/\FpOk X pins H' C/\Q (.ref D') H') { s2 with heap:=h₁,toks:=s2.toks + ([] : List (Str × Value)).length }:=by
  refine compLoop_any (fun n s'=>∃ (i : Nat) (xs : List V) (H' : Hp) (its : List Value) (nn : Nat),Inv (compCx X scope Nc C s2 H2 fp) [] (compSt k js σ) H' s'/\tn i s'.heap/\(∀ b ∈ fp,H' b = none)/\H' D = none /\
   s'.heap.get? D = some { cls:=.type "list",data:=.seq its.toArray nn }/\Vals xs its/\xs.length <= sizeLine/\W i n xs H') ?_ m0 ?_
  ·rintro n s3 ⟨i,xs,H3',its,nn,I3,st3,fr3,fD3,oD3,rv,hz,w3⟩
   have I3' : Inv (compCx X scope Nc C s2 H2 fp) [(D,{ cls:=.type "list",data:=.seq its.toArray nn })] (compSt k js σ) H3' s3:=I3.pins_of fun p hp=>by
    have e : p = (D,{ cls:=.type "list",data:=.seq its.toArray nn }):=by simpa using hp
    subst e
    refine ⟨oD3,fD3,hDC,Dstk,fun v z=>?_⟩
    cases z
   rcases turn i n xs H3' w3 with ⟨stop,qn⟩ | ⟨go,step⟩
   ·refine thn (T.done (compCx X scope Nc C s2 H2 fp) rfl rfl rfl rfl i _ s3 (compSt k js σ) H3' _ I3' (fpok fr3) st3 stop) fun r s4 ⟨hr,I5⟩=>?_
    subst hr
    obtain ⟨oD5,fD5,_⟩:=I5.pin (D,{ cls:=.type "list",data:=.seq its.toArray nn }) (by simp)
    obtain ⟨mC,nC,_⟩:=I5.loc
    have hu : Un (frs X.stack) fp H2 H3' s2.heap s4.heap:=I5.base
    have neD : ∀ b o,H3' b = some o->b ≠ D:=fun b o e=>ne_of_none e fD3
    have neDh : ∀ b o,s2.heap.get? b = some o->b ≠ D:=fun b o e=>Nat.ne_of_lt (hltD b o e)
    have hok' : HOk X.prog X.w (upd H3' D (.lst xs)) s4.heap:=fun b u e=>by
     by_cases hb : b = D
     ·subst hb
      rw [upd_same] at e
      cases e
      exact ⟨hz,its,nn,rv,oD5⟩
     ·rw [upd_ne hb] at e
      exact (I5.hok b u e).stay (fun c v _ q=>q) (fun c q=>by rw [upd_ne (neD c _ q)];exact q) fun c ys q=>by rw [upd_ne (neD c _ q)];exact q
    have hu' : Un (frs X.stack) fp H2 (upd H3' D (.lst xs)) s2.heap s4.heap:=⟨hu.keep,hu.slot,fun b o e n hx=>by rw [upd_ne (neDh b o e)];exact hu.free b o e n hx,hu.there,
     fun b ys e=>by rw [upd_ne (neD b _ (hu.tups b ys e))];exact hu.tups b ys e,fun b o u e=>by rw [upd_ne (neD b _ (hu.frzs b o u e))];exact hu.frzs b o u e,
     fun b ps e=>by obtain ⟨more,q⟩:=hu.tbls b ps e;exact ⟨more,by rw [upd_ne (neD b _ q)];exact q⟩⟩
    have IX : Inv X pins σ (upd H3' D (.lst xs)) s4:=I2.call' I5.os hu' hok' I5.bare fun b hb=>⟨(f2 b hb).2.2.2.1,(f2 b hb).2.1,(f2 b hb).2.2.2.2.1,(f2 b hb).2.2.2.2.2⟩
    refine ⟨_,D,_,mC,rfl,rfl,IX,nC,I2.fpOk (by omega) ?_,qn D fD3⟩
    rw [upd_ne (Ne.symm hDC)]
    exact I5.free
   ·refine thn (T.item (compCx X scope Nc C s2 H2 fp) rfl rfl rfl rfl i _ s3 (compSt k js σ) H3' _ I3' (fpok fr3) st3 go) fun r s4 ⟨u,hr,h4⟩=>?_
    subst hr
    refine thn h4 fun _ s5 ⟨x,H5,I5,r5,y5,st5,fr5⟩=>?_
    have I5':=I5.pinned (fpok fr5) (T.obj _ _ st5)
    have lenS : k <= (compSt k js σ).length:=by rw [compSt_len];omega
    refine thn (hg C s2 H2 fp _ s5 (compSt k js σ) H5 x u _ I5' r5 (gk _ _ _ _ lenS (step x H5 y5))) fun _ s6 ⟨σ6,H6,I6,q6,l6,a6⟩=>?_
    have weak6 : ∀ {H' : Hp} {s' : Shared} {ps : List (Addr × Obj)},Inv (compCx X scope Nc C s2 H2 fp) ps σ6 H' s'->Inv (compCx X scope Nc C s2 H2 fp) ps (compSt k js σ) H' s':=fun {H' s' ps} I'=>I'.weak l6.symm fun j v e=>by
     obtain ⟨t,j',rfl,_,_⟩:=comp_get e
     rw [a6 _ (Nat.le_add_right _ _)]
     exact e
    refine thn (ht C s2 H2 fp _ s6 σ6 H6 _ I6 q6) fun b s7 ⟨H7,I7,q7⟩=>?_
    have pinD : ∀ {H' : Hp} {s' : Shared},Inv (compCx X scope Nc C s2 H2 fp) ([(D,{ cls:=.type "list",data:=.seq its.toArray nn })] ++ pinsAt fp s5.heap) σ6 H' s'->s'.heap.get? D = some { cls:=.type "list",data:=.seq its.toArray nn }/\H' D = none:=fun {H' s'} I'=>by
     obtain ⟨e1,e2,_⟩:=I'.pin (D,{ cls:=.type "list",data:=.seq its.toArray nn }) (by simp)
     exact ⟨e1,e2⟩
    have pinF : ∀ {H' : Hp} {s' : Shared},Inv (compCx X scope Nc C s2 H2 fp) ([(D,{ cls:=.type "list",data:=.seq its.toArray nn })] ++ pinsAt fp s5.heap) σ6 H' s'->(∀ b ∈ fp,∀ o,s5.heap.get? b = some o->s'.heap.get? b = some o)/\∀ b ∈ fp,H' b = none:=fun {H' s'} I'=>by
     refine ⟨fun b hb o e=>(I'.pin (b,o) (List.mem_append_right _ (List.mem_append_right _ (mem_pinsAt hb e)))).1,fun b hb=>?_⟩
     obtain ⟨o,e,d⟩:=T.obj _ _ st5 b hb
     exact (I'.pin (b,o) (List.mem_append_right _ (List.mem_append_right _ (mem_pinsAt hb e)))).2.1
    cases b with
    | false =>
     obtain ⟨m',hm,w7⟩:=q7
     obtain ⟨d1,d2⟩:=pinD I7
     obtain ⟨p1,p2⟩:=pinF I7
     refine ⟨m',hm,i + 1,xs,H7,its,nn,weak6 (I7.pins_of fun p hp=>absurd (show p ∈ ([] : List (Addr × Obj)) from hp) (by simp)),T.keep _ _ _ st5 p1,p2,d2,d1,rv,hz,w7⟩
    | true =>
     refine thn (he C s2 H2 fp _ s7 σ6 H7 _ I7 q7) fun y s8 ⟨vv,H8,I8,r8,hz8,m',hm,w8⟩=>?_
     obtain ⟨d1,d2⟩:=pinD I8
     obtain ⟨p1,p2⟩:=pinF I8
     refine wpAny_list_append_plain (items:=its.toArray) ⟨nn,d1⟩ (fun h' ⟨nn',hp'⟩ hsb=>?_) (by have:=rv.length;rw [List.size_toArray];omega)
     have I8' : Inv (compCx X scope Nc C s2 H2 fp) [] (compSt k js σ) H8 s8:=weak6 (I8.pins_of fun p hp=>absurd (show p ∈ ([] : List (Addr × Obj)) from hp) (by simp))
     have I9 : Inv (compCx X scope Nc C s2 H2 fp) [] (compSt k js σ) H8 { s8 with heap:=h' }:=I8'.turned (it:=D) (t':=s8.toks) (fun b o hb e=>(hsb.2 b hb).trans e) d2 hDC (.inr (Nat.le_of_eq eD)) (fun x c e=>Dcell x c e) fun p hp=>absurd (show p ∈ ([] : List (Addr × Obj)) from hp) (by simp)
     refine ⟨m',hm,i + 1,xs ++ [vv],H8,its ++ [y],nn',I9,T.keep _ _ _ st5 (fun b hb o e=>(hsb.2 b (Ne.symm (Dfp b hb))).trans (p1 b hb o e)),p2,d2,?_,rv.append (.cons r8 .nil),?_,w8⟩
     ·rw [<- List.push_toArray]
      exact hp'
     ·rw [List.length_append,List.length_singleton]
      omega
  ·obtain ⟨nn,e⟩:=hD1
   exact ⟨0,[],H2,[],nn,I4,T.keep _ _ _ st2 (fun b _ o e=>keep b o e),fun b hb=>(f2 b hb).1,I2.hok.fresh (Nat.le_of_eq eD),e,.nil,Nat.zero_le _,w0⟩
 exact codeAny_compStart_list loop (wpAny_mono (T.self _ 0 _ _ (fun _ _=>False) (T.keep _ _ _ st2 fun b _ o e=>keep b o e) loop) (fun _ _ q=>q) fun _ _ z=>z.elim)
theorem pe_lcomp {elt tg iter : Expr} {ifs : List Expr} {scope : Scope} {pos : Pos} {Nc : List Str} {k : Nat} {js : List Nat} {wi : TI} {g : TG} {tt : TT} {te : TE} (hc : X.calm = true) (S : CompScope X.env scope)
  (hjs : (Nc.drop k).map some = js.map (X.N[·]?)) (hfr : ∀ x ∈ Nc.drop k,scope.names.lookup x = some .free) (hk : k <= Nc.length) (hi : PI X tg iter wi)
  (hg : ∀ C s H ex,PG (compCx X scope Nc C s H ex) tg g) (gk : GOwn k g) (ht : ∀ C s H ex,PTs (compCx X scope Nc C s H ex) ifs tt) (he : ∀ C s H ex,PE (compCx X scope Nc C s H ex) elt te)
  (hs : ∀ x,foldedSetIterable iter X.env x = pure x:=by intro _;rfl) : PE X (.ListComp elt [⟨tg,iter,ifs,0⟩] scope pos) (tLComp k js wi g tt te):=by
 intro pins s σ H Q I h
 rw [eval_ListComp]
 refine wpAny_comprehension_free (use:=none) rfl hs (closure_of fun y hy e=>I.ok.has y.1 (S.free y hy e)) S.kind S.loc (thn (comp_core hc S hjs hfr hk hi hg gk ht he I h) fun x s1 h1=>thn h1 fun itv s2 h2=>thn h2 fun acc s3 h3=>thn h3 fun cenv s4 h4=>codeAny_mono h4 fun r s' hr=>?_)
 obtain ⟨fl,D,H',m,rfl,rfl,I',nC,fC,q⟩:=hr
 refine ⟨m,nC,fun h' sb=>⟨.ref D,H',I'.turned (it:=cenv.locals) (t':=s'.toks) (fun b o hb e=>(sb.2 b hb).trans e) fC.1 fC.2.1 fC.2.2.2.1 fC.2.2.2.2.1 fC.2.2.2.2.2,rfl,q⟩⟩
theorem ps_setC {elt tg iter : Expr} {ifs : List Expr} {scope : Scope} {cpos pos pos' : Pos} {Nc : List Str} {k : Nat} {js : List Nat} {wi : TI} {g : TG} {tt : TT} {te : TE} {i : Nat} {x : Str} (hN : X.N.Nodup) (hxi : X.N[i]? = some x) (hx : Loc X.env.scope x) (hc : X.calm = true) (S : CompScope X.env scope)
    (hjs : (Nc.drop k).map some = js.map (X.N[·]?)) (hfr : ∀ x ∈ Nc.drop k, scope.names.lookup x = some .free) (hk : k ≤ Nc.length) (hi : PI X tg iter wi)
    (hg : ∀ C s H ex, PG (compCx X scope Nc C s H ex) tg g) (gk : GOwn k g) (ht : ∀ C s H ex, PTs (compCx X scope Nc C s H ex) ifs tt) (he : ∀ C s H ex, PE (compCx X scope Nc C s H ex) elt te)
    (hs : ∀ x, foldedSetIterable iter X.env x = pure x := by intro _; rfl) (hsw : swapsWith (.ListComp elt [⟨tg, iter, ifs, 0⟩] scope cpos) (some (.Name x pos')) pos.line X.env = pure true := by rfl)
    (hf : X.fn x = true ∨ X.env.scope.names.lookup x = some .local := by first | exact .inl rfl | exact .inr rfl | assumption) :
    PS X (.Assign [.Name x pos'] (.ListComp elt [⟨tg, iter, ifs, 0⟩] scope cpos) pos) (tAsg (tLComp k js wi g tt te) (gName i)) := by
  intro pins s σ H D I h
  rw [exec_Assign_Name_used _ _ _ _ hsw]
  refine wpAny_bind (wpAny_standAt (wpAny_bind ?_))
  show wpAny _ X.A (do let _ ← comprehension (.ListComp elt [⟨tg, iter, ifs, 0⟩] scope cpos) scope X.env _ (newList []) false (eval iter X.env) (some (assign (.Name x pos') X.env))) _ _ s
  refine wpAny_bind (wpAny_mono (wpAny_comprehension_free (use := some (assign (.Name x pos') X.env)) (Q := fun _ s' => SP X pins D .next s') rfl hs (closure_of fun y hy e => I.ok.has y.1 (S.free y hy e)) S.kind S.loc
    (thn (comp_core hc S hjs hfr hk hi hg gk ht he I h) fun xv s1 h1 => thn h1 fun itv s2 h2 => thn h2 fun acc s3 h3 => thn h3 fun cenv s4 h4 => codeAny_mono h4 fun r s' hr => ?_)) (fun _ s' hq => wpAny_pure (wpAny_pure hq)) fun _ _ e => e)
  obtain ⟨fl, Dl, H', m, rfl, rfl, I', nC, fC, q⟩ := hr
  show wpAny _ X.A (assign (.Name x pos') X.env (.ref Dl)) _ _ _
  refine wpAny_assign_Name (store_ok2 (v := .ref Dl) I' hN hxi hx rfl (fun s'' I'' ⟨a, sa, ha⟩ => ?_) hf)
  have na : cenv.locals ≠ a := by
    rcases ha with rfl | ha
    · exact fC.2.1
    · exact fun z => fC.2.2.2.2.1 x a ha z.symm
  refine ⟨m, nC.sameBut sa na, fun h' sb => ⟨_, H', I''.turned (it := cenv.locals) (t' := s''.toks) (fun b o hb e => (sb.2 b hb).trans e) fC.1 fC.2.1 fC.2.2.2.1 fC.2.2.2.2.1 fC.2.2.2.2.2, q⟩⟩
end
end L2
end

section
set_option Elab.async false
set_option linter.all false
set_option maxRecDepth 100000
namespace L2
open PySem PySem.Spec PyProof.Rows
section
variable {X : Cx}
def TabAt (H : Hp) (P : Addr) (ps : Array Value) : Prop:=H P = some (.tbl ps)/\TriplesOk ps.toList
theorem Inv.table {pins : List (Addr × Obj)} {σ : St} {H : Hp} {s : Shared} {P : Addr} {ps more : Array Value} {h' : Heap} {t' : Nat} (I : Inv X pins σ H s) (hP : H P = some (.tbl ps)) (hx : Heap.ExtBut P s.heap h') (hp : h'.get? P = some { cls:=.none,data:=.fields (ps ++ more) }) :
  Inv X pins σ (upd H P (.tbl (ps ++ more))) { s with heap:=h',toks:=t' }:=by
 have ne : ∀ b o,H b = some o->(∀ q,o ≠ .tbl q)->b ≠ P:=fun b o e n z=>by
  subst z
  rw [hP] at e
  exact n ps (Option.some.inj e).symm
 have ne0 : ∀ b,H b = none->b ≠ P:=fun b n z=>by subst z;rw [hP] at n;cases n
 refine I.un ⟨fun b o e n _ _=>hx b o (ne0 b n) e,fun b o e n _ _=>⟨o.slots,hx b o (ne0 b n) e⟩,fun b o e n _=>by rw [upd_ne (ne0 b n)];exact n,fun b o e _=>?_,fun b xs e=>by rw [upd_ne (ne b _ e (by intro q z;cases z))];exact e,
  fun b o u e=>by rw [upd_ne (ne b _ e (by intro q z;cases z))];exact e,fun b qs e=>?_⟩ fun b u e=>?_
 ·by_cases hb : b = P
  ·subst hb;exact ⟨_,hp⟩
  ·exact ⟨o,hx b o hb e⟩
 ·by_cases hb : b = P
  ·subst hb
   rw [hP] at e;cases e
   exact ⟨more,upd_same⟩
  ·exact ⟨#[],by rw [upd_ne hb,e];simp⟩
 ·by_cases hb : b = P
  ·subst hb
   rw [upd_same] at e;cases e
   exact hp
  ·rw [upd_ne hb] at e
   refine (I.hok b u e).stay (fun c v hc q=>hx c v ?_ q) (fun c q=>by rw [upd_ne (ne c _ q (by intro q z;cases z))];exact q) fun c ys q=>by rw [upd_ne (ne c _ q (by intro q z;cases z))];exact q
   rcases hc with z | z
   ·rw [z];exact hb
   ·exact ne c _ z (by intro q z;cases z)
end
end L2
end

section
set_option Elab.async false
set_option linter.all false
set_option maxRecDepth 100000
namespace L2
open PySem PySem.Spec PyProof.Rows
section
variable {Xg : Cx} {A : Around} {elt tg iter : Expr} {ifs : List Expr} {scope : Scope} {pos : Pos} {it : Addr} {J : It} {fp : List Addr} {tn : Nat->Heap->Prop} {g : TG} {tt : TT} {te : TE} {k : Nat} {σg : St} {pa : List (Addr × Obj)}
end
section
variable {prog : Program} {w : World} {A : Around} {a : Addr} {gi : Nat}
end
def BltMod (mg : Str->Option Value) (base : Heap) : Prop := ∃ bm ob,mg "__builtins__" = some (.ref bm)/\bm ≠ builtinsNs/\base.get? bm = some ob/\ob.cls = .type "module"/\ob.dict = some builtinsNs/\ob.data = .plain
section
variable {X : Cx}
end
end L2
end

section
set_option Elab.async false
set_option linter.all false
set_option maxRecDepth 100000
namespace L2
open PySem PySem.Spec PyProof.Rows
mutual
def IsD (ex : List Addr) (H : Hp) : PyData->V->Prop
 | .none,v=>v = .non
 | .bool b,v=>v = .bl b
 | .int i,v=>v = .int i
 | .str x,v=>v = .str x
 | .tuple ds,v=>∃ a vs,v = .ref a/\a ∉ ex/\H a = some (.tup vs)/\IsDs ex H ds vs
 | .list ds,v=>∃ a vs,v = .ref a/\a ∉ ex/\H a = some (.lst vs)/\IsDs ex H ds vs
 | .dict _,_=>False
def IsDs (ex : List Addr) (H : Hp) : List PyData->List V->Prop
 | [],vs=>vs = []
 | d :: ds,vs=>∃ v r,vs = v :: r/\IsD ex H d v/\IsDs ex H ds r
end
structure Ext (ex : List Addr) (H H' : Hp) : Prop where
 old : ∀ b o,b ∉ ex->H b = some o->(∀ ps,o ≠ .tbl ps)->H' b = some o
 tab : ∀ b ps,b ∉ ex->H b = some (.tbl ps)->∃ ps',H' b = some (.tbl ps')/\(TriplesOk ps.toList->TriplesOk ps'.toList)
theorem Ext.refl {ex : List Addr} {H : Hp} : Ext ex H H:=⟨fun _ _ _ h _=>h,fun _ ps _ h=>⟨ps,h,id⟩⟩
theorem Ext.trans {ex : List Addr} {H H1 H2 : Hp} (a : Ext ex H H1) (b : Ext ex H1 H2) : Ext ex H H2 :=
 ⟨fun c o hc h n=>b.old c o hc (a.old c o hc h n) n,fun c ps hc h=>by
  obtain ⟨p1,h1,t1⟩:=a.tab c ps hc h
  obtain ⟨p2,h2,t2⟩:=b.tab c p1 hc h1
  exact ⟨p2,h2,fun z=>t2 (t1 z)⟩⟩
theorem Ext.mono {ex ex' : List Addr} {H H' : Hp} (a : Ext ex H H') (h : ∀ b ∈ ex,b ∈ ex') : Ext ex' H H':=⟨fun c o hc=>a.old c o fun z=>hc (h c z),fun c ps hc=>a.tab c ps fun z=>hc (h c z)⟩
theorem Ext.free {ex : List Addr} {H H' : Hp} (a : Ext ex H H') {l : Addr} (hx : l ∉ ex) (h : H' l = none) : H l = none:=by
 cases q : H l with
 | none=>rfl
 | some o =>
  cases o with
  | tbl ps =>
   obtain ⟨p',h',_⟩:=a.tab l ps hx q
   rw [h] at h';cases h'
  | _=>rw [a.old l _ hx q (by intro ps z;cases z)] at h;cases h
theorem Ext.new {ex : List Addr} {H : Hp} {p : Addr} (h : H p = none) (o : HO) : Ext ex H (upd H p o) :=
 ⟨fun b u _ q _=>by rw [upd_ne (ne_of_none q h)];exact q,fun b ps _ q=>⟨ps,by rw [upd_ne (ne_of_none q h)];exact q,id⟩⟩
theorem Ext.put {ex : List Addr} {H : Hp} {p : Addr} (h : p ∈ ex) (o : HO) : Ext ex H (upd H p o) :=
 ⟨fun b u hb q _=>by rw [upd_ne (fun z : b = p=>hb (z ▸ h))];exact q,fun b ps hb q=>⟨ps,by rw [upd_ne (fun z : b = p=>hb (z ▸ h))];exact q,id⟩⟩
theorem Ext.tbl {ex : List Addr} {H : Hp} {p : Addr} {ps ps' : Array Value} (h : H p = some (.tbl ps)) (t : TriplesOk ps'.toList) : Ext ex H (upd H p (.tbl ps')):=by
 refine ⟨fun b u _ q n=>?_,fun b qs _ q=>?_⟩
 ·rw [upd_ne]
  ·exact q
  ·rintro rfl
   rw [h] at q
   exact n ps (Option.some.inj q).symm
 ·by_cases hb : b = p
  ·subst hb
   exact ⟨ps',upd_same,fun _=>t⟩
  ·exact ⟨qs,by rw [upd_ne hb];exact q,id⟩
theorem Ext.lst {ex : List Addr} {H H' : Hp} (a : Ext ex H H') {p : Addr} {xs : List V} (hp : p ∉ ex) (h : H p = some (.lst xs)) : H' p = some (.lst xs):=a.old p _ hp h (by intro ps z;cases z)
theorem Ext.tup {ex : List Addr} {H H' : Hp} (a : Ext ex H H') {p : Addr} {xs : List V} (hp : p ∉ ex) (h : H p = some (.tup xs)) : H' p = some (.tup xs):=a.old p _ hp h (by intro ps z;cases z)
theorem Ext.sql {K : PySem.W.Frag} {ex : List Addr} {H H' : Hp} (a : Ext ex H H') {p : Addr} {xs : List V} (hp : p ∉ ex) (h : SqL K H p xs) : SqL K H' p xs:=by
 rcases h with (h | ⟨o,h⟩) | h
 ·exact .inl (.inl (a.lst hp h))
 ·exact .inl (.inr ⟨o,a.old p _ hp h (by intro ps z;cases z)⟩)
 ·exact .inr h
def Tb (ts : List Addr) (H : Hp) : Prop := ∀ P ∈ ts,∃ ps,TabAt H P ps
theorem Ext.tb {ex ts : List Addr} {H H' : Hp} (a : Ext ex H H') (h : Tb ts H) (hx : ∀ P ∈ ts,P ∉ ex) : Tb ts H':=fun P hP=>by
 obtain ⟨ps,h1,h2⟩:=h P hP
 obtain ⟨ps',q1,q2⟩:=a.tab P ps (hx P hP) h1
 exact ⟨ps',q1,q2 h2⟩
mutual
theorem IsD.ext {ex : List Addr} {H H' : Hp} (e : Ext ex H H') : ∀ {d : PyData} {v : V},IsD ex H d v->IsD ex H' d v
 | .none,_,h=>h
 | .bool _,_,h=>h
 | .int _,_,h=>h
 | .str _,_,h=>h
 | .tuple ds,v,h=>by
  obtain ⟨a,vs,h1,h2,h3,h4⟩:=h
  exact ⟨a,vs,h1,h2,e.tup h2 h3,IsDs.ext e h4⟩
 | .list ds,v,h=>by
  obtain ⟨a,vs,h1,h2,h3,h4⟩:=h
  exact ⟨a,vs,h1,h2,e.lst h2 h3,IsDs.ext e h4⟩
 | .dict _,_,h=>h.elim
theorem IsDs.ext {ex : List Addr} {H H' : Hp} (e : Ext ex H H') : ∀ {ds : List PyData} {vs : List V},IsDs ex H ds vs->IsDs ex H' ds vs
 | [],_,h=>h
 | d :: ds,vs,h=>by
  obtain ⟨v,r,h1,h2,h3⟩:=h
  exact ⟨v,r,h1,IsD.ext e h2,IsDs.ext e h3⟩
end
mutual
theorem IsD.less {ex ex' : List Addr} {H : Hp} (e : ∀ b ∈ ex',b ∈ ex) : ∀ {d : PyData} {v : V},IsD ex H d v->IsD ex' H d v
 | .none,_,h=>h
 | .bool _,_,h=>h
 | .int _,_,h=>h
 | .str _,_,h=>h
 | .tuple ds,v,h=>by
  obtain ⟨a,vs,h1,h2,h3,h4⟩:=h
  exact ⟨a,vs,h1,fun z=>h2 (e a z),h3,IsDs.less e h4⟩
 | .list ds,v,h=>by
  obtain ⟨a,vs,h1,h2,h3,h4⟩:=h
  exact ⟨a,vs,h1,fun z=>h2 (e a z),h3,IsDs.less e h4⟩
 | .dict _,_,h=>h.elim
theorem IsDs.less {ex ex' : List Addr} {H : Hp} (e : ∀ b ∈ ex',b ∈ ex) : ∀ {ds : List PyData} {vs : List V},IsDs ex H ds vs->IsDs ex' H ds vs
 | [],_,h=>h
 | d :: ds,vs,h=>by
  obtain ⟨v,r,h1,h2,h3⟩:=h
  exact ⟨v,r,h1,IsD.less e h2,IsDs.less e h3⟩
end
theorem IsDs.get {ex : List Addr} {H : Hp} : ∀ {ds : List PyData} {vs : List V} {i : Nat} {d : PyData},IsDs ex H ds vs->ds[i]? = some d->∃ v,vs[i]? = some v/\IsD ex H d v
 | [],_,_,_,_,e=>by simp at e
 | d :: ds,vs,0,d',h,e=>by
  obtain ⟨v,r,rfl,h2,h3⟩:=h
  simp at e
  subst e
  exact ⟨v,rfl,h2⟩
 | d :: ds,vs,i + 1,d',h,e=>by
  obtain ⟨v,r,rfl,h2,h3⟩:=h
  obtain ⟨w,h4,h5⟩:=IsDs.get (i:=i) h3 (by simpa using e)
  exact ⟨w,by simpa using h4,h5⟩
theorem IsDs.length {ex : List Addr} {H : Hp} : ∀ {ds : List PyData} {vs : List V},IsDs ex H ds vs->vs.length = ds.length
 | [],_,h=>by cases h;rfl
 | d :: ds,vs,h=>by
  obtain ⟨v,r,rfl,h2,h3⟩:=h
  simp [IsDs.length h3]
theorem IsDs.append {ex : List Addr} {H : Hp} : ∀ {ds es : List PyData} {vs ws : List V},IsDs ex H ds vs->IsDs ex H es ws->IsDs ex H (ds ++ es) (vs ++ ws)
 | [],_,_,_,h,h'=>by cases h;exact h'
 | d :: ds,es,vs,ws,h,h'=>by
  obtain ⟨v,r,rfl,h2,h3⟩:=h
  exact ⟨v,r ++ ws,rfl,h2,IsDs.append h3 h'⟩
theorem IsDs.take {ex : List Addr} {H : Hp} : ∀ {ds : List PyData} {vs : List V} (n : Nat),IsDs ex H ds vs->IsDs ex H (ds.take n) (vs.take n)
 | [],_,n,h=>by cases h;simp [IsDs]
 | d :: ds,vs,0,h=>by simp [IsDs]
 | d :: ds,vs,n + 1,h=>by
  obtain ⟨v,r,rfl,h2,h3⟩:=h
  exact ⟨v,r.take n,rfl,h2,IsDs.take n h3⟩
theorem IsDs.drop {ex : List Addr} {H : Hp} : ∀ {ds : List PyData} {vs : List V} (n : Nat),IsDs ex H ds vs->IsDs ex H (ds.drop n) (vs.drop n)
 | [],_,n,h=>by cases h;simp [IsDs]
 | d :: ds,vs,0,h=>h
 | d :: ds,vs,n + 1,h=>by
  obtain ⟨v,r,rfl,h2,h3⟩:=h
  exact IsDs.drop n h3
theorem IsDs.strs {ex : List Addr} {H : Hp} : ∀ (xs : List Str),IsDs ex H (xs.map .str) (xs.map .str)
 | []=>rfl
 | x :: xs=>⟨_,_,rfl,rfl,IsDs.strs xs⟩
theorem IsDs.strs_of {ex : List Addr} {H : Hp} : ∀ {xs : List Str} {vs : List V},IsDs ex H (xs.map .str) vs->vs = xs.map .str
 | [],_,h=>h
 | x :: xs,vs,h=>by
  obtain ⟨v,r,rfl,h2,h3⟩:=h
  rw [IsDs.strs_of h3,show v = V.str x from h2]
  rfl
theorem IsDs.ints_of {ex : List Addr} {H : Hp} : ∀ {xs : List Int} {vs : List V},IsDs ex H (xs.map .int) vs->vs = xs.map .int
 | [],_,h=>h
 | x :: xs,vs,h=>by
  obtain ⟨v,r,rfl,h2,h3⟩:=h
  rw [IsDs.ints_of h3,show v = V.int x from h2]
  rfl
theorem IsDs.ints {ex : List Addr} {H : Hp} : ∀ (xs : List Int),IsDs ex H (xs.map .int) (xs.map .int)
 | []=>rfl
 | x :: xs=>⟨_,_,rfl,rfl,IsDs.ints xs⟩
section
variable {X : Cx} {pins : List (Addr × Obj)} {σ : St} {H : Hp} {s : Shared} {ex : List Addr}
mutual
theorem IsD.reads (I : Inv X pins σ H s) : ∀ {d : PyData} {v : V} {u : Value},IsD ex H d v->RelV v u->∃ as,Reads s.heap u d as
 | .none,_,_,h,r=>by cases h;cases r;exact ⟨_,.none⟩
 | .bool b,_,_,h,r=>by cases h;cases r;exact ⟨_,.bool b⟩
 | .int i,_,_,h,r=>by cases h;obtain ⟨t,rfl⟩:=r;exact ⟨_,.int i t⟩
 | .str x,_,_,h,r=>by cases h;obtain ⟨t,rfl⟩:=r;exact ⟨_,.str x t⟩
 | .tuple ds,v,u,h,r=>by
  obtain ⟨a,vs,rfl,_,h3,h4⟩:=h
  cases r
  obtain ⟨_,its,rv,⟨ob,e1,e2,n,e3⟩,_⟩ : vs.length <= sizeLine/\∃ its : List Value,Vals vs its/\IsTup s.heap a its.toArray/\∃ o,s.heap.get? a = some o/\o.dict = none:=I.hok a _ h3
  obtain ⟨as,q⟩:=IsDs.reads I h4 rv
  exact ⟨as,reads_tuple_at e1 e2 e3 (by simpa using q)⟩
 | .list ds,v,u,h,r=>by
  obtain ⟨a,vs,rfl,_,h3,h4⟩:=h
  cases r
  obtain ⟨_,its,n,rv,e1⟩ : vs.length <= sizeLine/\∃ (its : List Value) (n : Nat),Vals vs its/\s.heap.get? a = some { cls:=.type "list",data:=.seq its.toArray n }:=I.hok a _ h3
  obtain ⟨as,q⟩:=IsDs.reads I h4 rv
  exact ⟨_,reads_list_at e1 rfl rfl (by simpa using q)⟩
 | .dict _,_,_,h,_=>h.elim
theorem IsDs.reads (I : Inv X pins σ H s) : ∀ {ds : List PyData} {vs : List V} {us : List Value},IsDs ex H ds vs->Vals vs us->∃ as,ReadsAll s.heap us ds as
 | [],_,_,h,r=>by cases h;cases r;exact ⟨_,.nil⟩
 | d :: ds,vs,us,h,r=>by
  obtain ⟨v,rs,rfl,h2,h3⟩:=h
  cases r with
  | cons r1 r2 =>
   obtain ⟨as,q1⟩:=IsD.reads I h2 r1
   obtain ⟨bs,q2⟩:=IsDs.reads I h3 r2
   exact ⟨_,.cons q1 q2⟩
end
end
section
variable {X : Cx}
open SeqAt (shaped)
def rEqD : R2:=fun x y H Q=>∃ dx dy,IsD [] H dx x/\IsD [] H dy y/\shaped dx = true/\shaped dy = true/\Q (.bl (PyData.eqv dx dy)) H
def rNeD : R2:=fun x y H Q=>∃ dx dy,IsD [] H dx x/\IsD [] H dy y/\shaped dx = true/\shaped dy = true/\Q (.bl (!PyData.eqv dx dy)) H
theorem op_eqD (hu : X.A.units + 64 < cLine) : OpR X (compareOp .Eq) rEqD:=by
 intro pins s σ H x y v u Q I rx ry h
 obtain ⟨dx,dy,h1,h2,s1,s2,q⟩:=h
 obtain ⟨as,r1⟩:=h1.reads I rx
 obtain ⟨bs,r2⟩:=h2.reads I ry
 exact eq_dataH r1 r2 s1 s2 hu ⟨.bl _,H,I,rfl,q⟩
theorem op_neD (hu : X.A.units + 64 < cLine) : OpR X (compareOp .NotEq) rNeD:=by
 intro pins s σ H x y v u Q I rx ry h
 obtain ⟨dx,dy,h1,h2,s1,s2,q⟩:=h
 obtain ⟨as,r1⟩:=h1.reads I rx
 obtain ⟨bs,r2⟩:=h2.reads I ry
 exact ne_dataH r1 r2 s1 s2 hu ⟨.bl _,H,I,rfl,q⟩
def rIsi (K : PySem.W.Frag) : List V->Hp->VK->Prop:=fun vs H Q=>∃ x T t b,vs = [x,.ty T]/\TyOf K H x t/\PySem.W.kitOne K t (.type T) = some b/\Q (.bl b) H
theorem call_isi : CallR X (.builtin "isinstance") (rIsi X.K):=by
 intro pins s σ H xs us Q I r h
 obtain ⟨x,T,t,b,rfl,ty,e,q⟩:=h
 obtain ⟨u1,u2,rfl,r1,r2⟩:=r.two
 cases r2
 exact isinst_ok I r1 ty e fun tk=>⟨.bl b,H,I.tok tk,rfl,q⟩
def rSlS : V->Option Int->Option Int->Hp->VK->Prop:=fun x lo hi H Q=>∃ z,x = .str z/\z.length <= sizeLine/\Q (.str (Txt.slice z lo hi)) H
theorem sl_str : SlR X rSlS:=by
 intro pins s σ H x v vl vu lo hi sl Q I rx hs pl pu h
 obtain ⟨z,rfl,hz,q⟩:=h
 obtain ⟨t,rfl⟩:=rx
 have fin : ∀ t' k,EP X pins σ Q (.str (Txt.slice z lo hi) t') { s with toks:=k }:=fun t' k=>⟨.str _,H,I.tok k,⟨_,rfl⟩,q⟩
 cases pl with
 | none =>
  cases pu with
  | none=>exact ⟨"str",_,F.slot_str_getitem.lookup,typeIs_str _ _ _,wpAny_getItem_str_slice (l:=none) (u:=none) (st:=none) hs rfl (post_val_or_str ⟨Nat.le_trans (Txt.slice_le z _ _) hz,fin⟩)⟩
  | int j t'=>exact ⟨"str",_,F.slot_str_getitem.lookup,typeIs_str _ _ _,wpAny_getItem_str_slice (l:=none) (u:=some (j,t')) (st:=none) hs rfl (post_val_or_str ⟨Nat.le_trans (Txt.slice_le z _ _) hz,fin⟩)⟩
 | int i t'' =>
  cases pu with
  | none=>exact ⟨"str",_,F.slot_str_getitem.lookup,typeIs_str _ _ _,wpAny_getItem_str_slice (l:=some (i,t'')) (u:=none) (st:=none) hs rfl (post_val_or_str ⟨Nat.le_trans (Txt.slice_le z _ _) hz,fin⟩)⟩
  | int j t'=>exact ⟨"str",_,F.slot_str_getitem.lookup,typeIs_str _ _ _,wpAny_getItem_str_slice (l:=some (i,t'')) (u:=some (j,t')) (st:=none) hs rfl (post_val_or_str ⟨Nat.le_trans (Txt.slice_le z _ _) hz,fin⟩)⟩
theorem strs_of : ∀ {ys : List Str} {us : List Value},Vals (ys.map V.str) us->StrsAre us ys
 | [],_,.nil=>.nil
 | y :: ys,_,.cons ⟨t,e⟩ r=>by subst e;exact .cons y t (strs_of r)
def rJoin (K : PySem.W.Frag) : V->List V->Hp->VK->Prop:=fun x vs H Q=>∃ z a ys,x = .str z/\vs = [.ref a]/\SqL K H a (ys.map V.str)/\(ys.map (·.length)).sum + ys.length * z.length <= 16777216/\Q (.str (Txt.join z ys)) H
theorem mt_join : MtR X "str.join" (rJoin X.K):=by
 intro pins s σ H x vs v us Q I rx rv h
 obtain ⟨z,a,ys,rfl,rfl,hq,hl,q⟩:=h
 obtain ⟨t,rfl⟩:=rx
 obtain ⟨u,rfl,ru⟩:=rv.one
 cases ru
 obtain ⟨its,r,pl,_⟩:=I.list hq
 exact join_list pl.isList (by simpa using strs_of r) hl fun t' k=>⟨.str _,H,I.tok k,⟨_,rfl⟩,q⟩
end
end L2
end

section
set_option Elab.async false
set_option linter.all false
set_option maxRecDepth 100000
namespace L2
open PySem PySem.Spec PyProof.Rows
def OnlyT (tabs : List Addr) (H : Hp) : Prop:=(∀ b,H b = none\/(∃ o xs,H b = some (.frz o (.lst xs)))\/(b ∈ tabs/\H b = some (.tbl #[])))/\∀ b ∈ tabs,H b = some (.tbl #[])
theorem law_callT {P : Program} {w : World} {K : PySem.W.Frag} {mg mb : Str->Option Value} {CX : CXT} {k : Nat} {fa a : Addr} {fd : FuncData} {x : Str} {sp : Sp} {s₁ : Shared} {vs : List Value} {ns : List Int} {tabs : List Addr}
  (KX : K.In s₁.heap) (hns : s₁.heap.Ns mainGlobals mg) (hb : s₁.heap.Ns builtinsNs mb) (hbb : ∀ x : Str,x ≠ "__name__"->mb x = bootBuiltins x) (hlim : s₁.heap.NoLimit) (hg : s₁.gens = #[]) (hbm : BltMod mg s₁.heap)
  (htab : ∀ p ∈ tabs,s₁.heap.get? p = some (PySem.W.tabObj #[])/\isCodeTable s₁.heap p/\K.lookup p = none)
  (ha : s₁.heap.get? a = some { cls:=.type "list",data:=.seq vs.toArray }) (hi : IntsAre vs ns) (hl : ns.length <= sizeLine) (hr : Room k callerA)
  (F : ∀ base : Heap,K.In base->base.Ns mainGlobals mg->BltMod mg base->FnOk P w K mg base CX k fa fd [x] sp) (hbind : ∀ (s : Shared) (u : Value),BindsTo s fd ⟨[u],[]⟩ [(x,u)])
  (hsp : ∀ H : Hp,OnlyT tabs H->SqL K H a (ns.map V.int)->sp [.ref a] H (fun v _=>v = .bl true) fun _ _ _=>False)
  (hCX : ∀ H e s',CX [] H s₁ (fun _ _ _=>False) e s'->False) :
  codeAny (model P w) callerA (.call (.ref fa) ⟨[.ref a],[]⟩) (fun r s'=>r = .ok (.ret (.bool true))/\OldK s₁.heap s'.heap/\s'.os = s₁.os/\AllBare s'.gens) s₁:=by
 have rv:=vals_ints hi
 have lenV:=hi.length
 have anT : a ∉ tabs:=fun z=>by
  have e:=(htab a z).1
  rw [ha] at e
  cases e
 have core : ∀ H : Hp,OnlyT tabs H->SqL K H a (ns.map V.int)->HOk P w H s₁.heap->(∀ b,H b ≠ none->b = a\/b ∈ tabs)->(H a ≠ none->K.lookup a = none) ->
   codeAny (model P w) callerA (.call (.ref fa) ⟨[.ref a],[]⟩) (fun r s'=>r = .ok (.ret (.bool true))/\OldK s₁.heap s'.heap/\s'.os = s₁.os/\AllBare s'.gens) s₁:=by
  intro H hO hS hok hA hK
  have base_of : ∀ {b : Addr} {o : Obj},s₁.heap.get? b = some o->H b = none->(hidT s₁.heap H).get? b = some o:=fun e n=>hidT_get e n
  have noT : ∀ {b : Addr} {o : Obj},s₁.heap.get? b = some o->(∀ (vs : Array Value) n,o.data ≠ .seq vs n)->(∀ vs : Array Value,o.data ≠ .fields vs)->H b = none:=fun {b o} e d1 d2=>by
   cases q : H b with
   | none=>rfl
   | some u =>
    rcases hA b (by rw [q];simp) with e' | e'
    ·subst e'
     rw [ha] at e;cases e
     exact absurd rfl (d1 _ _)
    ·rw [(htab b e').1] at e;cases e
     exact absurd rfl (d2 _)
  have nsK : ∀ {b : Addr} {m : Str->Option Value},s₁.heap.Ns b m->(hidT s₁.heap H).Ns b m:=fun {b m} ⟨o,es,ep,e,d,r⟩=>⟨o,es,ep,base_of e (noT e (by intro _ _ z;rw [d] at z;cases z) (by intro _ z;rw [d] at z;cases z)),d,r⟩
  have hKb : K.In (hidT s₁.heap H):=fun b o e=>base_of (KX b o e) (by
   cases q : H b with
   | none=>rfl
   | some u =>
    rcases hA b (by rw [q];simp) with e' | e'
    ·subst e'
     rw [hK (by rw [q];simp)] at e;cases e
    ·rw [(htab b e').2.2] at e;cases e)
  have hM : Mod K mg (hidT s₁.heap H):=⟨hKb,nsK hns,⟨mb,nsK hb,hbb⟩,let ⟨mc,h1,h2⟩:=hlim;⟨mc,nsK h1,h2⟩⟩
  have hB : BltMod mg (hidT s₁.heap H):=by
   obtain ⟨bm,ob,b1,b2,b3,b4,b5,b6⟩:=hbm
   exact ⟨bm,ob,b1,b2,base_of b3 (noT b3 (by intro _ _ z;rw [b6] at z;cases z) (by intro _ z;rw [b6] at z;cases z)),b4,b5,b6⟩
  have e0 : Env0 P w K mg (hidT s₁.heap H) callerA [] s₁ H:=⟨rfl,hM,fun b o e=>of_hidT e,Nat.le_of_eq (hidT_size _ _),trivial,fun b hb=>absurd (show b ∈ ([] : List Addr) from hb) (by simp),hok,.of_eq hg⟩
  refine codeAny_mono ((F _ hKb (nsK hns) hB).run callerA [] s₁ H ⟨[.ref a],[]⟩ [.ref a] [.ref a] _ _ hr e0 (hbind s₁ (.ref a)) (.cons rfl .nil) (hsp H hO hS)) fun r s' h=>?_
  cases r with
  | error e=>exact (hCX H e s' h).elim
  | ok fl =>
   cases fl with
   | next=>exact False.elim h
   | brk=>exact False.elim h
   | cont=>exact False.elim h
   | ret u =>
    obtain ⟨v,H',os,bare,un,hok',r',q⟩:=h
    have q' : v = .bl true:=q
    subst q'
    obtain rfl : u = Value.bool true:=r'
    have no : ∀ b : Addr,b ∉ frs []:=fun b z=>absurd (show b ∈ ([] : List Addr) from z) (by simp)
    refine ⟨rfl,⟨fun b o e=>?_,fun b o e=>un.there b o e (by simp)⟩,os,bare.1⟩
    rcases hO.1 b with z | ⟨ob,xs,z⟩ | ⟨zt,z⟩
    ·exact .inl (un.keep b o e z (no b) (by simp))
    ·have z2:=un.frzs b ob _ z
     obtain ⟨e1,_⟩:=hok b _ z
     obtain ⟨e2,_⟩:=hok' b _ z2
     rw [e] at e1;cases e1
     exact .inl e2
    ·obtain ⟨more,z2⟩:=un.tbls b _ z
     have e2 : s'.heap.get? b = some { cls:=.none,data:=.fields (#[] ++ more) }:=hok' b _ z2
     have e1:=(htab b zt).1
     rw [e] at e1;cases e1
     exact .inr (.inl ⟨(htab b zt).2.1,rfl,#[],more,rfl,e2⟩)
 have tabOk : ∀ b ∈ tabs,s₁.heap.get? b = some { cls:=.none,data:=.fields #[] }:=fun b hb=>(htab b hb).1
 cases hk : K.lookup a with
 | some o =>
  have e:=KX a o hk
  rw [ha] at e
  cases e
  refine core (fun b=>if b ∈ tabs then some (.tbl #[]) else none) ⟨fun b=>?_,fun b hb=>if_pos hb⟩ (.inr ⟨_,vs.toArray,_,hk,rfl,rfl,rfl,by rw [List.size_toArray,lenV];exact hl,by simpa using rv⟩) (fun b u z=>?_) (fun b z=>?_) (fun z=>absurd (if_neg anT) z)
  ·by_cases hb : b ∈ tabs
   ·exact .inr (.inr ⟨hb,if_pos hb⟩)
   ·exact .inl (if_neg hb)
  ·by_cases hb : b ∈ tabs
   ·have z':=(if_pos hb).symm.trans z
    cases z'
    exact tabOk b hb
   ·have z':=(if_neg hb).symm.trans z
    cases z'
  ·by_cases hb : b ∈ tabs
   ·exact .inr hb
   ·exact absurd (if_neg hb) z
 | none =>
  refine core (fun b=>if b = a then some (.frz { cls:=.type "list",data:=.seq vs.toArray } (.lst (ns.map V.int))) else if b ∈ tabs then some (.tbl #[]) else none) ⟨fun b=>?_,fun b hb=>?_⟩ (.inl (.inr ⟨{ cls:=.type "list",data:=.seq vs.toArray },if_pos rfl⟩)) (fun b u z=>?_) (fun b z=>?_) fun _=>hk
  ·by_cases hb : b = a
   ·exact .inr (.inl ⟨_,_,if_pos hb⟩)
   ·by_cases hb' : b ∈ tabs
    ·exact .inr (.inr ⟨hb',(if_neg hb).trans (if_pos hb')⟩)
    ·exact .inl ((if_neg hb).trans (if_neg hb'))
  ·have hne : b ≠ a:=fun z=>anT (z ▸ hb)
   exact (if_neg hne).trans (if_pos hb)
  ·by_cases hb : b = a
   ·have z':=(if_pos hb).symm.trans z
    cases z'
    subst hb
    exact ⟨ha,by rw [List.length_map];exact hl,vs,_,rv,ha⟩
   ·have z1 : (if b ∈ tabs then some (HO.tbl #[]) else none) = some u:=(if_neg hb).symm.trans z
    by_cases hb' : b ∈ tabs
    ·have z':=(if_pos hb').symm.trans z1
     cases z'
     exact tabOk b hb'
    ·have z':=(if_neg hb').symm.trans z1
     cases z'
  ·by_cases hb : b = a
   ·exact .inl hb
   ·by_cases hb' : b ∈ tabs
    ·exact .inr hb'
    ·exact absurd ((if_neg hb).trans (if_neg hb')) z
def tabsOf (K : PySem.W.Frag) (gn : List Str) : List Addr:=gn.filterMap fun x=>(PySem.W.tabIn K x).map (·.2)
theorem walk_ofT {l : PySem.W.OpenLaw} {n k : Nat} {q : Program} {loose : List Str} {XP : (Str->Option Value)->Heap->Prop} {YP : World->Heap->Prop} {d : DefRec} {K : Params->PySem.W.Frag} {CX : World->CXT} {sp : World->Sp} {x : Str} (gn : List Str)
  (hn : l.most = some n) (hn2 : n <= sizeLine) (hdf : d.params.defaults = []) (hr : Room k callerA)
  (hY : ∀ (w : World) (h : Heap),YP w h->(K w.params).In h)
  (hgn : ∀ y ∈ gn,((recsOf q).find? (fun e=>e.name == y)).isSome = true)
  (hT : ∀ (w : World) (h : Heap),(K w.params).In h->∀ y ∈ gn,∀ c P,PySem.W.tabIn (K w.params) y = some (c,P)->(K w.params).lookup P = none)
  (F : ∀ (w : World) (mg : Str->Option Value) (fa : Addr) (h : Heap),(K w.params).In h->h.Ns mainGlobals mg->mg d.name = some (.ref fa) ->
   ∃ fd : FuncData,(∀ (s : Shared) (u : Value),BindsTo s fd ⟨[u],[]⟩ [(x,u)]) /\
    ∀ base : Heap,(K w.params).In base->base.Ns mainGlobals mg->BltMod mg base->FnOk l.prog w (K w.params) mg base (CX w) k fa fd [x] (sp w))
  (hsp : ∀ (w : World) (H : Hp) (a : Addr) (ns : List Int),ns.length <= n->OnlyT (tabsOf (K w.params) gn) H->SqL (K w.params) H a (ns.map V.int)->sp w [.ref a] H (fun v _=>v = .bl true) fun _ _ _=>False)
  (hCX : ∀ (w : World) (H : Hp) (s : Shared) (e : Value) (s' : Shared),CX w [] H s (fun _ _ _=>False) e s'->False) :
  PySem.W.WalkO q loose XP YP l.row.toRowW d [] (fun f vs=>PySem.call f vs):=by
 refine Att.attach_call hn hdf fun w s₀ s₁ mg mb fa o pm cd doc a vs ns G Y ho hd hcd hmg hobj hints hlen hg=>?_
 have KX:=hY w _ Y
 obtain ⟨fd,hb,hF⟩:=F w mg fa _ KX G.T.g hmg
 refine law_callT (tabs:=tabsOf (K w.params) gn) KX G.T.g G.T.b G.T.builtins G.T.nolimit hg G.T.bmain (fun p hp=>?_) hobj hints (Nat.le_trans hlen hn2) hr hF hb (fun H hO hS=>hsp w H a ns hlen hO hS) fun H e s'=>hCX w H s₁ e s'
 obtain ⟨y,hy,e⟩:=List.mem_filterMap.mp hp
 cases et : PySem.W.tabIn (K w.params) y with
 | none=>rw [et] at e;cases e
 | some cP =>
  obtain ⟨c,P⟩:=cP
  rw [et] at e
  have e' : P = p:=Option.some.inj e
  subst e'
  obtain ⟨d',hd'⟩:=Option.isSome_iff_exists.mp (hgn y hy)
  obtain ⟨t1,t2⟩:=PySem.W.tab_of G.T KX hd' et
  exact ⟨t2,(t1.tab t2).isCodeTable,hT w _ KX y hy c P et⟩
end L2
end

section
set_option Elab.async false
set_option linter.all false
set_option maxRecDepth 100000
namespace L2
open PySem PySem.Spec PyProof.Rows
def Its (z : Str) : It:=⟨fun i _=>i < z.cps.size,fun i H x H'=>H' = H/\∃ c,z.cps[i]? = some c/\x = .str ⟨#[c]⟩,fun i _=>i = z.cps.size⟩
theorem turn_str {P : Program} {w : World} {K : PySem.W.Frag} {tg : Expr} (it : Addr) (z : Str) (t : Tok) (ty : String)
  (hty : ["enumerate","zip","dict_itemiterator","dict_reverseitemiterator","odict_iterator","itertools.zip_longest","itertools.pairwise"].contains ty = false)
  (W : ∀ A : Around,A.handled = none->Walks P w A it [it] [it] z.cps.size (SignAt z) (fun i h=>h.IsStrIter it ty z t i))
  (self : ∀ (A : Around) (i : Nat) (s : Shared) (Q : Value->Shared->Prop) (E : Value->Shared->Prop),s.heap.IsStrIter it ty z t i->Q (.ref it) s->wpAny (model P w) A (pyIter (.ref it)) Q E s) :
  Turn P w K tg (Its z) [it] it (fun i h=>h.IsStrIter it ty z t i) where
 mem:=by simp
 obj:=fun i h st b hb=>by
  have e : b = it:=by simpa using hb
  subst e
  obtain ⟨o,e,c,d⟩:=st
  exact ⟨o,e,fun v z=>by rw [d] at z;cases z⟩
 keep:=fun i h h' st k=>let ⟨o,ho,r⟩:=st;⟨o,k it (by simp) o ho,r⟩
 item:=by
  intro X hP hw hK hc i pins s σ H E I hf st hg
  subst hP hw hK
  obtain ⟨f0,f1,f2,f3,f4,f5⟩:=hf it (by simp)
  refine (W X.A (I.ok.hd hc)).item i s _ _ hg st fun v h' tk hv st' kk=>?_
  obtain ⟨c,u,hc',rfl⟩:=hv
  have I1 : Inv X pins σ H { s with heap:=h',toks:=tk }:=I.turned (fun b o hb e=>kk b o (by simpa using hb) e) f0 f1 f3 f4 f5
  obtain ⟨o,e,oc,d⟩:=id st'
  exact ⟨_,rfl,go_of (s:={ s with heap:=h',toks:=tk }) e oc d hty ⟨.str ⟨#[c]⟩,H,I1,⟨_,rfl⟩,⟨rfl,c,hc',rfl⟩,st',fun b hb=>(hf b hb).1⟩⟩
 done:=by
  intro X hP hw hK hc i pins s σ H E I hf st hg
  subst hP hw hK
  obtain ⟨f0,f1,f2,f3,f4,f5⟩:=hf it (by simp)
  obtain rfl : i = z.cps.size:=hg
  exact (W X.A (I.ok.hd hc)).done s _ _ st fun h' tk kk=>⟨rfl,I.turned (fun b o hb e=>kk b o (by simpa using hb) e) f0 f1 f3 f4 f5⟩
 self:=fun A i s Q E st h=>self A i s Q E st h
section
variable {X : Cx} {tg : Expr}
def iStr (tl : TE) : TI:=fun σ H R=>tl σ H fun x H1=>∃ z,x = .str z/\R (Its z) H1
theorem pi_str {l : Expr} {tl : TE} (hl : PE X l tl) : PI X tg l (iStr tl):=by
 intro pins s σ H R I h
 refine thn (hl pins s σ H _ I h) fun v s1 ⟨x,H1,I1,r1,q1⟩=>?_
 obtain ⟨z,e,q⟩:=q1
 subst e
 obtain ⟨t,rfl⟩:=r1
 have fin : ∀ (ty : String) (T : Turn X.prog X.w X.K tg (Its z) [s1.heap.objs.size] s1.heap.objs.size (fun i h=>h.IsStrIter s1.heap.objs.size ty z t i)),
   PIE X pins σ tg R (.ref s1.heap.objs.size) { s1 with heap:=s1.heap.push { cls:=.type ty,data:=.fields #[.str z t,.int 0 0] } }:=fun ty T=>by
  refine ⟨s1.heap.objs.size,[s1.heap.objs.size],_,_,H1,rfl,I1.kept (t':=s1.toks) fun b o e=>Heap.get?_push_of_some _ e,T,⟨_,Heap.get?_push_size _ rfl,rfl,rfl⟩,fun b hb=>?_,q⟩
  have e : b = s1.heap.objs.size:=by simpa using hb
  subst e
  exact I1.fpOk (Nat.le_refl _) (I1.hok.fresh (Nat.le_refl _))
 cases ha : z.cps.all (· < 128)
 ·exact wpAny_pyIter_wide ha (fin _ (turn_str _ z t _ (by decide) (fun A hA=>Walks.strWide hA _ z t) fun A i s Q E st h=>wpAny_pyIter_striter_wide st h))
 ·exact wpAny_pyIter_ascii ha (fin _ (turn_str _ z t _ (by decide) (fun A hA=>Walks.strAscii hA _ z t) fun A i s Q E st h=>wpAny_pyIter_striter_ascii st h))
theorem bools_get {bs : List Bool} {its : List Value} (r : Vals (bs.map V.bl) its) {i : Nat} {v : Value} (h : its[i]? = some v) : ∃ b,bs[i]? = some b/\v = .bool b:=by
 have hi : i < its.length:=(List.getElem?_eq_some_iff.mp h).1
 have hl:=r.length
 rw [List.length_map] at hl
 have hb : i < bs.length:=by omega
 obtain ⟨u,hu,ru⟩:=r.get (i:=i) (x:=.bl bs[i]) (by simp [hb])
 rw [h] at hu
 cases hu
 exact ⟨bs[i],by simp [hb],ru⟩
theorem all_range_id (bs : List Bool) : (List.range bs.length).all (fun i=>(bs[i]?).getD true) = bs.all id:=by
 rw [Bool.eq_iff_iff,List.all_eq_true,List.all_eq_true]
 constructor
 ·intro h b hb
  obtain ⟨j,hj,rfl⟩:=List.getElem_of_mem hb
  simpa [List.getElem?_eq_getElem hj] using h j (List.mem_range.mpr hj)
 ·intro h j hj
  have hj':=List.mem_range.mp hj
  have:=h _ (List.getElem_mem hj')
  simpa [List.getElem?_eq_getElem hj'] using this
theorem call_all_list (hc : X.calm = true) : CallR X (.builtin "all") (fun xs H Q=>∃ (a : Addr) (bs : List Bool),xs = [.ref a]/\SqL X.K H a (bs.map V.bl)/\Q (.bl (bs.all id)) H):=by
 intro pins s σ H xs us Q I r h
 obtain ⟨a,bs,rfl,hq,q⟩:=h
 obtain ⟨u,rfl,ru⟩:=r.one
 cases ru
 obtain ⟨its,rv,pl,hz⟩:=I.list hq
 have hl:=rv.length
 rw [List.length_map] at hl
 have hlt : a < s.heap.objs.size:=by obtain ⟨_,e,_⟩:=pl.isList;exact Heap.lt_size e
 refine call_all_walk (wpAny_pyIter_list pl.isList ⟨s.heap.objs.size,[s.heap.objs.size,a],[s.heap.objs.size],its.toArray.size,_,_,fun i=>(bs[i]?).getD true,rfl,Walks.list (A:=X.A.in1) (show X.A.in1.handled = none from I.ok.hd hc) s.heap.objs.size a (Nat.ne_of_lt hlt) its.toArray,⟨⟨_,Heap.get?_push_size _ rfl,rfl,rfl⟩,pl.isList.push _⟩,?_,?_⟩)
 ·intro i v s' Q' E' hv hQ
  have hv' : its[i]? = some v:=by simpa using hv
  obtain ⟨b,hb,rfl⟩:=bools_get rv hv'
  have hQ' : Q' ((bs[i]?).getD true) s':=hQ
  rw [hb] at hQ'
  exact wpAny_truthy_bool hQ'
 ·intro h' tk hk
  have e : its.toArray.size = bs.length:=by rw [List.size_toArray];omega
  rw [e,all_range_id]
  refine ⟨.bl _,H,I.kept fun b o e=>hk b o (fun z=>?_) (Heap.get?_push_of_some _ e),rfl,q⟩
  have z' : b = s.heap.objs.size:=by simpa using z
  subst z'
  exact absurd (Heap.lt_size e) (Nat.lt_irrefl _)
end
structure Yields (J : It) (ok : Hp->Prop) (ys : List V) : Prop where
 go : ∀ i H,ok H->i < ys.length->J.go i H
 stop : ∀ H,ok H->J.stop ys.length H
 yld : ∀ i H x H',ok H->i < ys.length->J.yld i H x H'->H' = H/\ys[i]? = some x
theorem yields_range {lo : Int} {n : Nat} : Yields (Itr lo n) (fun _=>True) ((List.range n).map fun i=>V.int (lo + (i : Nat))) where
 go:=fun i H _ hi=>by show i < n;simpa using hi
 stop:=fun H _=>by show n <= _;simp
 yld:=fun i H x H' _ hi ⟨e,y⟩=>⟨e,by
  have hi' : i < n:=by simpa using hi
  subst y
  simp [hi']⟩
theorem yields_list {K : PySem.W.Frag} {a : Addr} {ys : List V} : Yields (Itl K a) (fun H=>SqL K H a ys) ys where
 go:=fun i H h hi=>⟨ys,ys[i],h,by simp [hi]⟩
 stop:=fun H h=>⟨ys,h,Nat.le_refl _⟩
 yld:=fun i H x H' h hi ⟨e,y⟩=>⟨e,y ys h⟩
theorem yields_tup {K : PySem.W.Frag} {a : Addr} {ys : List V} : Yields (Itt K a) (fun H=>SqT K H a ys) ys where
 go:=fun i H h hi=>⟨ys,ys[i],h,by simp [hi]⟩
 stop:=fun H h=>⟨ys,h,Nat.le_refl _⟩
 yld:=fun i H x H' h hi ⟨e,y⟩=>⟨e,y ys h⟩
def sgV (z : Str) : List V:=z.cps.toList.map fun c=>V.str ⟨#[c]⟩
theorem yields_str {z : Str} : Yields (Its z) (fun _=>True) (sgV z) where
 go:=fun i H _ hi=>by show i < z.cps.size;simpa [sgV] using hi
 stop:=fun H _=>by show _ = z.cps.size;simp [sgV]
 yld:=fun i H x H' _ hi ⟨e,c,hc,y⟩=>⟨e,by
  subst y
  have hc' : z.cps.toList[i]? = some c:=by simpa using hc
  simp only [sgV,List.getElem?_map,hc',Option.map_some]⟩
def Nx (n i : Nat) (p : Prop) : Prop := ∃ m',m' < n - i/\m' = n - (i + 1)/\i + 1 <= n/\p
theorem nx {n i : Nat} {p : Prop} (h : i < n) (q : p) : Nx n i p:=⟨n - (i + 1),by omega,rfl,h,q⟩
theorem lcomp_by {J : It} {ok : Hp->Prop} {ys : List V} {g : TG} {tt : TT} {te : TE} {σc : St} {H : Hp} {Q : VK} (Y : Yields J ok ys) (Pv : Nat->List V->Hp->Prop) (h0 : Pv 0 [] H) (hok : ∀ i xs H,Pv i xs H->ok H)
  (step : ∀ i x xs H,ys[i]? = some x->i < ys.length->Pv i xs H->g x σc H fun σ2 H2=>tt σ2 H2 fun b H3=>if b = true then te σ2 H3 fun v H4=>xs.length < sizeLine/\Nx ys.length i (Pv (i + 1) (xs ++ [v]) H4) else Nx ys.length i (Pv (i + 1) xs H3))
  (fin : ∀ xs H,Pv ys.length xs H->∀ p,H p = none->Q (.ref p) (upd H p (.lst xs))) :
  LComp J g tt te σc Q H:=by
 refine ⟨fun i m xs H=>m = ys.length - i/\i <= ys.length/\Pv i xs H,⟨ys.length,by simp,Nat.zero_le _,h0⟩,?_⟩
 rintro i m xs H ⟨rfl,hi,p⟩
 have o:=hok i xs H p
 by_cases hlt : i < ys.length
 ·refine .inr ⟨Y.go i H o hlt,fun x H' y=>?_⟩
  obtain ⟨e,hx⟩:=Y.yld i H x H' o hlt y
  subst e
  exact step i x xs _ hx hlt p
 ·have e : i = ys.length:=by omega
  subst e
  exact .inl ⟨Y.stop H o,fin xs H p⟩
theorem lcomp_by0 {J : It} {ok : Hp->Prop} {ys : List V} {g : TG} {te : TE} {σc : St} {H : Hp} {Q : VK} (Y : Yields J ok ys) (Pv : Nat->List V->Hp->Prop) (h0 : Pv 0 [] H) (hok : ∀ i xs H,Pv i xs H->ok H)
  (step : ∀ i x xs H,ys[i]? = some x->i < ys.length->Pv i xs H->g x σc H fun σ2 H2=>te σ2 H2 fun v H4=>xs.length < sizeLine/\Nx ys.length i (Pv (i + 1) (xs ++ [v]) H4))
  (fin : ∀ xs H,Pv ys.length xs H->∀ p,H p = none->Q (.ref p) (upd H p (.lst xs))) : LComp J g tYes te σc Q H:=by
 refine lcomp_by Y Pv h0 hok (fun i x xs H hx hi p=>?_) fin
 have e : (fun (σ2 : St) (H2 : Hp)=>tYes σ2 H2 fun b H3=>if b = true then te σ2 H3 fun v H4=>xs.length < sizeLine/\Nx ys.length i (Pv (i + 1) (xs ++ [v]) H4) else Nx ys.length i (Pv (i + 1) xs H3)) =
   fun σ2 H2=>te σ2 H2 fun v H4=>xs.length < sizeLine/\Nx ys.length i (Pv (i + 1) (xs ++ [v]) H4):=by
  funext σ2 H2
  unfold tYes
  dsimp only
  rw [if_pos rfl]
 rw [e]
 exact step i x xs H hx hi p
structure FunC (K : PySem.W.Frag) (x qual : Str) (st : Stmt) (f : Addr) (fd : FuncData) (c : Addr) : Prop where
 ex : ∃ (oc : Value) (od : Option Addr) (kV doc pm : Value) (an : Option Addr) (ct : Value) (osl : Array (Option Value)),
  fd = PySem.W.fnOf x qual (defArgs st) (defBody st) (defScope st) .none kV doc pm an (.ref c) ct/\K.lookup f = some ⟨oc,od,.func fd,osl⟩/\PySem.W.codeIn K (.ref c) qual = true
 kp : PySem.W.keepIn K (.ref f) = true
section
variable {P : Program} {w : World} {K : PySem.W.Frag} {mg : Str->Option Value} {base : Heap}
theorem FunC.fn {x qual : Str} {st : Stmt} {f : Addr} {fd : FuncData} {c : Addr} (F : FunC K x qual st f fd c) : Fun K x qual st f fd:=by
 obtain ⟨oc,od,kV,doc,pm,an,ct,osl,h⟩:=F.ex
 exact ⟨⟨oc,od,kV,doc,pm,an,.ref c,ct,osl,h⟩,F.kp⟩
theorem FunC.ok {x qual : Str} {st : Stmt} {f : Addr} {fd : FuncData} {c : Addr} {N ps : List Str} {k : Nat} {sp : Sp} (F : FunC K x qual st f fd c) (S : FnScope N ps (defScope st)) (len : ∀ vs H Q E,sp vs H Q E->vs.length = ps.length)
  (hbody : ∀ (A : Around) (outer : List Env) (s : Shared) (H : Hp) (vs : List V) (Q : VK) (E : XK),Room k (A.deeper (envOfC qual (defScope st) s.heap.objs.size f (.ref c)))->sp vs H Q E ->
   ∃ t,PSs (cxOf CX0 P w K mg base N qual (defScope st) f (.ref c) A outer s H E).nox (defBody st) t/\t { nx:=fun _ H'=>Q .non H',rt:=Q } (start N vs) H) : FnOk P w K mg base CX0 (k + 1) f fd ps sp:=by
 obtain ⟨oc,od,kV,doc,pm,an,ct,osl,rfl,lk,hcd⟩:=F.ex
 refine fn_of lk hcd S len fun A outer s H vs Q E hr hsp=>?_
 obtain ⟨t,h,q⟩:=hbody A outer s H vs Q E hr hsp
 exact ⟨t,h.nox,q⟩
end
end L2
end

section
set_option Elab.async false
set_option linter.all false
set_option maxRecDepth 100000
namespace L2
open PySem PySem.Spec PyProof.Rows
def CallOk (P : Program) (w : World) (K : PySem.W.Frag) (mg : Str->Option Value) (base : Heap) (x : Str) (k : Nat) (ps : List Str) (sp : Sp) : Prop :=
 ∃ f fd,FnOk P w K mg base CX0 k f fd ps sp/\mg x = some (.ref f)/\PySem.W.keepIn K (.ref f) = true/\Binds K fd ps []
section
variable {X : Cx} {x : Str} {k j : Nat} {ps : List Str} {sp : Sp} {e : Expr} {es : List Expr} {p pos : Pos} {t : TA}
theorem pe_cl (C : CallOk X.prog X.w X.K X.mg X.base x k ps sp) (hr : Room j X.A) (ha : PA X (e :: es) t) (hg : Gl X x:=by rfl) (hj : k <= j:=by decide) (hdb : (x == ("__debug__" : Str)) = false:=by decide)
  (he : starEach (e :: es) X.env = (false,eval e X.env) :: starEach es X.env:=by rfl) (hpl : (backTo pos (starEach es X.env)).any (·.1) = false:=by rfl) :
  PE X (.Call (.Name x p) (e :: es) [] pos) (tCall sp [] E0 t):=by
 obtain ⟨f,fd,F,hm,hk,hb⟩:=C
 exact pe_call F (hr.mono hj) hg hm hk hb .nil pass0 ha hdb he hpl
theorem pe_gl {v : V} (h : ∃ u,X.mg x = some u/\RelV v u) (hg : Gl X x:=by rfl) (hd : (x == ("__debug__" : Str)) = false:=by decide) : PE X (.Name x pos) (tC v):=by
 obtain ⟨u,hm,r⟩:=h
 exact pe_glob hg hm r hd
end
def plainE : Expr->Bool
 | .Starred _ _=>false
 | _=>true
theorem star_cons : ∀ (e : Expr) (rest : List Expr) (env : Env),plainE e = true->starEach (e :: rest) env = (false,eval e env) :: starEach rest env:=by
 intro e rest env h
 cases e <;> first | rfl | (cases h)
theorem pa_c {X : Cx} {e : Expr} {es : List Expr} {te : TE} {t : TA} (ha : PE X e te) (hr : PA X es t) (h : plainE e = true:=by rfl) : PA X (e :: es) (tCons te t):=pa_cons ha hr (star_cons e es X.env h)
theorem ixAt {N : List Str} {x : Str} (n : Nat) (h : N[n]? = some x:=by rfl) : N[n]? = some x:=h
theorem compN {N : List Str} (Nc : List Str) (k : Nat) (js : List Nat) (h : (Nc.drop k).map some = js.map (N[·]?):=by rfl) : (Nc.drop k).map some = js.map (N[·]?):=h
theorem boot_tint : bootBuiltins ("int" : Str) = some (.type "int"):=by decide +kernel
theorem boot_tbool : bootBuiltins ("bool" : Str) = some (.type "bool"):=by decide +kernel
theorem boot_ttuple : bootBuiltins ("tuple" : Str) = some (.type "tuple"):=by decide +kernel
theorem boot_tlist : bootBuiltins ("list" : Str) = some (.type "list"):=by decide +kernel
theorem boot_isi : bootBuiltins ("isinstance" : Str) = some (.builtin "isinstance"):=by decide +kernel
theorem boot_bmin : bootBuiltins ("min" : Str) = some (.builtin "min"):=by decide +kernel
theorem boot_ball : bootBuiltins ("all" : Str) = some (.builtin "all"):=by decide +kernel
def tyD : PyData->String
 | .none=>"NoneType"
 | .bool _=>"bool"
 | .int _=>"int"
 | .str _=>"str"
 | .tuple _=>"tuple"
 | .list _=>"list"
 | .dict _=>"dict"
theorem IsD.ty {K : PySem.W.Frag} {ex : List Addr} {H : Hp} : ∀ {d : PyData} {v : V},IsD ex H d v->TyOf K H v (.type (tyD d))
 | .none,_,h=>by cases h;exact .non
 | .bool b,_,h=>by cases h;exact .bl b
 | .int i,_,h=>by cases h;exact .int i
 | .str x,_,h=>by cases h;exact .str x
 | .tuple ds,_,h=>by obtain ⟨a,vs,rfl,_,h3,_⟩:=h;exact .tup h3
 | .list ds,_,h=>by obtain ⟨a,vs,rfl,_,h3,_⟩:=h;exact .lst h3
 | .dict _,_,h=>h.elim
def isiD (T : String) : PyData->Bool
 | .bool _=>T == "bool" || T == "int"
 | d=>tyD d == T
theorem kit_bool {K : PySem.W.Frag} : ∀ d : PyData,PySem.W.kitOne K (.type (tyD d)) (.type "bool") = some (isiD "bool" d)
 | .none=>rfl | .bool _=>rfl | .int _=>rfl | .str _=>rfl | .tuple _=>rfl | .list _=>rfl | .dict _=>rfl
theorem kit_tuple {K : PySem.W.Frag} : ∀ d : PyData,PySem.W.kitOne K (.type (tyD d)) (.type "tuple") = some (isiD "tuple" d)
 | .none=>rfl | .bool _=>rfl | .int _=>rfl | .str _=>rfl | .tuple _=>rfl | .list _=>rfl | .dict _=>rfl
theorem kit_list {K : PySem.W.Frag} : ∀ d : PyData,PySem.W.kitOne K (.type (tyD d)) (.type "list") = some (isiD "list" d)
 | .none=>rfl | .bool _=>rfl | .int _=>rfl | .str _=>rfl | .tuple _=>rfl | .list _=>rfl | .dict _=>rfl
end L2
end

section
set_option Elab.async false
set_option linter.all false
set_option maxRecDepth 100000
namespace L2
open PySem PySem.Spec PyProof.Rows
section
variable {X : Cx}
end
end L2
end

section
set_option Elab.async false
set_option linter.all false
set_option maxRecDepth 100000
namespace L2
open PySem PySem.Spec PyProof.Rows HT
structure Zn where
 ex : List Addr
 p : Addr
 ts : List Addr
structure Cz (z : Zn) (H : Hp) : Prop where
 mem : z.p ∈ z.ex
 al : ∀ b ∈ z.ex,∃ xs,H b = some (.lst xs)
 held : ∃ n : Int,H z.p = some (.lst [.int n])
 tb : Tb z.ts H
structure Stp (z : Zn) (H H' : Hp) : Prop where
 ext : Ext [z.p] H H'
 cz : Cz z H'
theorem Cz.out {z : Zn} {H : Hp} (c : Cz z H) {P : Addr} (h : P ∈ z.ts) : P ∉ z.ex:=fun hm=>by
 obtain ⟨ps,h1,_⟩:=c.tb P h
 obtain ⟨xs,h2⟩:=c.al P hm
 rw [h1] at h2
 cases h2
theorem Cz.ext {z : Zn} {H H' : Hp} (c : Cz z H) (e : Ext [] H H') : Cz z H' :=
 ⟨c.mem,fun b hb=>let ⟨xs,h⟩:=c.al b hb;⟨xs,e.lst (by simp) h⟩,let ⟨n,h⟩:=c.held;⟨n,e.lst (by simp) h⟩,e.tb c.tb (by simp)⟩
theorem Cz.extp {z : Zn} {H H' : Hp} (c : Cz z H) (e : Ext [z.p] H H') (h : ∃ n : Int,H' z.p = some (.lst [.int n])) : Cz z H' :=
 ⟨c.mem,fun b hb=>by
  by_cases q : b = z.p
  ·subst q
   obtain ⟨n,h⟩:=h
   exact ⟨_,h⟩
  ·obtain ⟨xs,h⟩:=c.al b hb
   exact ⟨xs,e.lst (by simpa using q) h⟩,h,e.tb c.tb fun P hP q=>c.out hP (by rw [List.mem_singleton.mp q];exact c.mem)⟩
theorem Stp.refl {z : Zn} {H : Hp} (c : Cz z H) : Stp z H H:=⟨Ext.refl,c⟩
theorem Stp.trans {z : Zn} {H H1 H2 : Hp} (a : Stp z H H1) (b : Stp z H1 H2) : Stp z H H2:=⟨a.ext.trans b.ext,b.cz⟩
theorem Stp.of {z : Zn} {H H' : Hp} (c : Cz z H) (e : Ext [] H H') : Stp z H H':=⟨e.mono (by simp),c.ext e⟩
theorem Stp.ex {z : Zn} {H H' : Hp} (s : Stp z H H') : Ext z.ex H H':=s.ext.mono fun b hb=>by rw [List.mem_singleton.mp hb];exact s.cz.mem
theorem IsD.stp {z : Zn} {H H' : Hp} {d : PyData} {v : V} (h : IsD z.ex H d v) (s : Stp z H H') : IsD z.ex H' d v:=IsD.ext s.ex h
theorem IsDs.stp {z : Zn} {H H' : Hp} {d : List PyData} {v : List V} (h : IsDs z.ex H d v) (s : Stp z H H') : IsDs z.ex H' d v:=IsDs.ext s.ex h
theorem Cz.free {z : Zn} {H : Hp} (c : Cz z H) {q : Addr} (h : H q = none) : q ∉ z.ex:=fun hm=>by
 obtain ⟨xs,h2⟩:=c.al q hm
 rw [h] at h2
 cases h2
def NewD (z : Zn) (Q : VK) (d : PyData) (H : Hp) : Prop := ∀ v H',Stp z H H'->IsD z.ex H' d v->Q v H'
theorem NewD.tup {z : Zn} {Q : VK} {ds : List PyData} {xs : List V} {H : Hp} (k : NewD z Q (.tuple ds) H) (c : Cz z H) (h : IsDs z.ex H ds xs) {q : Addr} (hq : H q = none) : Q (.ref q) (upd H q (.tup xs)) :=
 have e : Ext [] H (upd H q (.tup xs)):=Ext.new hq _
 k _ _ (Stp.of c e) ⟨q,xs,rfl,c.free hq,upd_same,IsDs.ext (e.mono (by simp)) h⟩
theorem NewD.lst {z : Zn} {Q : VK} {ds : List PyData} {xs : List V} {H : Hp} (k : NewD z Q (.list ds) H) (c : Cz z H) (h : IsDs z.ex H ds xs) {q : Addr} (hq : H q = none) : Q (.ref q) (upd H q (.lst xs)) :=
 have e : Ext [] H (upd H q (.lst xs)):=Ext.new hq _
 k _ _ (Stp.of c e) ⟨q,xs,rfl,c.free hq,upd_same,IsDs.ext (e.mono (by simp)) h⟩
theorem NewD.same {z : Zn} {Q : VK} {d : PyData} {v : V} {H : Hp} (k : NewD z Q d H) (c : Cz z H) (h : IsD z.ex H d v) : Q v H:=k v H (Stp.refl c) h
theorem size1000 : 1000 <= sizeLine:=Nat.le_of_lt (small1000 (Nat.le_refl _))
section
variable {X : Cx} {es : List Expr} {t : TA} {pos : Pos}
def tTupD (t : TA) : TE:=fun σ H Q=>t σ H fun xs H1=>∃ (z : Zn) (ds : List PyData),IsDs z.ex H1 ds xs/\ds.length <= 1000/\Cz z H1/\NewD z Q (.tuple ds) H1
def tLstD (t : TA) : TE:=fun σ H Q=>t σ H fun xs H1=>∃ (z : Zn) (ds : List PyData),IsDs z.ex H1 ds xs/\ds.length <= 1000/\Cz z H1/\NewD z Q (.list ds) H1
theorem pe_tupD {x1} (h : PA X es t) : PE X (.Tuple es x1 pos) (tTupD t):=by
 intro pins s σ H Q I hq
 refine wpAny_Tuple_spliced (thn (h pos pins s σ H _ I hq) fun us s1 hz=>?_)
 obtain ⟨xs,H1,I1,r,z,ds,hd,hl,c,k⟩:=hz
 have hxs : xs.length <= sizeLine:=by rw [hd.length];exact Nat.le_trans hl size1000
 refine ⟨by rw [<- r.length];exact hxs,?_⟩
 have hf : H1 s1.heap.objs.size = none:=I1.hok.fresh (Nat.le_refl _)
 exact ⟨.ref s1.heap.objs.size,upd H1 s1.heap.objs.size (.tup xs),I1.laid (t':=s1.toks) (fun b u e=>Heap.get?_push_of_some _ e) (Nat.le_refl _) ⟨hxs,us,r,⟨_,Heap.get?_push_size _ rfl,rfl,_,rfl⟩,_,Heap.get?_push_size _ rfl,rfl⟩,rfl,k.tup c hd hf⟩
theorem pe_lstD (h : PA X es t) : PE X (.List es pos) (tLstD t):=by
 intro pins s σ H Q I hq
 refine wpAny_List_spliced (thn (h pos pins s σ H _ I hq) fun us s1 hz=>?_)
 obtain ⟨xs,H1,I1,r,z,ds,hd,hl,c,k⟩:=hz
 have hxs : xs.length <= sizeLine:=by rw [hd.length];exact Nat.le_trans hl size1000
 refine ⟨by rw [<- r.length];exact hxs,?_⟩
 have hf : H1 s1.heap.objs.size = none:=I1.hok.fresh (Nat.le_refl _)
 exact ⟨.ref s1.heap.objs.size,upd H1 s1.heap.objs.size (.lst xs),I1.laid (t':=s1.toks) (fun b u e=>Heap.get?_push_of_some _ e) (Nat.le_refl _) ⟨hxs,us,0,r,Heap.get?_push_size _ rfl⟩,rfl,k.lst c hd hf⟩
theorem cat_tup0 {prog : Program} {w : World} {A : Around} {E : Value->Shared->Prop} {s : Shared} {t b : Addr} {ws : List Value} {Q : Value->Shared->Prop} (ht : IsTup s.heap t #[]) (hb : IsTup s.heap b ws.toArray) (h1 : Q (.ref b) s) : wpAny (model prog w) A (binaryOp .Add (.ref t) (.ref b)) Q E s:=by
 obtain ⟨⟨cls,dd,data,sl⟩,ho,hc,n,hd⟩:=id ht
 obtain ⟨⟨cls2,dd2,data2,sl2⟩,ho2,hc2,n2,hd2⟩:=id hb
 simp only at hc hd hc2 hd2
 subst hc hd hc2 hd2
 exact concat_meets ⟨_,ho,rfl⟩ ⟨_,ho2,rfl⟩ noFill_tuple_add seq_tuple_add PySem.F.slot_tuple_add PySem.F.entry_tuple_add (PySem.F.args_tuple_add_2 _ _)
  (tuple_addW0 t b #[] ws.toArray n n2 dd dd2 sl sl2 rfl) ⟨ho,ho2,h1⟩
def rCatTD : R2:=fun x y H Q=>∃ (z : Zn) (ds es : List PyData),IsD z.ex H (.tuple ds) x/\IsD z.ex H (.tuple es) y/\ds.length + es.length <= 1000/\Cz z H/\NewD z Q (.tuple (ds ++ es)) H
theorem op_catTD : OpR X (binaryOp .Add) rCatTD:=by
 intro pins s σ H x y v u Q I rx ry h
 obtain ⟨z,ds,es,⟨a,xs,rfl,na,ha,hd⟩,⟨b,ys,rfl,nb,hb,he⟩,hl,c,k⟩:=h
 have l1:=hd.length
 have l2:=he.length
 have hz : xs.length + ys.length <= sizeLine:=by have:=size1000;omega
 by_cases hx : xs = []
 ·subst hx
  have e0 : ds = []:=List.length_eq_zero_iff.mp l1.symm
  subst e0
  cases rx
  cases ry
  obtain ⟨its,r1,p1,_⟩:=I.tuple (SqT.of (K:=X.K) ha)
  obtain ⟨its2,r2,p2,_⟩:=I.tuple (SqT.of (K:=X.K) hb)
  cases r1
  exact cat_tup0 p1 p2 ⟨.ref b,H,I,rfl,k.same c ⟨b,ys,rfl,nb,hb,he⟩⟩
 ·refine op_catT pins s σ H (.ref a) (.ref b) v u Q I rx ry ⟨a,b,xs,ys,rfl,rfl,SqT.of ha,SqT.of hb,hx,hz,fun e=>?_,fun _ q hq=>k.tup c (IsDs.append hd he) hq⟩
  have e0 : es = []:=by
   rw [e] at l2
   exact List.length_eq_zero_iff.mp l2.symm
  rw [e0,List.append_nil] at k
  exact k.same c ⟨a,xs,rfl,na,ha,hd⟩
def rCatLD : R2:=fun x y H Q=>∃ (z : Zn) (ds es : List PyData),IsD z.ex H (.list ds) x/\IsD z.ex H (.list es) y/\ds.length + es.length <= 1000/\Cz z H/\NewD z Q (.list (ds ++ es)) H
theorem op_catLD : OpR X (binaryOp .Add) rCatLD:=by
 intro pins s σ H x y v u Q I rx ry h
 obtain ⟨z,ds,es,⟨a,xs,rfl,na,ha,hd⟩,⟨b,ys,rfl,nb,hb,he⟩,hl,c,k⟩:=h
 have l1:=hd.length
 have l2:=he.length
 have:=size1000
 exact op_cat pins s σ H (.ref a) (.ref b) v u Q I rx ry ⟨a,b,xs,ys,rfl,rfl,ha,hb,by omega,fun q hq=>k.lst c (IsDs.append hd he) hq⟩
def cutD (ds : List PyData) (lo hi : Option Int) : List PyData:=(ds.drop (HT.sIx ds.length 0 lo)).take (HT.sIx ds.length ds.length hi - HT.sIx ds.length 0 lo)
theorem IsDs.cut {ex : List Addr} {H : Hp} {ds : List PyData} {xs : List V} (lo hi : Option Int) (h : IsDs ex H ds xs) : IsDs ex H (cutD ds lo hi) (cutV xs lo hi):=by
 unfold cutD cutV
 rw [h.length]
 exact IsDs.take _ (IsDs.drop _ h)
def rSlLD : V->Option Int->Option Int->Hp->VK->Prop:=fun x lo hi H Q=>∃ (z : Zn) (ds : List PyData),IsD z.ex H (.list ds) x/\Cz z H/\NewD z Q (.list (cutD ds lo hi)) H
theorem sl_listD : SlR X rSlLD:=by
 intro pins s σ H x v vl vu lo hi sl Q I rx hs pl pu h
 obtain ⟨z,ds,⟨a,xs,rfl,na,ha,hd⟩,c,k⟩:=h
 exact sl_list pins s σ H (.ref a) v vl vu lo hi sl Q I rx hs pl pu ⟨a,xs,rfl,SqL.of ha,fun q hq=>k.lst c (IsDs.cut lo hi hd) hq⟩
theorem call_tupleD : CallR X (.type "tuple") (fun xs H Q=>∃ (z : Zn) (x : V) (ds : List PyData),xs = [x]/\IsD z.ex H (.list ds) x/\Cz z H/\NewD z Q (.tuple ds) H):=by
 intro pins s σ H xs us Q I r h
 obtain ⟨z,x,ds,rfl,⟨a,ys,rfl,na,ha,hd⟩,c,k⟩:=h
 exact call_tuple_of pins s σ H [.ref a] us Q I r ⟨a,ys,rfl,.inl ⟨SqL.of ha,fun l hl=>k.tup c hd hl⟩⟩
theorem atI_pos {α : Type} {xs : List α} {i : Int} {v : α} (h0 : 0 <= i) (h : xs[i.toNat]? = some v) : atI xs i = some v:=by
 have:=atI_nat h
 rw [show ((i.toNat : Nat) : Int) = i by omega] at this
 exact this
theorem IxR.mono {r r' : R2} (h : IxR X r) (k : ∀ x y H Q,r' x y H Q->r x y H Q) : IxR X r':=by
 intro a1 a2 a3 a4 a5 a6 a7 a8 a9 a10 a11 a12 a13 a14 q
 exact h a1 a2 a3 a4 a5 a6 a7 a8 a9 a10 a11 a12 a13 a14 (k _ _ _ _ q)
def rIxD : R2:=fun x y H Q=>∃ (z : Zn) (ds : List PyData) (i : Int) (d : PyData),(IsD z.ex H (.tuple ds) x\/IsD z.ex H (.list ds) x)/\y = .int i/\0 <= i/\ds[i.toNat]? = some d/\∀ v,IsD z.ex H d v->Q v H
theorem ix_D : IxR X rIxD:=by
 have h1 : IxR X (fun x y H Q=>rIxL X.K x y H Q\/rIxT X.K x y H Q):=ix_list.or ix_tup
 refine IxR.mono h1 fun x y H Q h=>?_
 obtain ⟨z,ds,i,d,hd,rfl,h0,hg,q⟩:=h
 rcases hd with ⟨a,xs,rfl,na,ha,hd⟩ | ⟨a,xs,rfl,na,ha,hd⟩
 ·obtain ⟨v,hv,dv⟩:=hd.get hg
  exact .inr ⟨a,xs,i,v,rfl,rfl,SqT.of ha,atI_pos h0 hv,q v dv⟩
 ·obtain ⟨v,hv,dv⟩:=hd.get hg
  exact .inl ⟨a,xs,i,v,rfl,rfl,SqL.of ha,atI_pos h0 hv,q v dv⟩
theorem call_lenD : CallR X (.builtin "len") (fun xs H Q=>∃ (z : Zn) (x : V) (ds : List PyData),xs = [x]/\(IsD z.ex H (.tuple ds) x\/IsD z.ex H (.list ds) x)/\Q (.int ds.length) H):=by
 intro pins s σ H xs us Q I r h
 obtain ⟨z,x,ds,rfl,hd,q⟩:=h
 rcases hd with ⟨a,ys,rfl,na,ha,hd⟩ | ⟨a,ys,rfl,na,ha,hd⟩
 ·exact call_len_seq pins s σ H [.ref a] us Q I r ⟨a,ys,rfl,.inr (SqT.of ha),by rw [hd.length];exact q⟩
 ·exact call_len_seq pins s σ H [.ref a] us Q I r ⟨a,ys,rfl,.inl (SqL.of ha),by rw [hd.length];exact q⟩
end
mutual
theorem IsD.more {ex : List Addr} {H : Hp} {l : Addr} (h0 : H l = none) : ∀ {d : PyData} {v : V},IsD ex H d v->IsD (l :: ex) H d v
 | .none,_,h=>h
 | .bool _,_,h=>h
 | .int _,_,h=>h
 | .str _,_,h=>h
 | .tuple ds,v,h=>by
  obtain ⟨a,vs,h1,h2,h3,h4⟩:=h
  refine ⟨a,vs,h1,fun z=>?_,h3,IsDs.more h0 h4⟩
  rcases List.mem_cons.mp z with rfl | z
  ·rw [h0] at h3;cases h3
  ·exact h2 z
 | .list ds,v,h=>by
  obtain ⟨a,vs,h1,h2,h3,h4⟩:=h
  refine ⟨a,vs,h1,fun z=>?_,h3,IsDs.more h0 h4⟩
  rcases List.mem_cons.mp z with rfl | z
  ·rw [h0] at h3;cases h3
  ·exact h2 z
 | .dict _,_,h=>h.elim
theorem IsDs.more {ex : List Addr} {H : Hp} {l : Addr} (h0 : H l = none) : ∀ {ds : List PyData} {vs : List V},IsDs ex H ds vs->IsDs (l :: ex) H ds vs
 | [],_,h=>h
 | d :: ds,vs,h=>by
  obtain ⟨v,r,h1,h2,h3⟩:=h
  exact ⟨v,r,h1,IsD.more h0 h2,IsDs.more h0 h3⟩
end
def Zn.with (z : Zn) (l : Addr) : Zn:=⟨l :: z.ex,z.p,z.ts⟩
structure Stl (z : Zn) (l : Addr) (H H' : Hp) : Prop where
 ext : Ext [l,z.p] H H'
 cz : Cz (z.with l) H'
theorem Cz.with {z : Zn} {H : Hp} {l : Addr} {xs : List V} (c : Cz z H) (h0 : H l = none) : Cz (z.with l) (upd H l (.lst xs)):=by
 have c':=c.ext (Ext.new h0 (.lst xs))
 refine ⟨List.mem_cons_of_mem _ c.mem,fun b hb=>?_,c'.held,c'.tb⟩
 rcases List.mem_cons.mp hb with rfl | hb
 ·exact ⟨xs,upd_same⟩
 ·exact c'.al b hb
theorem Cz.less {z : Zn} {H : Hp} {l : Addr} (c : Cz (z.with l) H) (hp : z.p ∈ z.ex) : Cz z H:=⟨hp,fun b hb=>c.al b (List.mem_cons_of_mem _ hb),c.held,c.tb⟩
theorem Stl.back {z : Zn} {l : Addr} {H H' : Hp} (s : Stl z l H H') (h0 : H l = none) (hp : z.p ∈ z.ex) : Stp z H H':=by
 refine ⟨⟨fun b o hb h n=>s.ext.old b o (fun q=>?_) h n,fun b ps hb h=>s.ext.tab b ps (fun q=>?_) h⟩,s.cz.less hp⟩
 all_goals
  rcases List.mem_cons.mp q with rfl | q
  ·rw [h0] at h;cases h
  ·exact hb q
theorem Stl.new {z : Zn} {H : Hp} {l : Addr} {xs : List V} (c : Cz z H) (h0 : H l = none) : Stl z l H (upd H l (.lst xs)):=⟨Ext.new h0 _,c.with h0⟩
theorem Stl.stp {z : Zn} {l : Addr} {H H1 H2 : Hp} (a : Stl z l H H1) (b : Stp (z.with l) H1 H2) : Stl z l H H2:=⟨a.ext.trans (b.ext.mono fun q hq=>List.mem_cons_of_mem _ hq),b.cz⟩
theorem Stl.put {z : Zn} {l : Addr} {H H1 : Hp} {xs : List V} (a : Stl z l H H1) (hne : l ≠ z.p) : Stl z l H (upd H1 l (.lst xs)):=by
 have e : Ext [l,z.p] H1 (upd H1 l (.lst xs)):=Ext.put (by simp) _
 have c:=a.cz
 refine ⟨a.ext.trans e,c.mem,fun b hb=>?_,?_,(Ext.put (ex:=[l]) (by simp) _).tb c.tb fun P hP q=>c.out hP (by rw [List.mem_singleton.mp q];exact List.mem_cons_self)⟩
 ·by_cases q : b = l
  ·subst q
   exact ⟨xs,upd_same⟩
  ·obtain ⟨ys,h⟩:=c.al b hb
   exact ⟨ys,by rw [upd_ne q];exact h⟩
 ·obtain ⟨n,h⟩:=c.held
  exact ⟨n,by rw [upd_ne (show (z.with l).p ≠ l from fun q=>hne q.symm)];exact h⟩
theorem Stl.ex {z : Zn} {l : Addr} {H H' : Hp} (s : Stl z l H H') : Ext (z.with l).ex H H':=s.ext.mono fun b hb=>by
 rcases List.mem_cons.mp hb with rfl | hb
 ·exact List.mem_cons_self
 ·rw [List.mem_singleton.mp hb];exact s.cz.mem
theorem IsD.stl {z : Zn} {l : Addr} {H H' : Hp} {d : PyData} {v : V} (h : IsD (z.with l).ex H d v) (s : Stl z l H H') : IsD (z.with l).ex H' d v:=IsD.ext s.ex h
theorem IsDs.stl {z : Zn} {l : Addr} {H H' : Hp} {d : List PyData} {v : List V} (h : IsDs (z.with l).ex H d v) (s : Stl z l H H') : IsDs (z.with l).ex H' d v:=IsDs.ext s.ex h
theorem put_ext {l : Addr} {H : Hp} {ex : List Addr} {o : HO} (h : l ∈ ex) {ds : List PyData} {vs : List V} (hd : IsDs ex H ds vs) : IsDs ex (upd H l o) ds vs:=IsDs.ext (Ext.put h _) hd
end L2
end

section
set_option Elab.async false
set_option linter.all false
set_option maxRecDepth 100000
namespace L2
open PySem PySem.Spec PyProof.Rows
def tx (l : List Nat) : Str:=⟨l.toArray⟩
theorem tx_len (l : List Nat) : (tx l).length = l.length:=by show l.toArray.size = _;simp
theorem tx_append (a b : List Nat) : tx a ++ tx b = tx (a ++ b):=by
 show (⟨a.toArray ++ b.toArray⟩ : Str) = ⟨(a ++ b).toArray⟩
 simp
theorem tx_inj {a b : List Nat} (h : tx a = tx b) : a = b:=by
 have h2 : a.toArray = b.toArray:=congrArg Str.cps h
 simpa using h2
theorem tx_slice_to {l : List Nat} {i : Int} (h0 : 0 <= i) (h1 : i <= l.length) : Txt.slice (tx l) none (some i) = tx (l.take i.toNat):=by
 have h:=eq_of_beq (slice_closes_to (x:=tx l) (j:=i) ⟨h0,by simpa [tx] using h1⟩)
 rw [h]
 simp [tx]
theorem tx_slice_from {l : List Nat} {i : Int} (h0 : 0 <= i) (h1 : i <= l.length) : Txt.slice (tx l) (some i) none = tx (l.drop i.toNat):=by
 have h:=eq_of_beq (slice_closes_from (x:=tx l) (i:=i) ⟨h0,by simpa [tx] using h1⟩)
 rw [h]
 have e : ((tx l).cps.toList.drop i.toNat).take (((tx l).cps.toList.length : Int) - i).toNat = l.drop i.toNat:=by
  rw [List.take_of_length_le]
  ·simp [tx]
  ·simp [tx]
   omega
 rw [e]
 rfl
theorem tx_join : ∀ l : List Nat,Txt.join ("" : Str) (l.map fun c=>tx [c]) = tx l:=by
 intro l
 rw [show Txt.join ("" : Str) (l.map fun c=>tx [c]) = Str.join ("" : Str) (l.map fun c=>tx [c]) from PySem.StrLaws.glued_eq_join _ _]
 induction l with
 | nil=>rfl
 | cons c l ih =>
  cases l with
  | nil=>rfl
  | cons d r =>
   have e0 : ("" : Str) = tx []:=by decide +kernel
   show tx [c] ++ ("" : Str) ++ Str.join ("" : Str) ((d :: r).map fun c=>tx [c]) = _
   rw [ih,e0,tx_append,tx_append]
   rfl
theorem map_len1 (l : List Nat) : ((l.map fun c=>tx [c]).map (·.length)).sum = l.length:=by
 induction l with
 | nil=>rfl
 | cons c l ih =>
  rw [List.map_cons,List.map_cons,List.sum_cons,ih,tx_len]
  simp
  omega
theorem cut_to {ds : List PyData} {i : Int} (h : 0 <= i) : cutD ds none (some i) = ds.take i.toNat:=by
 unfold cutD
 show (ds.drop 0).take ((if i < 0 then _ else min i.toNat ds.length) - 0) = _
 rw [if_neg (by omega),List.drop_zero,Nat.sub_zero]
 by_cases q : i.toNat <= ds.length
 ·rw [Nat.min_eq_left q]
 ·rw [Nat.min_eq_right (by omega),List.take_length,List.take_of_length_le (by omega)]
end L2
end

section
set_option Elab.async false
set_option linter.all false
set_option maxRecDepth 100000
namespace L2
open PySem PySem.Spec PyProof.Rows
def fmtV : V->Option Str
 | .str x=>if x.length <= 1000 then some x else none
 | .int i=>if i.natAbs.log2 < 1920 then some (toString i : String) else none
 | _=>none
def tFmt (te : TE) : TE:=fun σ H Q=>te σ H fun v H1=>∃ x,fmtV v = some x/\Q (.str x) H1
abbrev TJ:=St->Hp->Str->(Str->Hp->Prop)->Prop
def tJ0 : TJ:=fun _ H acc Q=>acc.length <= sizeLine/\Q acc H
def tJ1 (te : TE) (r : TJ) : TJ:=fun σ H acc Q=>te σ H fun v H1=>∃ y,v = .str y/\(acc ++ y).length <= sizeLine/\r σ H1 (acc ++ y) Q
def PJ (X : Cx) (vs : List Expr) (t : TJ) : Prop := ∀ (pins : List (Addr × Obj)) (s : Shared) (σ : St) (H : Hp) (acc : Str) (Q : Str->Hp->Prop),Inv X pins σ H s->t σ H acc Q ->
 Joins (model X.prog X.w) X.A X.xe (evalEach vs X.env) acc (fun out s₁=>out.length <= sizeLine/\∃ H',Inv X pins σ H' s₁/\Q out H') s
section
variable {X : Cx} {e v₁ v₂ : Expr} {es rest : List Expr} {te : TE} {r : TJ} {pos : Pos}
theorem pj_nil : PJ X [] tJ0:=fun pins s σ H acc Q I h=>⟨h.1,H,I,h.2⟩
theorem pj_cons (he : PE X e te) (hr : PJ X es r) (h : evalEach (e :: es) X.env = eval e X.env :: evalEach es X.env:=by rfl) : PJ X (e :: es) (tJ1 te r):=fun pins s σ H acc Q I q=>by
 rw [h]
 refine thn (he pins s σ H _ I q) fun u s1 ⟨v,H1,I1,rv,y,ev,hl,q1⟩=>?_
 subst ev
 obtain ⟨tk,rfl⟩ : ∃ tk,u = Value.str y tk:=rv
 exact ⟨y,tk,rfl,hl,hr pins s1 σ H1 _ Q I1 q1⟩
def tJoin (r : TJ) : TE:=fun σ H Q=>r σ H Str.empty fun x H1=>Q (.str x) H1
theorem joins_mono {M : Model} {A : Around} {E : Value->Shared->Prop} {Q Q' : Str->Shared->Prop} (hq : ∀ out s,Q out s->Q' out s) : ∀ (l : List (Sem Value)) (acc : Str) (s : Shared),Joins M A E l acc Q s->Joins M A E l acc Q' s
 | [],acc,s,h=>hq _ _ h
 | _ :: l,acc,s,h=>thn h fun v s1 ⟨y,tk,ev,hl,z1⟩=>⟨y,tk,ev,hl,joins_mono hq l _ _ z1⟩
theorem pe_join (h : PJ X (v₁ :: v₂ :: rest) r) : PE X (.JoinedStr (v₁ :: v₂ :: rest) pos) (tJoin r):=fun pins s σ H Q I q =>
 wpAny_JoinedStr (joins_mono (fun out s1 ⟨hl,H',I',q'⟩=>⟨hl,V.str out,H',I'.tok _,⟨_,rfl⟩,q'⟩) _ _ _ (h pins s σ H Str.empty _ I q))
theorem pe_fmt (he : PE X e te) : PE X (.FormattedValue e (-1) none pos) (tFmt te):=fun pins s σ H Q I q=>by
 refine wpAny_FormattedValue_plain (thn (he pins s σ H _ I q) fun u s1 ⟨v,H1,I1,rv,x,ev,q1⟩=>?_)
 cases v with
 | str y =>
  obtain ⟨tk,rfl⟩ : ∃ tk,u = Value.str y tk:=rv
  have ev : (if y.length <= 1000 then some y else none) = some x:=ev
  split at ev
  ·rename_i hl
   cases ev
   refine wpAny_formatField_str ⟨V.str _,H1,I1,⟨_,rfl⟩,q1⟩ ⟨V.str _,H1,I1.tok _,⟨_,rfl⟩,q1⟩ (Nat.le_of_lt (small1000 hl))
  ·cases ev
 | int i =>
  obtain ⟨tk,rfl⟩ : ∃ tk,u = Value.int i tk:=rv
  have ev : (if i.natAbs.log2 < 1920 then some (Str.ofString (toString i)) else none) = some x:=ev
  split at ev
  ·rename_i hl
   cases ev
   exact wpAny_formatField_int hl ⟨V.str _,H1,I1.tok _,⟨_,rfl⟩,q1⟩
  ·cases ev
 | _=>cases ev
end
end L2
end

section
set_option Elab.async false
set_option linter.all false
set_option maxRecDepth 100000
namespace L2
open PySem PySem.Spec PyProof.Rows
open AutoSeq1 (wpAny_loadPart')
theorem Inv.turnedNew {X : Cx} {pins : List (Addr × Obj)} {σ : St} {H : Hp} {s : Shared} {h' : Heap} {t' : Nat} {fp : List Addr} {T : Addr} {xs : List V} {its : List Value} (I : Inv X pins σ H s) (hf : ∀ b ∈ fp,FpOk X pins H b) (k : ∀ b o,b ∉ fp->s.heap.get? b = some o->h'.get? b = some o)
  (hx : ∀ b ∈ fp,∃ o,h'.get? b = some o) (hT : s.heap.objs.size <= T) (ht : IsTup h' T its.toArray/\∃ o,h'.get? T = some o/\o.dict = none) (r : Vals xs its) (hl : xs.length <= sizeLine) : Inv X pins σ (upd H T (.tup xs)) { s with heap:=h',toks:=t' }:=by
 have fr : H T = none:=I.hok.fresh hT
 have nT : ∀ {b o},s.heap.get? b = some o->b ≠ T:=fun z y=>absurd (Heap.lt_size z) (Nat.not_lt.mpr (y ▸ hT))
 have kH : ∀ b u,H b = some u->upd H T (.tup xs) b = some u:=fun b u z=>by rw [upd_ne (fun y=>by rw [y,fr] at z;cases z)];exact z
 have nf : ∀ b u,H b = some u->b ∉ fp:=fun b u z y=>by rw [(hf b y).1] at z;cases z
 refine I.step (g':=s.gens) (d':=s.drawn) (ch:=fp) (fun b hb=>⟨(hf b hb).2.2.2.1,(hf b hb).2.1,(hf b hb).2.2.2.2.1,(hf b hb).2.2.2.2.2⟩) (fun b o _ _ hb z _=>k b o hb z) (fun b o _ _ hb z _=>⟨o.slots,k b o hb z⟩) (fun b o _ z n=>by rw [upd_ne (nT z)];exact n)
  (fun b o hb z=>⟨o,k b o hb z⟩) (fun b ys z=>kH b _ z) (fun b o u z=>kH b _ z) (fun b ps z=>⟨#[],by rw [kH b _ z];simp⟩) (fun m hn=>?_) (fun b u z=>?_) ⟨I.bare.1,Nat.le_refl _⟩
 ·obtain ⟨o,es,ep,ho,rr⟩:=hn
  exact ⟨o,es,ep,k _ o (fun y=>(hf _ y).2.1 rfl) ho,rr⟩
 ·by_cases hb : b = T
  ·subst hb
   rw [upd_same] at z
   cases z
   exact ⟨hl,its,r,ht⟩
  ·rw [upd_ne hb] at z
   refine (I.hok b u z).stay (fun c v hc y=>k c v (fun x=>?_) y) (fun c y=>kH c _ y) (fun c ys y=>kH c _ y)
   rcases hc with e | e
   ·rw [e] at x;exact nf b u z x
   ·exact nf c _ e x
section
variable {prog : Program} {w : World} {A : Around} {E : Value->Shared->Prop} {s : Shared}
theorem nextOf_titem {it l : Addr} {i : Nat} {items : Array Value} {x : Value} {Q : Value->Shared->Prop} (hit : s.heap.IsTupleIter it l i) (hl : s.heap.IsTuple l items) (hx : items[i]? = some x)
  (hQ : ∀ h',h'.IsTupleIter it l (i + 1)->Heap.SameBut it s.heap h'->Q x { s with heap:=h' }) : wpAny (model prog w) A (Builtin.SmallTypes.nextOf (.ref it)) Q E s:=by
 obtain ⟨o,ho,hc,hd⟩:=id hit
 obtain ⟨ol,hol,_,nl,hdl⟩:=hl
 unfold Builtin.SmallTypes.nextOf
 refine wpAny_bind (wpAny_callSpecial?_slot (name:=Str.ofString "__next__") hit.typeIs F.slot_tuple_iterator_next (wpAny_call_entry F.slot_tuple_iterator_next hit.typeIs F.entry_tuple_iterator_next ?_ (F.args_tuple_iterator_next_1 _)))
 show wpAny _ _ (field (.ref it) 0 >>= _) _ _ s
 refine wpAny_bind (wpAny_field ho hd (x:=.ref l) rfl ?_)
 show wpAny _ _ (if (Value.ref l == Value.none) = true then _ else _) _ _ s
 rw [if_neg (by simp)]
 show wpAny _ _ (field (.ref it) 1 >>= _) _ _ s
 refine wpAny_bind (wpAny_field ho hd (x:=.int i 0) rfl ?_)
 show wpAny _ _ (seqItems? (.ref l) >>= _) _ _ s
 refine wpAny_bind (wpAny_seqItems hol hdl ?_)
 simp only [Int.toNat_natCast,hx]
 refine wpAny_bind (wpAny_setField ho hd (by simp) (wpAny_pure ⟨x,rfl,wpAny_pure (hQ _ ⟨_,Heap.get?_update_self _ ho (Obj.isFreed_of_fields (Obj.data_mapFields hd _)),(Obj.cls_mapFields ..).trans hc,?_⟩ (Heap.SameBut.update ..))⟩))
 rw [Obj.data_mapFields hd];simp [rawInt]
theorem nextOf_tend {it l : Addr} {i : Nat} {items : Array Value} {Q : Value->Shared->Prop} (hh : A.handled = none) (hit : s.heap.IsTupleIter it l i) (hl : s.heap.IsTuple l items) (hx : items[i]? = none)
  (hE : ∀ h' e,Heap.ExtBut it s.heap h'->(∃ o,h'.get? e = some o/\o.cls = .type "StopIteration")->E (.ref e) { s with heap:=h' }) : wpAny (model prog w) A (Builtin.SmallTypes.nextOf (.ref it)) Q E s:=by
 obtain ⟨o,ho,hc,hd⟩:=id hit
 obtain ⟨ol,hol,_,nl,hdl⟩:=hl
 unfold Builtin.SmallTypes.nextOf
 refine wpAny_bind (wpAny_callSpecial?_slot (name:=Str.ofString "__next__") hit.typeIs F.slot_tuple_iterator_next (wpAny_call_entry F.slot_tuple_iterator_next hit.typeIs F.entry_tuple_iterator_next ?_ (F.args_tuple_iterator_next_1 _)))
 show wpAny _ _ (field (.ref it) 0 >>= _) _ _ s
 refine wpAny_bind (wpAny_field ho hd (x:=.ref l) rfl ?_)
 show wpAny _ _ (if (Value.ref l == Value.none) = true then _ else _) _ _ s
 rw [if_neg (by simp)]
 show wpAny _ _ (field (.ref it) 1 >>= _) _ _ s
 refine wpAny_bind (wpAny_field ho hd (x:=.int i 0) rfl ?_)
 show wpAny _ _ (seqItems? (.ref l) >>= _) _ _ s
 refine wpAny_bind (wpAny_seqItems hol hdl ?_)
 simp only [Int.toNat_natCast,hx]
 refine wpAny_bind (wpAny_rule (wpAny_bind (wpAny_setField ho hd (by simp) ?_)))
 show wpAny _ _ (newExc (.type "StopIteration") [] >>= _) _ _ _
 refine wpAny_bind ?_
 simp only [newExc,newTuple]
 refine wpAny_bind (wpAny_newObj_type (wpAny_bind (m:=firstArgMember _ _) (wpAny_of_eq (a:=Value.none) (by first | rfl | (simp only [firstArgMember];rfl)) (wpAny_newObj_type ?_ (by size_fits)))) (by size_fits))
 simp only [raiseNew]
 refine wpAny_bind (wpAny_handled ?_)
 rw [show A.in1.handled = none from hh]
 exact wpAny_bind (wpAny_pure (wpAny_throw (hE _ _ (((Heap.SameBut.update ..).extBut.push _).push _) ⟨_,Heap.get?_push_size _ rfl,rfl⟩)))
end
theorem _root_.PySem.Draws.tuple {prog : Program} {w : World} {A : Around} (hh : A.handled = none) (it l : Addr) (hne : l ≠ it) (items : Array Value) :
  Draws prog w A it [it,l] items.size (fun i v=>items[i]? = some v) (fun i h=>h.IsTupleIter it l i/\h.IsTuple l items) where
 live:=fun _ _ st=>let ⟨o,ho,_⟩:=st.1;⟨o,ho⟩
 frame:=fun _ _ _ st hk=>⟨st.1.at fun o e=>hk it (by simp) o e,st.2.at fun o e=>hk l (by simp) o e⟩
 item:=fun i s Q E hi st hQ=>nextOf_titem st.1 st.2 (x:=items[i]) (by simp [hi]) fun h' hit' hs'=>hQ _ h' s.toks (by simp [hi]) ⟨hit',st.2.extBut hs'.extBut hne⟩ hs'
 done:=fun s Q E st hE=>nextOf_tend hh st.1 st.2 (by simp) hE
section
variable {prog : Program} {w : World} {A : Around} {E : Value->Shared->Prop} {s : Shared}
end
section
variable {X : Cx} {elts : List Expr} {k : Nat} {tpos : Pos}
end
section
variable {prog : Program} {w : World} {A : Around} {E : Value->Shared->Prop} {s : Shared}
end
section
variable {X : Cx} {elts : List Expr} {k : Nat} {tpos : Pos}
end
end L2
end

section
set_option Elab.async false
set_option linter.all false
set_option maxRecDepth 100000
namespace L2
open PySem PySem.Spec PyProof.Rows PySem.Builtin PySem.Builtin.Str
section
variable {X : Cx}
end
end L2
end

section
set_option Elab.async false
set_option linter.all false
set_option maxRecDepth 100000
namespace L2
open PySem PySem.Spec PyProof.Rows
structure ZA (z TI TO i j : Addr) (fp gp : List Addr) : Prop where
 nd : [z,TI,TO,i,j].Nodup
 f : ∀ b ∈ fp,b ≠ z/\b ≠ TO/\b ≠ j/\b ≠ TI
 g : ∀ b ∈ gp,b ≠ z/\b ≠ TO/\b ≠ i/\b ≠ TI
theorem boot_zip : bootBuiltins ("zip" : Str) = some (.type "zip"):=by decide +kernel
section
variable {prog : Program} {w : World} {A : Around} {E : Value->Shared->Prop} {s : Shared} {z TI TO i j : Addr} {fp gp : List Addr} {n m k : Nat} {P R : Nat->Value->Prop} {St Su : Nat->Heap->Prop} {a b : Value}
theorem zip_turn {Q : Value->Shared->Prop} (Z : ZA z TI TO i j fp gp) (D : Draws prog w A i fp n P St) (G : Draws prog w A j gp m R Su) (hz : IsZip s.heap z TI TO .none) (hI : IsPair s.heap TI (.ref i) (.ref j)) (hO : IsPair s.heap TO a b) (h1 : St k s.heap) (h2 : Su k s.heap) (hk : k < n) (hm : k < m)
  (hQ : ∀ x y h' tk,P k x->R k y->IsZip h' z TI TO (rawInt s.heap.objs.size)->IsPair h' TI (.ref i) (.ref j)->IsPair h' TO x y->St (k + 1) h'->Su (k + 1) h'->IsPair h' s.heap.objs.size x y->(∀ c o,c ∉ [z,TO,i,j]->s.heap.get? c = some o->h'.get? c = some o)->Q (.ref s.heap.objs.size) { s with heap:=h',toks:=tk }) :
  wpAny (model prog w) A (Builtin.«zip.__next__» ⟨[.ref z],[]⟩) (fun fin s'=>∃ v,fin = .done (.ret v)/\Q v s') E s:=by
 have nd:=Z.nd
 simp only [List.nodup_cons,List.mem_cons,List.not_mem_nil,or_false,not_or,List.nodup_nil,and_true,not_false_eq_true] at nd
 obtain ⟨⟨nzI,nzO,nzi,nzj⟩,⟨nIO,nIi,nIj⟩,⟨nOi,nOj⟩,nij⟩:=nd
 obtain ⟨hp,g,d,t0,os⟩:=s
 show wpAny _ _ (field (.ref z) 2 >>= _) _ _ _
 refine wpAny_bind (wpAny_field hz rfl (x:=.bool false) rfl ?_)
 show wpAny _ _ (field (.ref z) 3 >>= _) _ _ _
 refine wpAny_bind (wpAny_field hz rfl (x:=.ref TI) rfl (wpAny_bind (wpAny_seqItems hI rfl ?_)))
 show wpAny _ _ (Builtin.SmallTypes.ownedTupleIsFree (.ref z) >>= _) _ _ _
 refine wpAny_bind ?_
 unfold Builtin.SmallTypes.ownedTupleIsFree
 refine wpAny_bind (wpAny_field hz rfl (x:=.none) rfl (wpAny_pure ?_))
 simp only [if_true]
 refine wpAny_bind (wpAny_rule (wpAny_bind (wpAny_field hz rfl (x:=.ref TO) rfl (wpAny_bind (wpAny_setField_rec hz (by simp) fun hA zA sA=>wpAny_bind ?_)))))
 replace zA : IsZip hA z TI TO .ellipsis:=zA
 replace sA : Heap.SameBut z hp hA:=sA
 simp only [List.zipIdx_cons,List.zipIdx_nil,List.forIn_cons,List.forIn_nil]
 refine wpAny_bind (wpAny_bind (wpAny_onRaise ?_))
 show wpAny _ _ (Builtin.SmallTypes.nextOf (.ref i) >>= _) _ _ _
 have h1A : St k hA:=D.frame _ _ _ h1 fun b hb o q=>(sA.2 b (Z.f b hb).1).trans q
 refine wpAny_bind (D.item k _ _ _ hk h1A fun x hB tB px h1B sB=>wpAny_pure ?_)
 replace sB : Heap.SameBut i hA hB:=sB
 have OB : IsPair hB TO a b:=(sB.2 _ nOi).trans ((sA.2 _ (Ne.symm nzO)).trans hO)
 refine wpAny_bind (wpAny_seqItems OB rfl (wpAny_bind (wpAny_updateSeq_pair (s:=⟨hB,g,d,tB,os⟩) OB fun hC OC sC=>wpAny_bind (wpAny_letGo (wpAny_pure ?_)))))
 replace OC : IsPair hC TO x b:=OC
 replace sC : Heap.SameBut TO hB hC:=sC
 refine wpAny_bind (wpAny_bind (wpAny_onRaise ?_))
 show wpAny _ _ (Builtin.SmallTypes.nextOf (.ref j) >>= _) _ _ _
 have h2C : Su k hC:=G.frame _ _ _ h2 fun b hb o q=>(sC.2 b (Z.g b hb).2.1).trans ((sB.2 b (Z.g b hb).2.2.1).trans ((sA.2 b (Z.g b hb).1).trans q))
 refine wpAny_bind (G.item k _ _ _ hm h2C fun y hD tD py h2D sD=>wpAny_pure ?_)
 replace sD : Heap.SameBut j hC hD:=sD
 have OD : IsPair hD TO x b:=(sD.2 _ nOj).trans OC
 refine wpAny_bind (wpAny_seqItems OD rfl (wpAny_bind (wpAny_updateSeq_pair (s:=⟨hD,g,d,tD,os⟩) OD fun hE OE sE=>wpAny_bind (wpAny_letGo (wpAny_pure (wpAny_pure ?_))))))
 replace OE : IsPair hE TO x y:=OE
 replace sE : Heap.SameBut TO hD hE:=sE
 refine wpAny_bind (wpAny_seqItems OE rfl (wpAny_bind (wpAny_newTuple ?_)))
 have sz : hE.objs.size = hp.objs.size:=by rw [sE.1,sD.1,sC.1,sB.1,sA.1]
 have zE : IsZip hE z TI TO .ellipsis:=(sE.2 _ nzO).trans ((sD.2 _ nzj).trans ((sC.2 _ nzO).trans ((sB.2 _ nzi).trans zA)))
 have kE : ∀ c o,c ∉ [z,TO,i,j]->hp.get? c = some o->hE.get? c = some o:=fun c o hc q=>by
  simp only [List.mem_cons,List.not_mem_nil,or_false,not_or] at hc
  exact (sE.2 _ hc.2.1).trans ((sD.2 _ hc.2.2.2).trans ((sC.2 _ hc.2.1).trans ((sB.2 _ hc.2.2.1).trans ((sA.2 _ hc.1).trans q))))
 have zlt : z < hE.objs.size:=Heap.lt_size zE
 have up1 : ∀ c o,hE.get? c = some o->(hE.push { cls:=.type "tuple",data:=.seq #[x,y] }).get? c = some o:=fun c o q=>Heap.get?_push_of_some _ q
 show wpAny _ _ (Builtin.SmallTypes.ownedTupleHandOut (.ref z) (.ref hE.objs.size) >>= _) _ _ _
 refine wpAny_bind ?_
 unfold Builtin.SmallTypes.ownedTupleHandOut
 refine wpAny_bind (wpAny_setField_rec (up1 _ _ zE) (by simp) fun hF zF sF=>?_)
 replace zF : IsZip hF z TI TO (rawInt hE.objs.size):=zF
 refine wpAny_setField_rec zF (by simp) fun hG zG sG=>?_
 replace zG : IsZip hG z TI TO (rawInt hE.objs.size):=zG
 have up : ∀ c o,c ≠ z->hE.get? c = some o->hG.get? c = some o:=fun c o hc q=>(sG.2 c hc).trans ((sF.2 c hc).trans (up1 c o q))
 have TG : IsPair hG hE.objs.size x y:=(sG.2 _ (Nat.ne_of_gt zlt)).trans ((sF.2 _ (Nat.ne_of_gt zlt)).trans (Heap.get?_push_size _ rfl))
 rw [sz] at zG TG
 refine wpAny_pure ⟨_,rfl,?_⟩
 show Q (.ref hE.objs.size) _
 rw [sz]
 have st1 : St (k + 1) hG:=D.frame _ _ _ h1B fun b hb o q=>up b o (Z.f b hb).1 ((sE.2 b (Z.f b hb).2.1).trans ((sD.2 b (Z.f b hb).2.2.1).trans ((sC.2 b (Z.f b hb).2.1).trans q)))
 have st2 : Su (k + 1) hG:=G.frame _ _ _ h2D fun b hb o q=>up b o (Z.g b hb).1 ((sE.2 b (Z.g b hb).2.1).trans q)
 refine hQ x y hG tD px py zG (up _ _ (Ne.symm nzI) (kE _ _ (by simp [Ne.symm nzI,nIO,nIi,nIj]) hI)) (up _ _ (Ne.symm nzO) OE) st1 st2 TG fun c o hc q=>up c o ?_ (kE c o hc q)
 intro h
 rw [h] at hc
 simp at hc
theorem zip_ends {Q : Option Value->Shared->Prop} (Z : ZA z TI TO i j fp gp) (D : Draws prog w A.in1 i fp n P St) (hz : IsZip s.heap z TI TO .none) (hI : IsPair s.heap TI (.ref i) (.ref j)) (h1 : St n s.heap)
  (hQ : ∀ h',(∀ c o,c ∉ [z,TO,i,j]->s.heap.get? c = some o->h'.get? c = some o)->Q none { s with heap:=h' }) : wpAny (model prog w) A (pyNext (.ref z)) Q E s:=by
 have nd:=Z.nd
 simp only [List.nodup_cons,List.mem_cons,List.not_mem_nil,or_false,not_or,List.nodup_nil,and_true,not_false_eq_true] at nd
 obtain ⟨⟨nzI,nzO,nzi,nzj⟩,⟨nIO,nIi,nIj⟩,⟨nOi,nOj⟩,nij⟩:=nd
 have hT : s.TypeIs (.ref z) "zip" := ⟨_,hz,rfl⟩
 obtain ⟨hp,g,d,t0,os⟩:=s
 unfold pyNext
 refine wpAny_bind (wpAny_attempt (wpAny_callSpecial?_slot (name:=Str.ofString "__next__") hT F.slot_zip_next (wpAny_call_entry F.slot_zip_next hT F.entry_zip_next ?_ (F.args_zip_next_1 _))))
 show wpAny _ _ (field (.ref z) 2 >>= _) _ _ _
 refine wpAny_bind (wpAny_field hz rfl (x:=.bool false) rfl ?_)
 show wpAny _ _ (field (.ref z) 3 >>= _) _ _ _
 refine wpAny_bind (wpAny_field hz rfl (x:=.ref TI) rfl (wpAny_bind (wpAny_seqItems hI rfl ?_)))
 show wpAny _ _ (Builtin.SmallTypes.ownedTupleIsFree (.ref z) >>= _) _ _ _
 refine wpAny_bind ?_
 unfold Builtin.SmallTypes.ownedTupleIsFree
 refine wpAny_bind (wpAny_field hz rfl (x:=.none) rfl (wpAny_pure ?_))
 simp only [if_true]
 refine wpAny_bind (wpAny_rule (wpAny_bind (wpAny_field hz rfl (x:=.ref TO) rfl (wpAny_bind (wpAny_setField_rec hz (by simp) fun hA zA sA=>wpAny_bind ?_)))))
 replace zA : IsZip hA z TI TO .ellipsis:=zA
 replace sA : Heap.SameBut z hp hA:=sA
 simp only [List.zipIdx_cons,List.zipIdx_nil,List.forIn_cons,List.forIn_nil]
 refine wpAny_bind (wpAny_bind (wpAny_onRaise ?_))
 show wpAny _ _ (Builtin.SmallTypes.nextOf (.ref i) >>= _) _ _ _
 have h1A : St n hA:=D.frame _ _ _ h1 fun b hb o q=>(sA.2 b (Z.f b hb).1).trans q
 refine wpAny_bind (D.done ⟨hA,g,d,t0,os⟩ _ _ h1A fun hB e sB ⟨oe,he,hce⟩=>?_)
 have zB : IsZip hB z TI TO .ellipsis:=sB _ _ nzi zA
 have nez : e ≠ z:=fun x=>by subst x;rw [zB] at he;cases he;simp at hce
 refine wpAny_setField_rec zB (by simp) fun hC _ sC=>?_
 replace sC : Heap.SameBut z hB hC:=sC
 refine wpAny_bind (wpAny_isInstance (T := "StopIteration") (b:=true) ⟨oe,(sC.2 _ nez).trans he,hce⟩ isSubtype_stop (wpAny_pure (hQ _ fun c o hc q=>?_)))
 simp only [List.mem_cons,List.not_mem_nil,or_false,not_or] at hc
 exact (sC.2 _ hc.1).trans (sB _ _ hc.2.2.1 ((sA.2 _ hc.1).trans q))
theorem pyNext_zip {Q : Option Value->Shared->Prop} (Z : ZA z TI TO i j fp gp) (D : Draws prog w A.in1 i fp n P St) (G : Draws prog w A.in1 j gp m R Su) (hz : IsZip s.heap z TI TO .none) (hI : IsPair s.heap TI (.ref i) (.ref j)) (hO : IsPair s.heap TO a b) (h1 : St k s.heap) (h2 : Su k s.heap) (hk : k < n) (hm : k < m)
  (hQ : ∀ x y h' tk,P k x->R k y->IsZip h' z TI TO (rawInt s.heap.objs.size)->IsPair h' TI (.ref i) (.ref j)->IsPair h' TO x y->St (k + 1) h'->Su (k + 1) h'->IsPair h' s.heap.objs.size x y->(∀ c o,c ∉ [z,TO,i,j]->s.heap.get? c = some o->h'.get? c = some o)->Q (some (.ref s.heap.objs.size)) { s with heap:=h',toks:=tk }) :
  wpAny (model prog w) A (pyNext (.ref z)) Q E s:=by
 have hT : s.TypeIs (.ref z) "zip" := ⟨_,hz,rfl⟩
 unfold pyNext
 exact wpAny_bind (wpAny_attempt (wpAny_callSpecial?_slot (name:=Str.ofString "__next__") hT F.slot_zip_next (wpAny_call_entry F.slot_zip_next hT F.entry_zip_next (zip_turn Z D G hz hI hO h1 h2 hk hm fun x y h' tk a1 a2 a3 a4 a5 a6 a7 a8 a9=>wpAny_pure (hQ x y h' tk a1 a2 a3 a4 a5 a6 a7 a8 a9)) (F.args_zip_next_1 _))))
end
end L2
end

section
set_option Elab.async false
set_option linter.all false
set_option maxRecDepth 100000
namespace L2
open PySem PySem.Spec PyProof.Rows
theorem fp_ne {X : Cx} {pins : List (Addr × Obj)} {σ : St} {H : Hp} {s : Shared} {a b : Addr} {xs : List V} (I : Inv X pins σ H s) (hf : FpOk X pins H b) (hq : SqT X.K H a xs) : a ≠ b:=by
 intro e
 subst e
 obtain ⟨f0,_,_,f3,_,_⟩:=hf
 rcases hq with (h | ⟨o,h⟩) | ⟨o,_,_,hk,_⟩
 ·rw [f0] at h;cases h
 ·rw [f0] at h;cases h
 ·have hb:=I.ok.mod.kin _ _ hk
  rcases f3 with z | z
  ·exact I.ok.noex _ _ hb z
  ·exact absurd (Nat.lt_of_lt_of_le (Heap.lt_size (I.ok.bs _ _ hb).1) z) (Nat.lt_irrefl _)
section
variable {prog : Program} {w : World} {A : Around} {E : Value->Shared->Prop} {s : Shared}
abbrev tiO (l : Addr) : Obj:={ cls:=.type "tuple_iterator",data:=.fields #[.ref l,.int 0 0] }
abbrev tpO (x y : Value) : Obj:={ cls:=.type "tuple",data:=.seq #[x,y] }
abbrev zpO (x y : Value) : Obj:={ cls:=.type "zip",data:=.fields #[.none,.bool false,.bool false,x,y] }
abbrev za (h : Heap) (l : Addr) : Heap:=h.push (tiO l)
abbrev zb (h : Heap) (l c : Addr) : Heap:=(za h l).push (tiO c)
abbrev zc (h : Heap) (l c : Addr) : Heap:=(zb h l c).push (tpO (.ref h.objs.size) (.ref (za h l).objs.size))
abbrev zd (h : Heap) (l c : Addr) : Heap:=(zc h l c).push (tpO .none .none)
abbrev ze (h : Heap) (l c : Addr) : Heap:=(zd h l c).push (zpO (.ref (zb h l c).objs.size) (.ref (zc h l c).objs.size))
theorem new_zipT (l c : Addr) (xs ys : Array Value) : Meets (Builtin.«zip.__new__» ⟨[.type "zip",.ref l,.ref c],[]⟩) (fun _ R s=>(s.heap.IsTuple l xs/\s.heap.IsTuple c ys)/\R (.ok (.ret (.ref (zd s.heap l c).objs.size))) { s with heap:=ze s.heap l c }) :=
 .of_wp fun prog w A R s h=>by
  obtain ⟨hp,g,d,tk,os⟩:=s;obtain ⟨⟨hl1,hl2⟩,h⟩:=h
  have hsub:=sub_zip
  have hL1 : Heap.IsTuple (Shared.heap ⟨hp,g,d,tk,os⟩) l xs:=hl1
  have hL2 : Heap.IsTuple (Shared.heap ⟨za hp l,g,d,tk,os⟩) c ys:=hl2.at fun o e=>Heap.get?_push_of_some _ e
  wp_walk using wpAny_pyIter_tuple hL1,wpAny_pyIter_tuple hL2
  exact ⟨_,rfl,h⟩
theorem call_zipT {l c : Addr} {xs ys : Array Value} {Q : Value->Shared->Prop} (h1 : s.heap.IsTuple l xs) (h2 : s.heap.IsTuple c ys)
  (h : ∀ h',IsZip h' (s.heap.objs.size + 4) (s.heap.objs.size + 2) (s.heap.objs.size + 3) .none->IsPair h' (s.heap.objs.size + 2) (.ref s.heap.objs.size) (.ref (s.heap.objs.size + 1))->IsPair h' (s.heap.objs.size + 3) .none .none ->
   h'.IsTupleIter s.heap.objs.size l 0->h'.IsTupleIter (s.heap.objs.size + 1) c 0->(∀ b o,s.heap.get? b = some o->h'.get? b = some o)->Q (.ref (s.heap.objs.size + 4)) { s with heap:=h' }) : wpAny (model prog w) A (call (.type "zip") [.ref l,.ref c]) Q E s:=by
 refine callType_new F.called_zip (by decide) (F.typeCall_zip_2 _ _) (F.newCall_zip_2 _ _) (fun obj=>F.args_object_init_3 obj _ _) F.entry_zip_new (new_zipT l c xs ys) ⟨⟨h1,h2⟩,?_⟩
 have z1 : (za s.heap l).objs.size = s.heap.objs.size + 1:=Heap.size_push ..
 have z2 : (zb s.heap l c).objs.size = s.heap.objs.size + 2:=(Heap.size_push ..).trans (congrArg (· + 1) z1)
 have z3 : (zc s.heap l c).objs.size = s.heap.objs.size + 3:=(Heap.size_push ..).trans (congrArg (· + 1) z2)
 have z4 : (zd s.heap l c).objs.size = s.heap.objs.size + 4:=(Heap.size_push ..).trans (congrArg (· + 1) z3)
 have up : ∀ {hh : Heap} {o o' : Obj} {b : Addr},hh.get? b = some o->(hh.push o').get? b = some o:=fun e=>Heap.get?_push_of_some _ e
 have p1 : (ze s.heap l c).get? s.heap.objs.size = some (tiO l):=up (up (up (up (Heap.get?_push_size _ rfl))))
 have p2 : (ze s.heap l c).get? (za s.heap l).objs.size = some (tiO c):=up (up (up (Heap.get?_push_size _ rfl)))
 have p3 : (ze s.heap l c).get? (zb s.heap l c).objs.size = some (tpO (.ref s.heap.objs.size) (.ref (za s.heap l).objs.size)):=up (up (Heap.get?_push_size _ rfl))
 have p4 : (ze s.heap l c).get? (zc s.heap l c).objs.size = some (tpO .none .none):=up (Heap.get?_push_size _ rfl)
 have p5 : (ze s.heap l c).get? (zd s.heap l c).objs.size = some (zpO (.ref (zb s.heap l c).objs.size) (.ref (zc s.heap l c).objs.size)):=Heap.get?_push_size _ rfl
 have pp:=fun b o (e : s.heap.get? b = some o)=>show (ze s.heap l c).get? b = some o from up (up (up (up (up e))))
 show _/\_
 generalize ze s.heap l c = hh at p1 p2 p3 p4 p5 pp ⊢
 rw [z1] at p2 p3
 rw [z2] at p3 p5
 rw [z3] at p4 p5
 rw [z4] at p5 ⊢
 exact ⟨⟨_,p5,rfl⟩,h _ p5 p3 p4 ⟨_,p1,rfl,rfl⟩ ⟨_,p2,rfl,rfl⟩ pp⟩
end
def Itz (K : PySem.W.Frag) (a c : Addr) : It :=
  ⟨fun k H => ∃ xs ys x y, SqT K H a xs ∧ SqT K H c ys ∧ xs[k]? = some x ∧ ys[k]? = some y,
   fun k H v H' => ∃ T x y, v = .ref T ∧ H T = none ∧ H' = upd H T (.tup [x, y]) ∧ (∀ xs, SqT K H a xs → xs[k]? = some x) ∧ (∀ ys, SqT K H c ys → ys[k]? = some y),
   fun k H => ∃ xs, SqT K H a xs ∧ xs.length = k⟩
theorem turn_zipT {P : Program} {w : World} {K : PySem.W.Frag} {elts : List Expr} {q} {pos : Pos} (a c z TI TO i j : Addr) (nd : [z,TI,TO,i,j].Nodup) :
  Turn P w K (.Tuple elts q pos) (Itz K a c) [z,TI,TO,i,j] z (fun k h=>IsZip h z TI TO .none/\IsPair h TI (.ref i) (.ref j)/\(∃ u v,IsPair h TO u v)/\h.IsTupleIter i a k/\h.IsTupleIter j c k) where
 mem:=by simp
 obj:=fun k h st b hb=>by
  obtain ⟨h1,h2,⟨u,v,h3⟩,⟨o4,h4,_,d4⟩,⟨o5,h5,_,d5⟩⟩:=st
  simp only [List.mem_cons,List.not_mem_nil,or_false] at hb
  rcases hb with rfl | rfl | rfl | rfl | rfl
  ·exact ⟨_,h1,fun v z=>by cases z⟩
  ·exact ⟨_,h2,fun v z=>by cases z⟩
  ·exact ⟨_,h3,fun v z=>by cases z⟩
  ·exact ⟨_,h4,fun v z=>by rw [d4] at z;cases z⟩
  ·exact ⟨_,h5,fun v z=>by rw [d5] at z;cases z⟩
 keep:=fun k h h' st kk=>by
  obtain ⟨h1,h2,⟨u,v,h3⟩,h4,h5⟩:=st
  exact ⟨kk _ (by simp) _ h1,kk _ (by simp) _ h2,⟨u,v,kk _ (by simp) _ h3⟩,h4.at fun o e=>kk i (by simp) o e,h5.at fun o e=>kk j (by simp) o e⟩
 item:=by
  intro X hP hw hK hc k pins s σ H E I hf st hg
  subst hP hw hK
  obtain ⟨xs,ys,x,y,hq1,hq2,hx,hy⟩:=hg
  obtain ⟨h1,h2,⟨u,v,h3⟩,h4,h5⟩:=st
  obtain ⟨its1,rv1,p1,_⟩:=I.tuple hq1
  obtain ⟨its2,rv2,p2,_⟩:=I.tuple hq2
  obtain ⟨u1,hu1,ru1⟩:=rv1.get hx
  obtain ⟨u2,hu2,ru2⟩:=rv2.get hy
  have na : ∀ b ∈ [z,TI,TO,i,j],a ≠ b:=fun b hb=>fp_ne I (hf b hb) hq1
  have nc : ∀ b ∈ [z,TI,TO,i,j],c ≠ b:=fun b hb=>fp_ne I (hf b hb) hq2
  have nd':=nd
  simp only [List.nodup_cons,List.mem_cons,List.not_mem_nil,or_false,not_or,List.nodup_nil,and_true,not_false_eq_true] at nd'
  obtain ⟨⟨nzI,nzO,nzi,nzj⟩,⟨nIO,nIi,nIj⟩,⟨nOi,nOj⟩,nij⟩:=nd'
  have Z : ZA z TI TO i j [i,a] [j,c]:=⟨nd,fun b hb=>by
   rcases List.mem_cons.mp hb with rfl | hb
   ·exact ⟨Ne.symm nzi,Ne.symm nOi,nij,Ne.symm nIi⟩
   ·rw [show b = a by simpa using hb];exact ⟨na z (by simp),na TO (by simp),na j (by simp),na TI (by simp)⟩,fun b hb=>by
   rcases List.mem_cons.mp hb with rfl | hb
   ·exact ⟨Ne.symm nzj,Ne.symm nOj,Ne.symm nij,Ne.symm nIj⟩
   ·rw [show b = c by simpa using hb];exact ⟨nc z (by simp),nc TO (by simp),nc i (by simp),nc TI (by simp)⟩⟩
  have D1:=Draws.tuple (prog:=X.prog) (w:=X.w) (A:=X.A.in1) (I.ok.hd hc) i a (na i (by simp)) its1.toArray
  have D2:=Draws.tuple (prog:=X.prog) (w:=X.w) (A:=X.A.in1) (I.ok.hd hc) j c (nc j (by simp)) its2.toArray
  refine pyNext_zip Z D1 D2 h1 h2 h3 ⟨h4,p1⟩ ⟨h5,p2⟩ (by rw [List.size_toArray];exact (List.getElem?_eq_some_iff.mp hu1).1) (by rw [List.size_toArray];exact (List.getElem?_eq_some_iff.mp hu2).1) fun v1 v2 h' tk e1 e2 a1 a2 a3 a4 a5 a6 a7=>?_
  have e1' : its1[k]? = some v1:=by simpa using e1
  have e2' : its2[k]? = some v2:=by simpa using e2
  rw [hu1] at e1'
  rw [hu2] at e2'
  cases e1'
  cases e2'
  refine ⟨_,rfl,wpAny_letOwnedTupleGo_zip (s:={ s with heap:=h',toks:=tk }) a1 fun h3' b1 sb=>?_⟩
  replace sb : Heap.SameBut z h' h3':=sb
  have lt : ∀ b ∈ [z,TI,TO,i,j],b < s.heap.objs.size:=fun b hb=>by
   obtain ⟨_,q4,_⟩:=id h4
   obtain ⟨_,q5,_⟩:=id h5
   simp only [List.mem_cons,List.not_mem_nil,or_false] at hb
   rcases hb with rfl | rfl | rfl | rfl | rfl
   ·exact Heap.lt_size h1
   ·exact Heap.lt_size h2
   ·exact Heap.lt_size h3
   ·exact Heap.lt_size q4
   ·exact Heap.lt_size q5
  have stn : IsZip h3' z TI TO .none/\IsPair h3' TI (.ref i) (.ref j)/\(∃ u v,IsPair h3' TO u v)/\h3'.IsTupleIter i a (k + 1)/\h3'.IsTupleIter j c (k + 1) :=
   ⟨b1,(sb.2 _ (Ne.symm nzI)).trans a2,⟨_,_,(sb.2 _ (Ne.symm nzO)).trans a3⟩,a4.1.at fun o e=>(sb.2 i (Ne.symm nzi)).trans e,a5.1.at fun o e=>(sb.2 j (Ne.symm nzj)).trans e⟩
  have J : Inv X pins σ (upd H s.heap.objs.size (.tup [x,y])) { s with heap:=h3',toks:=tk }:=by
   refine I.turnedNew (fp:=[z,TI,TO,i,j]) (its:=[u1,u2]) hf (fun b o hb q=>(sb.2 b (fun e=>hb (by simp [e]))).trans (a7 b o (fun e=>hb (by simp only [List.mem_cons,List.not_mem_nil,or_false] at e ⊢;rcases e with e | e | e | e <;> simp [e])) q)) (fun b hb=>?_) (Nat.le_refl _) ⟨⟨_,(sb.2 _ (Nat.ne_of_gt (lt z (by simp)))).trans a6,rfl,0,rfl⟩,_,(sb.2 _ (Nat.ne_of_gt (lt z (by simp)))).trans a6,rfl⟩ (.cons ru1 (.cons ru2 .nil)) (by show 2 <= sizeLine;decide)
   obtain ⟨t1,t2,⟨_,_,t3⟩,⟨_,t4,_⟩,⟨_,t5,_⟩⟩:=id stn
   simp only [List.mem_cons,List.not_mem_nil,or_false] at hb
   rcases hb with rfl | rfl | rfl | rfl | rfl
   ·exact ⟨_,t1⟩
   ·exact ⟨_,t2⟩
   ·exact ⟨_,t3⟩
   ·exact ⟨_,t4⟩
   ·exact ⟨_,t5⟩
  refine ⟨.ref s.heap.objs.size,upd H s.heap.objs.size (.tup [x,y]),J,rfl,⟨_,x,y,rfl,I.hok.fresh (Nat.le_refl _),rfl,fun zs hz=>by rw [I.tuple_inj hz hq1];exact hx,fun zs hz=>by rw [I.tuple_inj hz hq2];exact hy⟩,stn,fun b hb=>?_⟩
  rw [upd_ne (Nat.ne_of_lt (lt b hb))]
  exact (hf b hb).1
 done:=by
  intro X hP hw hK hc k pins s σ H E I hf st hg
  subst hP hw hK
  obtain ⟨xs,hq1,hl⟩:=hg
  obtain ⟨h1,h2,⟨u,v,h3⟩,h4,h5⟩:=st
  obtain ⟨its1,rv1,p1,_⟩:=I.tuple hq1
  have na : ∀ b ∈ [z,TI,TO,i,j],a ≠ b:=fun b hb=>fp_ne I (hf b hb) hq1
  have nd':=nd
  simp only [List.nodup_cons,List.mem_cons,List.not_mem_nil,or_false,not_or,List.nodup_nil,and_true,not_false_eq_true] at nd'
  obtain ⟨⟨nzI,nzO,nzi,nzj⟩,⟨nIO,nIi,nIj⟩,⟨nOi,nOj⟩,nij⟩:=nd'
  have Z : ZA z TI TO i j [i,a] []:=⟨nd,fun b hb=>by
   rcases List.mem_cons.mp hb with rfl | hb
   ·exact ⟨Ne.symm nzi,Ne.symm nOi,nij,Ne.symm nIi⟩
   ·rw [show b = a by simpa using hb];exact ⟨na z (by simp),na TO (by simp),na j (by simp),na TI (by simp)⟩,fun b hb=>nomatch hb⟩
  have D1:=Draws.tuple (prog:=X.prog) (w:=X.w) (A:=X.A.in1) (I.ok.hd hc) i a (na i (by simp)) its1.toArray
  have hk : its1.toArray.size = k:=by rw [List.size_toArray,<- rv1.length];exact hl
  refine zip_ends Z D1 h1 h2 ⟨by rw [hk];exact h4,p1⟩ fun h' kk=>⟨rfl,?_⟩
  refine I.step (g':=s.gens) (d':=s.drawn) (t':=s.toks) (ch:=[z,TO,i,j]) (fun b hb=>?_) (fun b o _ _ hb q _=>kk b o hb q) (fun b o _ _ hb q _=>⟨o.slots,kk b o hb q⟩) (fun _ _ _ _ n=>n) (fun b o hb q=>⟨o,kk b o hb q⟩) (fun _ _ e=>e) (fun _ _ _ e=>e) (fun b ps e=>⟨#[],by rw [e];simp⟩) (fun m hn=>?_) (fun b u q=>?_) ⟨I.bare.1,Nat.le_refl _⟩
  ·have hb' : b ∈ [z,TI,TO,i,j]:=by simp only [List.mem_cons,List.not_mem_nil,or_false] at hb ⊢;rcases hb with e | e | e | e <;> simp [e]
   obtain ⟨f0,f1,f2,f3,f4,f5⟩:=hf b hb'
   exact ⟨f3,f1,f4,f5⟩
  ·obtain ⟨o,es,ep,ho,r⟩:=hn
   refine ⟨o,es,ep,kk _ o (fun hb=>?_) ho,r⟩
   have hb' : X.env.locals ∈ [z,TI,TO,i,j]:=by simp only [List.mem_cons,List.not_mem_nil,or_false] at hb ⊢;rcases hb with e | e | e | e <;> simp [e]
   exact (hf _ hb').2.1 rfl
  ·refine (I.hok b u q).stay (fun c' v' hc' y=>kk c' v' (fun hb=>?_) y) (fun _ y=>y) fun _ _ y=>y
   have hb' : c' ∈ [z,TI,TO,i,j]:=by simp only [List.mem_cons,List.not_mem_nil,or_false] at hb ⊢;rcases hb with e | e | e | e <;> simp [e]
   have:=(hf _ hb').1
   rcases hc' with e | e
   ·rw [e] at this;rw [this] at q;cases q
   ·rw [this] at e;cases e
 self:=fun _ _ _ _ _ st h=>wpAny_pyIter_zip st.1 h
section
variable {X : Cx} {elts : List Expr} {q : Nat} {tpos : Pos}
def iZip (K : PySem.W.Frag) (ta : TA) : TI:=fun σ H R=>ta σ H fun vs H1=>∃ a c,vs = [.ref a,.ref c]/\(∃ xs,SqT K H1 a xs)/\(∃ ys,SqT K H1 c ys)/\R (Itz K a c) H1
theorem pi_zip {l m : Expr} {ta : TA} {p pos : Pos} (hg : Gl X "zip") (hm : X.mg "zip" = none) (ha : PA X [l,m] ta) (hs : starEach [l,m] X.env = (false,eval l X.env) :: starEach [m] X.env:=by rfl) (hs2 : (backTo pos (starEach [m] X.env)).any (·.1) = false:=by rfl) : PI X (.Tuple elts q tpos) (.Call (.Name "zip" p) [l,m] [] pos) (iZip X.K ta):=by
 intro pins s σ H R I h
 refine Call_ (ld_blt I hg hm boot_zip (PyProof.Rows.callWith_type1 (thn (ha pos pins s σ H _ I h) fun us s1 ⟨vs,H1,I1,r1,q1⟩=>?_) hs hs2))
 obtain ⟨a,c,e,⟨xs,hq1⟩,⟨ys,hq2⟩,qq⟩:=q1
 subst e
 cases r1 with
 | cons r rr =>
  cases rr with
  | cons r' rr' =>
   cases rr'
   cases r
   cases r'
   obtain ⟨its1,rv1,p1,_⟩:=I1.tuple hq1
   obtain ⟨its2,rv2,p2,_⟩:=I1.tuple hq2
   refine call_zipT (s:=s1) (show s1.heap.IsTuple a its1.toArray from p1) (show s1.heap.IsTuple c its2.toArray from p2) fun h' h1 h2 h3 h4 h5 kp=>wpAny_pyIter_zip (s:={ s1 with heap:=h' }) h1 ?_
   refine ⟨s1.heap.objs.size + 4,[s1.heap.objs.size + 4,s1.heap.objs.size + 2,s1.heap.objs.size + 3,s1.heap.objs.size,s1.heap.objs.size + 1],_,_,H1,rfl,I1.kept (t':=s1.toks) kp,turn_zipT a c _ _ _ _ _ (by simp <;> omega),⟨h1,h2,⟨_,_,h3⟩,h4,h5⟩,fun b hb=>?_,qq⟩
   have : s1.heap.objs.size <= b:=by
    simp only [List.mem_cons,List.not_mem_nil,or_false] at hb
    rcases hb with rfl | rfl | rfl | rfl | rfl <;> omega
   exact I1.fpOk this (I1.hok.fresh this)
end
end L2
end

section
set_option Elab.async false
set_option linter.all false
set_option maxRecDepth 100000
namespace L2
open PySem PySem.Spec PyProof.Rows
section
variable {X : Cx} {e : Expr} {es : List Expr} {te : TE} {t : TA} {p pos : Pos}
end
theorem pg_tupK {X : Cx} {K : PySem.W.Frag} {es : List Expr} {k : Nat} {t : TGs} {n : Nat} {pos : Pos} (hK : X.K = K) (hc : X.calm = true) (h : PGs X es t)
  (hn : (assignEach es X.env).length = n:=by rfl) (hst : (assignEach es X.env).findIdx? (·.1) = none:=by rfl) : PG X (.Tuple es k pos) (gTup K n t):=by
 subst hK
 exact pg_tup hc h hn hst
theorem lcomp_zip {K : PySem.W.Frag} {a c : Addr} {xs ys : List V} {g : TG} {te : TE} {σc : St} {H : Hp} {Q : VK} (hlen : ys.length = xs.length) (Pv : Nat->List V->Hp->Prop) (h0 : Pv 0 [] H) (hok : ∀ i vs H,Pv i vs H->SqT K H a xs/\SqT K H c ys)
  (step : ∀ i x y T vs H,xs[i]? = some x->ys[i]? = some y->i < xs.length->Pv i vs H->H T = none->g (.ref T) σc (upd H T (.tup [x,y])) fun σ2 H2=>te σ2 H2 fun v H4=>vs.length < sizeLine/\Nx xs.length i (Pv (i + 1) (vs ++ [v]) H4))
  (fin : ∀ vs H,Pv xs.length vs H->∀ p,H p = none->Q (.ref p) (upd H p (.lst vs))) : LComp (Itz K a c) g tYes te σc Q H:=by
 refine ⟨fun i m vs H=>m = xs.length - i/\i <= xs.length/\Pv i vs H,⟨xs.length,by simp,Nat.zero_le _,h0⟩,?_⟩
 rintro i m vs H ⟨rfl,hi,p⟩
 obtain ⟨o1,o2⟩:=hok i vs H p
 by_cases hlt : i < xs.length
 ·have hlt' : i < ys.length:=by omega
  refine .inr ⟨⟨xs,ys,xs[i],ys[i],o1,o2,by simp [hlt],by simp [hlt']⟩,fun v H' yy=>?_⟩
  obtain ⟨T,x,y,rfl,hT,rfl,y1,y2⟩:=yy
  have e : (fun (σ2 : St) (H2 : Hp)=>tYes σ2 H2 fun b H3=>if b = true then te σ2 H3 fun v H4=>vs.length < sizeLine/\∃ m',m' < xs.length - i/\(m' = xs.length - (i + 1)/\i + 1 <= xs.length/\Pv (i + 1) (vs ++ [v]) H4) else ∃ m',m' < xs.length - i/\(m' = xs.length - (i + 1)/\i + 1 <= xs.length/\Pv (i + 1) vs H3)) =
    fun σ2 H2=>te σ2 H2 fun v H4=>vs.length < sizeLine/\Nx xs.length i (Pv (i + 1) (vs ++ [v]) H4):=by
   funext σ2 H2
   unfold tYes
   dsimp only
   rw [if_pos rfl]
   rfl
  rw [e]
  exact step i x y T vs H (y1 xs o1) (y2 ys o2) hlt p hT
 ·have e : i = xs.length:=by omega
  subst e
  exact .inl ⟨⟨xs,o1,rfl⟩,fin vs H p⟩
end L2
end

section
set_option Elab.async false
set_option linter.all false
set_option maxRecDepth 100000
namespace L2
open PySem PySem.Spec PyProof.Rows
end L2
end

section
set_option Elab.async false
set_option linter.all false
set_option maxRecDepth 100000
namespace L2
open PySem PySem.Spec PyProof.Rows
def TrX (h : Heap) (e : Addr) (o : Obj) (T : Addr) (fl : Value) : Prop :=
 ∃ vs oT ts,h.get? e = some { o with data:=.fields vs }/\(vs[1]? : Option Value) = some (.ref T)/\T ≠ e/\h.get? T = some oT/\oT.data = .fields ts/\(ts[3]? : Option Value) = some fl
structure Fk (ch fs : List Addr) (h h' : Heap) : Prop where
 keep : ∀ b o,b ∉ ch->b ∉ fs->h.get? b = some o->h'.get? b = some o
 slot : ∀ b o,b ∉ ch->h.get? b = some o->∃ sl,h'.get? b = some { o with slots:=sl }
 size : h.objs.size <= h'.objs.size
theorem Fk.of_same {a : Addr} {fs : List Addr} {h h' : Heap} (x : Heap.SameBut a h h') : Fk [a] fs h h' :=
 ⟨fun b o hb _ e=>(x.2 b (by simpa using hb)).trans e,fun b o hb e=>⟨o.slots,(x.2 b (by simpa using hb)).trans e⟩,Nat.le_of_eq x.1.symm⟩
theorem Fk.trans {ch ch' fs : List Addr} {h h1 h2 : Heap} (x : Fk ch fs h h1) (y : Fk ch' fs h1 h2) : Fk (ch ++ ch') fs h h2 :=
  ⟨fun b o hb hf e => y.keep b o (fun z => hb (by simp [z])) hf (x.keep b o (fun z => hb (by simp [z])) hf e),
   fun b o hb e => by
    obtain ⟨sl, e1⟩ := x.slot b o (fun z => hb (by simp [z])) e
    obtain ⟨sl2, e2⟩ := y.slot b _ (fun z => hb (by simp [z])) e1
    exact ⟨sl2, e2⟩, Nat.le_trans x.size y.size⟩
theorem Fk.mono {ch ch' fs : List Addr} {h h' : Heap} (x : Fk ch fs h h') (hc : ∀ b ∈ ch,b ∈ ch') : Fk ch' fs h h' :=
 ⟨fun b o hb hf e=>x.keep b o (fun z=>hb (hc b z)) hf e,fun b o hb e=>x.slot b o (fun z=>hb (hc b z)) e,x.size⟩
section
variable {M : Model} {A : Around} {E : Value->Shared->Prop} {s : Shared} {Q : Unit->Shared->Prop}
theorem setF {a : Addr} {o : Obj} {vs : Array Value} {i : Nat} {x : Value} (ho : s.heap.get? a = some { o with data:=.fields vs }) (hi : i < vs.size)
  (h : ∀ h',h'.get? a = some { o with data:=.fields (vs.setIfInBounds i x) }->Heap.SameBut a s.heap h'->Q () { s with heap:=h' }) : wpAny M A (setField (.ref a) i x) Q E s:=by
 refine wpAny_setField ho rfl hi (h _ ?_ (Heap.SameBut.update ..))
 exact Heap.get?_update_self _ ho rfl
variable {base : Heap} {env : Env} {outer : List Env} {L e T : Addr} {o : Obj} {vs : Array Value} {head fl : Value} {hadNext : Bool}
theorem entryX (hfr : A.frames = some (env :: outer)) (hl : s.heap.FunFrames base (env :: outer)) (hf : env.frame = some L) (he : s.heap.get? e = some { o with data := .fields vs }) (hsz : 1 < vs.size)
    (h : ∀ h' T, s.heap.objs.size ≤ T → TrX h' e o T (rawInt L) → Fk [e] (frs (env :: outer)) s.heap h' → Q () { s with heap := h' }) :
    wpAny M A (do let a ← frameOf env
                  let pl ← entryPlaceOf L hadNext
                  let b ← EntryCells.newEntry head a .none (rawInt L) .none pl
                  setField (.ref e) 1 b) Q E s := by
  have nfr : e ∉ frs (env :: outer) := fun z => by
    obtain ⟨_, ob, hob, nf⟩ := hl.mem z
    rw [he] at hob
    cases hob
    exact nf vs rfl
  refine wpAny_bind (wpAny_frameOf_fun hfr hl hf fun h1 ⟨z1, z2, z3⟩ => wpAny_bind (wpAny_entryPlaceOf fun pl hpl => ?_))
  unfold EntryCells.newEntry newFields
  refine wpAny_bind (wpAny_newObj_type ?_ (hpl.sizeOk5 _ _ _ _ _))
  have e1 : h1.get? e = some { o with data := .fields vs } := (z2 e nfr).trans he
  refine setF (o := o) (Heap.get?_push_of_some _ e1) hsz fun h2 e2 sb => h h2 h1.objs.size (Nat.le_of_eq z1.symm) ?_ ?_
  · have nT : h1.objs.size ≠ e := Nat.ne_of_gt (Heap.lt_size e1)
    refine ⟨_, _, _, e2, by simp [hsz], nT, (sb.2 _ nT).trans (Heap.get?_push_size h1 rfl), rfl, ?_⟩
    first | (simp; done) | (rcases hpl with rfl | ⟨_, _, _, _, _, _, _, rfl⟩ <;> simp)
  · refine ⟨fun b ob hb hfb eb => ?_, fun b ob hb eb => ?_, ?_⟩
    · exact (sb.2 b (by simpa using hb)).trans (Heap.get?_push_of_some _ ((z2 b hfb).trans eb))
    · obtain ⟨sl, q⟩ := z3 b ob eb
      exact ⟨sl, (sb.2 b (by simpa using hb)).trans (Heap.get?_push_of_some _ q)⟩
    · rw [sb.1, Heap.size_push, z1]
      exact Nat.le_succ _
theorem landX (ht : TrX s.heap e o T fl) {fs : List Addr} (h : ∀ h',TrX h' e o T .none->Fk [T] fs s.heap h'->Q () { s with heap:=h' }) : wpAny M A (setFlight (.ref e) none) Q E s:=by
 obtain ⟨vs,oT,ts,he,h1,nT,hT,hd,h3⟩:=ht
 unfold setFlight
 refine wpAny_bind (wpAny_field he rfl h1 ?_)
 rw [if_pos (show (Value.ref T != Value.none) = true by simp)]
 obtain ⟨c,d,dt,sl⟩:=oT
 have hd' : dt = .fields ts:=hd
 subst hd'
 have h3' : 3 < ts.size:=(Array.getElem?_eq_some_iff.mp h3).1
 refine setF (o:=⟨c,d,.fields ts,sl⟩) hT h3' fun h' e' sb=>h h' ⟨vs,_,_,(sb.2 e (Ne.symm nT)).trans he,h1,nT,e',rfl,by simp [h3']⟩ (.of_same sb)
theorem note0 (hfr : A.frames = some (env :: outer)) (hl : s.heap.FunFrames base (env :: outer)) (hf : env.frame = some L) (he : s.heap.get? e = some { o with data:=.fields vs }) (h1 : (vs[1]? : Option Value) = some .none)
  (h : ∀ h' T,s.heap.objs.size <= T->TrX h' e o T (rawInt L)->Fk [e] (frs (env :: outer)) s.heap h'->Q () { s with heap:=h' }) : wpAny M A (noteFrame (.ref e) env) Q E s:=by
 unfold noteFrame
 simp only [hf]
 refine wpAny_bind (wpAny_field he rfl h1 ?_)
 rw [if_neg (by decide)]
 exact entryX hfr hl hf he (Array.getElem?_eq_some_iff.mp h1).1 h
theorem noteT (hfr : A.frames = some (env :: outer)) (hl : s.heap.FunFrames base (env :: outer)) (hf : env.frame = some L) (ht : TrX s.heap e o T .none)
  (h : ∀ h' T',s.heap.objs.size <= T'->TrX h' e o T' (rawInt L)->Fk [T,e] (frs (env :: outer)) s.heap h'->Q () { s with heap:=h' }) : wpAny M A (noteFrame (.ref e) env) Q E s:=by
 obtain ⟨vs,oT,ts,he,h1,nT,hT,hd,h3⟩:=ht
 unfold noteFrame
 simp only [hf]
 refine wpAny_bind (wpAny_field he rfl h1 ?_)
 rw [if_pos (show (Value.ref T != Value.none) = true by simp)]
 refine wpAny_bind (wpAny_field hT hd h3 ?_)
 rw [if_neg (show ¬ ((Value.none == rawInt L) = true) by simp [rawInt])]
 obtain ⟨c,d,dt,sl⟩:=oT
 have hd' : dt = .fields ts:=hd
 subst hd'
 have nF : T ∉ frs (env :: outer):=fun z=>by
  obtain ⟨_,ob,hob,nf⟩:=hl.mem z
  rw [hT] at hob
  cases hob
  exact nf ts rfl
 refine wpAny_bind (setF (o:=⟨c,d,.fields ts,sl⟩) hT (Array.getElem?_eq_some_iff.mp h3).1 fun h2 e2 sb=>?_)
 have k2 : Fk [T] (frs (env :: outer)) s.heap h2:=.of_same sb
 refine entryX (s:={ s with heap:=h2 }) (o:=o) (vs:=vs) hfr (hl.of_keeps fun b ob hb nf=>⟨ob,(sb.2 b fun z=>by subst z;rw [hT] at hb;cases hb;exact nf ts rfl).trans hb,rfl⟩) hf ((sb.2 e (Ne.symm nT)).trans he) (Array.getElem?_eq_some_iff.mp h1).1 fun h3 T' z1 z2 z3=>h h3 T' (by rw [<- sb.1];exact z1) z2 (k2.trans z3)
theorem leave0 (hfr : A.frames = some (env :: outer)) (hl : s.heap.FunFrames base (env :: outer)) (hf : env.frame = some L) (he : s.heap.get? e = some { o with data:=.fields vs }) (h1 : (vs[1]? : Option Value) = some .none)
  (h : ∀ h' T,s.heap.objs.size <= T->TrX h' e o T .none->Fk [e] (frs (env :: outer)) s.heap h'->Q () { s with heap:=h' }) : wpAny M A (leaving env (.ref e)) Q E s:=by
 unfold leaving
 refine wpAny_bind (note0 hfr hl hf he h1 fun h' T z1 z2 z3=>landX (fs:=frs (env :: outer)) z2 fun h2 y1 y2=>h h2 T z1 y1 ?_)
 have nT : ∀ b ob,s.heap.get? b = some ob->b ≠ T:=fun b ob q z=>absurd (Heap.lt_size q) (Nat.not_lt.mpr (z ▸ z1))
 exact ⟨fun b ob hb hfb q=>y2.keep b ob (by simpa using nT b ob q) hfb (z3.keep b ob hb hfb q),fun b ob hb q=>by
  obtain ⟨sl,q1⟩:=z3.slot b ob hb q
  obtain ⟨sl2,q2⟩:=y2.slot b _ (by simpa using nT b ob q) q1
  exact ⟨sl2,q2⟩,Nat.le_trans z3.size y2.size⟩
theorem leaveT (hfr : A.frames = some (env :: outer)) (hl : s.heap.FunFrames base (env :: outer)) (hf : env.frame = some L) (ht : TrX s.heap e o T .none)
  (h : ∀ h' T',s.heap.objs.size <= T'->TrX h' e o T' .none->Fk [T,e] (frs (env :: outer)) s.heap h'->Q () { s with heap:=h' }) : wpAny M A (leaving env (.ref e)) Q E s:=by
 unfold leaving
 refine wpAny_bind (noteT hfr hl hf ht fun h' T' z1 z2 z3=>landX (fs:=frs (env :: outer)) z2 fun h2 y1 y2=>h h2 T' z1 y1 ?_)
 have nT : ∀ b ob,s.heap.get? b = some ob->b ≠ T':=fun b ob q z=>absurd (Heap.lt_size q) (Nat.not_lt.mpr (z ▸ z1))
 exact ⟨fun b ob hb hfb q=>y2.keep b ob (by simpa using nT b ob q) hfb (z3.keep b ob hb hfb q),fun b ob hb q=>by
  obtain ⟨sl,q1⟩:=z3.slot b ob hb q
  obtain ⟨sl2,q2⟩:=y2.slot b _ (by simpa using nT b ob q) q1
  exact ⟨sl2,q2⟩,Nat.le_trans z3.size y2.size⟩
end
def excObj (C : Addr) (d : Option Addr) (vs : Array Value) : Obj:={ cls:=.ref C,dict:=d,data:=.fields vs }
def excO (e C : Addr) (d : Option Addr) : HO:=.ext fun h=>∃ vs,h.get? e = some (excObj C d vs)
def excN (e C : Addr) (d : Option Addr) : HO:=.ext fun h=>∃ vs,h.get? e = some (excObj C d vs)/\(vs[1]? : Option Value) = some .none
section
variable {P : Program} {w : World} {H H' : Hp} {h h' : Heap} {e C : Addr} {d : Option Addr}
theorem excO.ok {vs : Array Value} (q : h.get? e = some (excObj C d vs)) : ObjOk P w H h e (excO e C d):=⟨⟨vs,q⟩,⟨_,q⟩,fun _ _ ⟨us,z⟩ k=>⟨us,k _ z⟩⟩
theorem excN.ok {vs : Array Value} (q : h.get? e = some (excObj C d vs)) (q1 : (vs[1]? : Option Value) = some .none) : ObjOk P w H h e (excN e C d):=⟨⟨vs,q,q1⟩,⟨_,q⟩,fun _ _ ⟨us,z,y⟩ k=>⟨us,k _ z,y⟩⟩
theorem HOk.exc (k : HOk P w H h) (q : H e = some (excO e C d)) : ∃ vs,h.get? e = some (excObj C d vs):=(k e _ q).1
theorem HOk.exn (k : HOk P w H h) (q : H e = some (excN e C d)) : ∃ vs,h.get? e = some (excObj C d vs)/\(vs[1]? : Option Value) = some .none:=(k e _ q).1
theorem HOk.fly {ch fs : List Addr} {u : HO} (k : HOk P w H h) (f : Fk ch fs h h') (hc : ∀ b ∈ ch,b = e\/H b = none) (hf : ∀ b ∈ fs,H b = none) (hm : Mut (H e)) (new : ObjOk P w (upd H e u) h' e u) : HOk P w (upd H e u) h':=fun b ob q=>by
 by_cases hb : b = e
 ·subst hb
  rw [upd_same] at q
  cases q
  exact new
 ·rw [upd_ne hb] at q
  refine (k b ob q).stay (fun c v hcb z=>f.keep c v (fun y=>?_) (fun y=>?_) z) (fun c z=>?_) (fun c xs z=>?_)
  ·rcases hc c y with rfl | n
   ·rcases hcb with rfl | n
    ·exact hb rfl
    ·rw [n] at hm;exact hm
   ·rcases hcb with rfl | n'
    ·rw [n] at q;cases q
    ·rw [n] at n';cases n'
  ·have n:=hf c y
   rcases hcb with rfl | n'
   ·rw [n] at q;cases q
   ·rw [n] at n';cases n'
  ·rw [upd_ne (fun y=>by subst y;rw [z] at hm;exact hm)];exact z
  ·rw [upd_ne (fun y=>by subst y;rw [z] at hm;exact hm)];exact z
end
end L2
end

section
set_option Elab.async false
set_option linter.all false
set_option maxRecDepth 100000
namespace L2
open PySem PySem.Spec PyProof.Rows
theorem upd_self {H : Hp} {a : Addr} {o : HO} (h : H a = some o) : upd H a o = H:=by
 funext b
 by_cases hb : b = a
 ·subst hb;rw [upd_same,h]
 ·rw [upd_ne hb]
def CXF (P : Program) (w : World) : CXT:=fun outer H s E ev s'=>∃ (e C : Addr) (d : Option Addr) (T : Addr) (H' : Hp),ev = .ref e/\s'.os = s.os/\GOk s.gens s'.gens/\Un (frs outer) [] H H' s.heap s'.heap/\HOk P w H' s'.heap /\
 s.heap.objs.size <= T/\H' T = none/\TrX s'.heap e (excObj C d #[]) T .none/\H' e = some (excO e C d)/\E (.ref e) d H'
theorem Un.fly {fs fs' ch : List Addr} {H H' : Hp} {h h1 h2 : Heap} {e : Addr} {u : HO} (x : Un fs [] H H' h h1) (f : Fk ch fs' h1 h2) (hm : Mut (H' e)) (he : ∃ o,h2.get? e = some o)
  (hc : ∀ b ∈ ch,b = e\/h.objs.size <= b) (hf : ∀ b ∈ fs',b ∈ fs\/h.objs.size <= b) : Un fs [] H (upd H' e u) h h2:=by
 have big : ∀ {b o},h.get? b = some o->¬ h.objs.size <= b:=fun q=>Nat.not_le.mpr (Heap.lt_size q)
 have ne : ∀ {b o},h.get? b = some o->H b = none->b ≠ e:=fun {b o} q n z=>by
  have:=x.free b o q n (by simp)
  rw [z] at this
  rw [this] at hm
  exact hm
 have nch : ∀ {b o},h.get? b = some o->b ≠ e->b ∉ ch:=fun {b o} q n z=>(hc b z).elim n (big q)
 refine ⟨fun b o q n hb _=>?_,fun b o q n hb _=>?_,fun b o q n _=>?_,fun b o q _=>?_,fun b xs q=>?_,fun b o v q=>?_,fun b ps q=>?_⟩
 ·exact f.keep b o (nch q (ne q n)) (fun z=>(hf b z).elim hb (big q)) (x.keep b o q n hb (by simp))
 ·obtain ⟨sl,q1⟩:=x.slot b o q n hb (by simp)
  obtain ⟨sl2,q2⟩:=f.slot b _ (nch q (ne q n)) q1
  exact ⟨sl2,q2⟩
 ·rw [upd_ne (ne q n)];exact x.free b o q n (by simp)
 ·by_cases hb : b = e
  ·rw [hb];exact he
  ·obtain ⟨o1,q1⟩:=x.there b o q (by simp)
   obtain ⟨sl2,q2⟩:=f.slot b _ (nch q hb) q1
   exact ⟨_,q2⟩
 ·have:=x.tups b xs q
  rw [upd_ne (fun z=>by rw [z] at this;rw [this] at hm;exact hm)];exact this
 ·have:=x.frzs b o v q
  rw [upd_ne (fun z=>by rw [z] at this;rw [this] at hm;exact hm)];exact this
 ·obtain ⟨more,this⟩:=x.tbls b ps q
  exact ⟨more,by rw [upd_ne (fun z=>by rw [z] at this;rw [this] at hm;exact hm)];exact this⟩
structure Fly (X : Cx) (pins : List (Addr × Obj)) (H : Hp) (s : Shared) (e C : Addr) (d : Option Addr) (T : Addr) : Prop where
 tr : TrX s.heap e (excObj C d #[]) T .none
 at_ : H e = some (excO e C d)
 big : X.s₀.heap.objs.size <= T
 free : H T = none
 loc : T ≠ X.env.locals
 cell : ∀ x c,X.env.cells.lookup x = some c->c ≠ T
 pin : ∀ p ∈ X.pn ++ pins,p.1 ≠ T
abbrev SK:=St->Addr->Addr->Option Addr->Hp->Prop
structure XeOk (X : Cx) (S : SK) : Prop where
 new : ∀ (pins : List (Addr × Obj)) (σ : St) (H : Hp) (s : Shared) (e C : Addr) (d : Option Addr),Inv X pins σ H s->H e = some (excN e C d)->S σ e C d (upd H e (excO e C d))->X.xe (.ref e) s
 fly : ∀ (pins : List (Addr × Obj)) (σ : St) (H : Hp) (s : Shared) (e C : Addr) (d : Option Addr) (T : Addr),Inv X pins σ H s->Fly X pins H s e C d T->S σ e C d H->X.xe (.ref e) s
section
variable {CX : CXT} {P : Program} {w : World} {K : PySem.W.Frag} {mg : Str->Option Value} {base : Heap} {N : List Str} {qual : Str} {scope : Scope} {f : Addr} {cdv : Value} {A : Around} {outer : List Env} {s₀ : Shared} {H₀ : Hp} {E : XK}
theorem xe_cx : XeOk (cxOf (CXF P w) P w K mg base N qual scope f cdv A outer s₀ H₀ E) (fun _ e _ d H=>E (.ref e) d H) where
 new:=fun pins σ H s e C d I he hS=>by
  obtain ⟨vs,q,q1⟩:=I.hok.exn he
  show wpAny _ _ (leaving _ _) _ _ _
  refine leave0 (base:=base) (o:=excObj C d #[]) (vs:=vs) I.ok.frames I.stack rfl q q1 fun h' T z1 z2 z3=>?_
  have hT : H T = none:=I.hok.fresh z1
  have hm : Mut (H e):=by rw [he];trivial
  obtain ⟨vs',_,_,q',_⟩:=id z2
  have neT : T ≠ e:=z2.elim fun _ ⟨_,_,_,_,n,_⟩=>n
  exact ⟨e,C,d,T,upd H e (excO e C d),rfl,I.os,I.bare,I.base.fly z3 hm ⟨_,q'⟩ (fun b hb=>.inl (by simpa using hb)) (fun b hb=>(List.mem_cons.mp (I.stkSub b hb)).elim (fun z=>.inr (z ▸ I.ok.above)) .inl),
   I.hok.fly z3 (fun b hb=>.inl (by simpa using hb)) I.stkFree hm (excO.ok q'),Nat.le_trans I.sz z1,by rw [upd_ne neT];exact hT,z2,upd_same,hS⟩
 fly:=fun pins σ H s e C d T I F hS=>by
  show wpAny _ _ (leaving _ _) _ _ _
  refine leaveT (base:=base) I.ok.frames I.stack rfl F.tr fun h' T' z1 z2 z3=>?_
  have hT : H T' = none:=I.hok.fresh z1
  have hm : Mut (H e):=by rw [F.at_];trivial
  obtain ⟨vs',_,_,q',_⟩:=id z2
  have u:=upd_self F.at_
  exact ⟨e,C,d,T',H,rfl,I.os,I.bare,u ▸ (I.base.fly (u:=excO e C d) z3 hm ⟨_,q'⟩ (fun b hb=>by
    rcases List.mem_cons.mp hb with rfl | hb
    ·exact .inr F.big
    ·exact .inl (by simpa using hb)) (fun b hb=>(List.mem_cons.mp (I.stkSub b hb)).elim (fun z=>.inr (z ▸ I.ok.above)) .inl)),
   u ▸ (I.hok.fly (u:=excO e C d) z3 (fun b hb=>by
    rcases List.mem_cons.mp hb with rfl | hb
    ·exact .inr F.free
    ·exact .inl (by simpa using hb)) I.stkFree hm (excO.ok q')),Nat.le_trans I.sz z1,hT,z2,F.at_,hS⟩
end
section
variable {X : Cx} {S : SK}
theorem XeOk.pass (hX : XeOk X S) {pins : List (Addr × Obj)} {σ : St} {H : Hp} {s : Shared} {ev : Value} {s' : Shared} (I : Inv X pins σ H s)
  (h : CXF X.prog X.w X.stack H s (fun v d H'=>∀ e C,v = .ref e->H' e = some (excO e C d)->S σ e C d H') ev s') : X.xe ev s':=by
 obtain ⟨e,C,d,T,H',rfl,os,g,un,hok,hT,hTn,tr,he,hE⟩:=h
 have I' : Inv X pins σ H' s':=I.call' (ch:=[]) os un hok g (by simp)
 refine hX.fly pins σ H' s' e C d T I' ⟨tr,he,Nat.le_trans I.sz hT,hTn,fun z=>?_,fun x c q z=>?_,fun p hp z=>?_⟩ (hE e C rfl he)
 ·exact absurd I.lt (Nat.not_lt.mpr (z ▸ hT))
 ·obtain ⟨v,o,ho,_⟩:=I.cell x c q
  exact absurd (Heap.lt_size ho) (Nat.not_lt.mpr (z ▸ hT))
 ·exact absurd (Heap.lt_size (I.pin p hp).1) (Nat.not_lt.mpr (z ▸ hT))
variable {k j : Nat} {f : Addr} {fd : FuncData} {ps : List Str} {sp : Sp} {x : Str} {p pos : Pos} {e : Expr} {es : List Expr} {t : TA}
def tCallX (sp : Sp) (S : SK) (t : TA) : TE:=fun σ H Q=>t σ H fun vs H1=>sp vs H1 Q fun v d H'=>∀ e C,v = .ref e->H' e = some (excO e C d)->S σ e C d H'
def CallOkX (P : Program) (w : World) (K : PySem.W.Frag) (mg : Str->Option Value) (base : Heap) (x : Str) (k : Nat) (ps : List Str) (sp : Sp) : Prop :=
 ∃ f fd,FnOk P w K mg base (CXF P w) k f fd ps sp/\mg x = some (.ref f)/\PySem.W.keepIn K (.ref f) = true/\Binds K fd ps []
theorem pe_clX (hX : XeOk X S) (C : CallOkX X.prog X.w X.K X.mg X.base x k ps sp) (hr : Room j X.A) (ha : PA X (e :: es) t) (hg : Gl X x:=by rfl) (hj : k <= j:=by decide) (hdb : (x == ("__debug__" : Str)) = false:=by decide)
  (he : starEach (e :: es) X.env = (false,eval e X.env) :: starEach es X.env:=by rfl) (hpl : (backTo pos (starEach es X.env)).any (·.1) = false:=by rfl) : PE X (.Call (.Name x p) (e :: es) [] pos) (tCallX sp S t):=by
 obtain ⟨f,fd,F,hm,hk,hb⟩:=C
 intro pins s σ H Q I h
 refine wpAny_Call_Name_kw (ld_glob I hg hm ?_ hdb)
 refine PySem.W.callWith_K (h₀:=X.base) I.ok.mod.kin hk (thn (ha pos pins s σ H _ I h) fun us s1 ⟨vs,H1,I1,r,q⟩=>⟨I1.kIn,?_⟩) he hpl
 have hl : us.length = ps.length:=by rw [<- r.length];exact F.len _ _ _ _ q
 have hb':=hb s1 us I1.kIn (by simpa using hl)
 rw [List.append_nil] at hb'
 refine wpAny_call (codeAny_mono (F.run X.A X.stack s1 H1 ⟨us,[]⟩ us vs Q _ (hr.mono hj) I1.env0 hb' r q) fun r s' hq=>?_)
 cases r with
 | error ev=>exact hX.pass I1 hq
 | ok fl =>
  cases fl with
  | ret u=>exact I1.after hq
  | next=>exact False.elim hq
  | brk=>exact False.elim hq
  | cont=>exact False.elim hq
end
section
variable {P : Program} {w : World} {K : PySem.W.Frag} {mg : Str->Option Value} {base : Heap}
theorem Fun.okX {x qual : Str} {st : Stmt} {f : Addr} {fd : FuncData} {N ps : List Str} {k : Nat} {sp : Sp} (F : Fun K x qual st f fd) (S : FnScope N ps (defScope st)) (len : ∀ vs H Q E,sp vs H Q E->vs.length = ps.length)
  (hbody : ∀ (cdv : Value) (A : Around) (outer : List Env) (s : Shared) (H : Hp) (vs : List V) (Q : VK) (E : XK),Room k (A.deeper (envOfC qual (defScope st) s.heap.objs.size f cdv))->sp vs H Q E ->
   ∃ t,PSs (cxOf (CXF P w) P w K mg base N qual (defScope st) f cdv A outer s H E) (defBody st) t/\t { nx:=fun _ H'=>Q .non H',rt:=Q } (start N vs) H) : FnOk P w K mg base (CXF P w) (k + 1) f fd ps sp:=by
 obtain ⟨oc,od,kV,doc,pm,an,cdv,ct,osl,rfl,lk,hcd⟩:=F.ex
 exact fn_of lk hcd S len fun A outer s H vs Q E hr hsp=>hbody cdv A outer s H vs Q E hr hsp
theorem CallOk.x {x : Str} {k : Nat} {ps : List Str} {sp : Sp} (C : CallOk P w K mg base x k ps sp) : CallOkX P w K mg base x k ps sp:=by
 obtain ⟨f,fd,F,r⟩:=C
 refine ⟨f,fd,⟨F.len,fun A outer s H args us vs Q E hr he hb hv hs=>codeAny_mono (F.run A outer s H args us vs Q E hr he hb hv hs) fun r s' q=>?_⟩,r⟩
 cases r with
 | error e=>exact q.elim
 | ok fl=>cases fl <;> exact q
end
end L2
end

section
set_option Elab.async false
set_option linter.all false
set_option maxRecDepth 100000
namespace L2
open PySem PySem.Spec PyProof.Rows
abbrev Cx.tr (X : Cx) (S : SK) (pins : List (Addr × Obj)) : Cx :=
 { X with pn:=X.pn ++ pins,xe:=fun ev s'=>∃ σ H e C d,ev = .ref e/\Inv X pins σ H s'/\(H e = some (excN e C d)\/∃ T,Fly X pins H s' e C d T)/\S σ e C d (upd H e (excO e C d)) }
abbrev Cx.hand (X : Cx) (e : Addr) : Cx:={ X with A:=X.A.mark (some (.ref e)),calm:=false,xe:=fun _ _=>False }
section
variable {X : Cx} {S : SK} {pins pins' : List (Addr × Obj)} {σ : St} {H : Hp} {s : Shared} {e : Addr}
theorem Inv.tr (I : Inv X pins σ H s) : Inv (X.tr S pins) [] σ H s :=
 ⟨⟨I.ok.mod,I.ok.kind,I.ok.glob,I.ok.blt,I.ok.above,I.ok.inj,I.ok.has,I.ok.cab,I.ok.hd,I.ok.frames,I.ok.stk,I.ok.exf,I.ok.bs,I.ok.bsz,I.ok.noex,I.ok.exfs,I.ok.funs,I.ok.frf⟩,I.os,I.bare,I.base,I.loc,I.cell,I.free,I.freeC,fun p hp=>I.pin p (by simpa using hp),I.hok,I.len⟩
theorem Inv.untr (I : Inv (X.tr S pins) pins' σ H s) : Inv X pins σ H s :=
 ⟨⟨I.ok.mod,I.ok.kind,I.ok.glob,I.ok.blt,I.ok.above,I.ok.inj,I.ok.has,I.ok.cab,I.ok.hd,I.ok.frames,I.ok.stk,I.ok.exf,I.ok.bs,I.ok.bsz,I.ok.noex,I.ok.exfs,I.ok.funs,I.ok.frf⟩,I.os,I.bare,I.base,I.loc,I.cell,I.free,I.freeC,fun p hp=>I.pin p (List.mem_append_left _ hp),I.hok,I.len⟩
theorem Inv.hand (I : Inv X pins σ H s) : Inv (X.hand e) pins σ H s :=
 ⟨⟨I.ok.mod,I.ok.kind,I.ok.glob,I.ok.blt,I.ok.above,I.ok.inj,I.ok.has,I.ok.cab,(fun z=>by cases z),I.ok.frames,I.ok.stk,I.ok.exf,I.ok.bs,I.ok.bsz,I.ok.noex,I.ok.exfs,I.ok.funs,I.ok.frf⟩,I.os,I.bare,I.base,I.loc,I.cell,I.free,I.freeC,I.pin,I.hok,I.len⟩
theorem Inv.unhand (ok : X.Ok) (I : Inv (X.hand e) pins σ H s) : Inv X pins σ H s :=
 ⟨ok,I.os,I.bare,I.base,I.loc,I.cell,I.free,I.freeC,I.pin,I.hok,I.len⟩
theorem SP.untr {D : Ends} {f : Flow} (h : SP (X.tr S pins) [] D f s) : SP X pins D f s:=by
 cases f with
 | next=>obtain ⟨σ',H',I,q⟩:=h;exact ⟨σ',H',I.untr,q⟩
 | brk=>obtain ⟨σ',H',I,q⟩:=h;exact ⟨σ',H',I.untr,q⟩
 | cont=>obtain ⟨σ',H',I,q⟩:=h;exact ⟨σ',H',I.untr,q⟩
 | ret u=>obtain ⟨v,σ',H',I,r,q⟩:=h;exact ⟨v,σ',H',I.untr,r,q⟩
theorem xe_tr : XeOk (X.tr S pins) S where
 new:=fun pins' σ H s e C d I he hS=>⟨σ,H,e,C,d,rfl,I.untr,.inl he,hS⟩
 fly:=fun pins' σ H s e C d T I F hS=>⟨σ,H,e,C,d,rfl,I.untr,.inr ⟨T,F.tr,F.at_,F.big,F.free,F.loc,F.cell,fun p hp=>F.pin p (List.mem_append_left _ hp)⟩,by rw [upd_self F.at_];exact hS⟩
theorem Inv.flew {ch : List Addr} {h' : Heap} {C : Addr} {d : Option Addr} {vs : Array Value} (I : Inv X pins σ H s) (f : Fk ch (frs X.stack) s.heap h') (hm : Mut (H e)) (q : h'.get? e = some (excObj C d vs))
  (hc : ∀ b ∈ ch,b = e\/(H b = none/\X.s₀.heap.objs.size <= b/\b ≠ X.env.locals/\(∀ x c,X.env.cells.lookup x = some c->c ≠ b)/\∀ p ∈ X.pn ++ pins,p.1 ≠ b)) :
  Inv X pins σ (upd H e (excO e C d)) { s with heap:=h' }:=by
 have nU : ∀ b,H b = none->b ≠ e:=fun b n z=>by rw [z] at n;rw [n] at hm;exact hm
 have nD : ∀ b,H b = none->b ∉ ch.filter (· != e)->b ∉ ch:=fun b n hb z=>hb (List.mem_filter.mpr ⟨z,by simpa using nU b n⟩)
 refine I.step (g':=s.gens) (d':=s.drawn) (t':=s.toks) (ch:=ch.filter (· != e)) (fun b hb=>?_) (fun b o hL hf hb q n=>f.keep b o (nD b n hb) (fun z=>(List.mem_cons.mp (I.stkSub b z)).elim hL hf) q)
  (fun b o _ _ hb q n=>f.slot b o (nD b n hb) q) (fun b o _ _ n=>by rw [upd_ne (nU b n)];exact n) (fun b o hb z=>?_) (fun b xs z=>?_) (fun b o u z=>?_) (fun b ps z=>?_) (fun m hn=>?_) (I.hok.fly f (fun b hb=>(hc b hb).imp id (·.1)) I.stkFree hm (excO.ok q)) ⟨I.bare.1,Nat.le_refl _⟩
 ·obtain ⟨h1,h2⟩:=List.mem_filter.mp hb
  rcases hc b h1 with z | ⟨_,h3,h4,h5,h6⟩
  ·rw [z] at h2;simp at h2
  ·exact ⟨.inr h3,h4,h5,h6⟩
 ·by_cases hbe : b = e
  ·exact ⟨_,hbe ▸ q⟩
  ·obtain ⟨sl,z1⟩:=f.slot b o (fun y=>hb (List.mem_filter.mpr ⟨y,by simpa using hbe⟩)) z
   exact ⟨_,z1⟩
 ·rw [upd_ne (fun y=>by rw [y] at z;rw [z] at hm;exact hm)];exact z
 ·rw [upd_ne (fun y=>by rw [y] at z;rw [z] at hm;exact hm)];exact z
 ·exact ⟨#[],by rw [upd_ne (fun y=>by rw [y] at z;rw [z] at hm;exact hm)];simpa using z⟩
 ·obtain ⟨o,es,ep,ho,r⟩:=hn
  have ny : X.env.locals ∉ ch:=fun y=>by
   rcases hc _ y with y | ⟨_,_,y,_⟩
   ·exact nU _ I.free y
   ·exact y rfl
  obtain ⟨sl,z⟩:=f.slot _ o ny ho
  exact ⟨_,es,ep,z,r⟩
end
section
variable {X : Cx} {body suite : List Stmt} {b₀ : Stmt} {x n : Str} {np pos hpos : Pos} {i : Nat} {D₀ : Addr} {tb : SK->TS} {ts : Addr->TS}
def tTry (K : PySem.W.Frag) (i : Nat) (D₀ : Addr) (tb : SK->TS) (ts : Addr->TS) : TS:=fun D σ H=>tb (fun σ' e C _ H'=>PySem.W.mroIn K C (.ref D₀) = some true /\
 ts e { nx:=fun σ2 H2=>D.nx (σ2.set i none) H2,rt:=D.rt,bk:=fun σ2 H2=>D.bk (σ2.set i none) H2,ct:=fun σ2 H2=>D.ct (σ2.set i none) H2 } (σ'.set i (some (.ref e))) H') D σ H
theorem unbind_ok {pins : List (Addr × Obj)} {σ : St} {H : Hp} {s : Shared} {M : Model} {A : Around} {E : Value->Shared->Prop} {Q : Unit->Shared->Prop} (I : Inv X pins σ H s) (hN : X.N.Nodup) (hi : X.N[i]? = some n) (hk : X.env.scope.names.lookup n = some .local)
  (h : ∀ s',Inv X pins (σ.set i none) H s'->Q () s') : wpAny M A (do bindName X.env n .none;unbindBehindTheSuite X.env n pos) Q E s:=by
 obtain ⟨m,hn,hl⟩:=id I.loc
 refine wpAny_nameGoes_keeps hk hn (by rw [I.ok.kind];rfl) fun h' v hn' sb=>h _ ?_
 obtain ⟨oL,_,_,hoL,_⟩:=id hn
 have keep : ∀ b o,b ≠ X.env.locals->s.heap.get? b = some o->h'.get? b = some o:=fun b o hb q=>(sb.2 b hb).trans q
 have hσ : ∀ (j : Nat) (w : V),(σ.set i none)[j]? = some (some w)->j ≠ i/\σ[j]? = some (some w):=fun j w q=>by
  by_cases hj : j = i
  ·subst hj
   rw [List.getElem?_set] at q
   simp only [if_true] at q
   split at q <;> cases q
  ·rw [List.getElem?_set_ne (Ne.symm hj)] at q
   exact ⟨hj,q⟩
 have I2 : Inv X pins (σ.set i none) H s:=I.weak (by simp) fun j w q=>(hσ j w q).2
 have hx : ∀ j y w,X.N[j]? = some y->(σ.set i none)[j]? = some (some w)->y ≠ n:=fun j y w h1 h2 z=>(hσ j w h2).1 (nodup_ix hN h1 (z ▸ hi))
 refine ⟨I.ok,I.os,I.bare,⟨fun b o q nn hb hx=>keep b o ?_ (I.base.keep b o q nn hb hx),fun b o q nn hb hx=>?_,I.base.free,fun b o q hx=>?_,I.base.tups,I.base.frzs,I.base.tbls⟩,⟨_,hn',fun j y w h1 h2 h3=>?_⟩,fun y c q=>?_,I.free,I.freeC,fun p hp=>?_,fun b ob q=>?_,I2.len⟩
 ·exact Nat.ne_of_lt (Nat.lt_of_lt_of_le (Heap.lt_size q) I.ok.above)
 ·obtain ⟨sl,q1⟩:=I.base.slot b o q nn hb hx
  exact ⟨sl,keep b _ (Nat.ne_of_lt (Nat.lt_of_lt_of_le (Heap.lt_size q) I.ok.above)) q1⟩
 ·obtain ⟨o',q1⟩:=I.base.there b o q hx
  exact ⟨o',keep b _ (Nat.ne_of_lt (Nat.lt_of_lt_of_le (Heap.lt_size q) I.ok.above)) q1⟩
 ·obtain ⟨u,r,l⟩:=hl j y w h1 (hσ j w h2).2 h3
  refine ⟨u,r,?_⟩
  rcases l with ⟨k,q⟩ | ⟨k,c,q,z⟩
  ·exact .inl ⟨k,by simp [hx j y w h1 h2,q]⟩
  ·exact .inr ⟨k,c,q,z.sameBut sb (I.cne y c q)⟩
 ·obtain ⟨v,z⟩:=I.cell y c q
  exact ⟨v,z.sameBut sb (I.cne y c q)⟩
 ·obtain ⟨q,nn,ne,nf,dd⟩:=I.pin p hp
  exact ⟨keep _ _ ne q,nn,ne,nf,dd⟩
 ·refine (I.hok b ob q).stay (fun c v hc z=>keep c v (fun y=>?_) z) (fun _ z=>z) fun _ _ z=>z
  subst y
  rcases hc with rfl | hc
  ·rw [I.free] at q;cases q
  ·rw [I.free] at hc;cases hc
def excClsIn (K : PySem.W.Frag) (D : Addr) : Bool:=(PySem.W.clsIn K D).isSome && PySem.W.instIn K (.ref D) (.type "tuple") == some false && PySem.W.mroIn K D (.type "BaseException") == some true
open PySem.W in
theorem exc_matches {M : Model} {A : Around} {E : Value->Shared->Prop} {s : Shared} {K : PySem.W.Frag} {D e C : Addr} {oe : Obj} {Q : Bool->Shared->Prop} (X : K.In s.heap) (hD : excClsIn K D = true) (he : s.heap.get? e = some oe) (hc : oe.cls = .ref C)
  (hs : PySem.W.mroIn K C (.ref D) = some true) (hq : Q true s) : wpAny M A (excMatches (.ref e) (.ref D)) Q E s:=by
 unfold excClsIn at hD
 rw [Bool.and_eq_true,Bool.and_eq_true,beq_iff_eq,beq_iff_eq] at hD
 obtain ⟨⟨h1,h2⟩,h3⟩:=hD
 obtain ⟨hh,g,dr,tk,os⟩:=s
 have L1:=looks_instIn (M:=M) X h2
 have L2:=looks_mroIn (M:=M) X h3
 have L3:=looks_mroIn (M:=M) X hs
 obtain ⟨oD,hD1,cdD,hD2⟩ : ∃ oD,hh.get? D = some oD/\∃ cd,oD.data = .cls cd:=by
  unfold clsIn at h1
  split at h1
  ·rename_i ho
   exact ⟨_,X _ _ ho,_,rfl⟩
  ·cases h1
 have T : Looks M hh (typeOf (.ref e)) (.ref C):=hc ▸ (Looks.ld he).andThen .now
 unfold excMatches isExcClass
 repeat (first | (with_reducible refine Looks.at L1 ?_) | (with_reducible refine Looks.at L2 ?_) | (with_reducible refine Looks.at L3 ?_) | (with_reducible refine Looks.at T ?_) | (with_reducible refine ks_wpAny_isType_cls hD1 hD2 ?_) | wp_step)
 all_goals exact hq
theorem ps_try (hb : ∀ pins S,PSs (X.tr S pins) body (tb S)) (hh : ∀ e,PSs (X.hand e) (b₀ :: suite) (ts e)) (hN : X.N.Nodup) (hi : X.N[i]? = some n) (hm : X.mg x = some (.ref D₀)) (hD : excClsIn X.K D₀ = true) (hk : X.env.scope.names.lookup n = some .local:=by rfl)
  (hg : Gl X x:=by rfl) (hs : X.stack = X.env :: X.outer:=by rfl) (hf : X.env.frame = some X.env.locals:=by rfl) (hdb : (x == ("__debug__" : Str)) = false:=by decide) :
  PS X (.Try body [.ExceptHandler (some (.Name x np)) (some n) (b₀ :: suite) hpos] [] [] pos) (tTry X.K i D₀ tb ts):=by
 intro pins s σ H D I h
 refine wpAny_Try_except (wpAny_mono (hb pins _ [] s σ H D I.tr h) (fun f s1 q=>?_) fun ev s1 q=>?_)
 ·cases f with
  | next=>exact wpAny_execs_nil q.untr
  | ret u=>exact q.untr
  | brk=>exact q.untr
  | cont=>exact q.untr
 obtain ⟨σ1,H1,e,C,d,rfl,I1,hfl,hsub,hS⟩:=q
 have fr : X.A.frames = some (X.env :: X.outer):=hs ▸ I1.ok.frames
 have new : ∀ {T : Addr},s1.heap.objs.size <= T->X.s₀.heap.objs.size <= T/\T ≠ X.env.locals/\(∀ x c,X.env.cells.lookup x = some c->c ≠ T)/\∀ p ∈ X.pn ++ pins,p.1 ≠ T:=fun {T} hT =>
  ⟨Nat.le_trans I1.sz hT,fun z=>absurd I1.lt (Nat.not_lt.mpr (z ▸ hT)),fun y c q z=>by
   obtain ⟨v,o,ho,_⟩:=I1.cell y c q
   exact absurd (Heap.lt_size ho) (Nat.not_lt.mpr (z ▸ hT)),fun p hp z=>absurd (Heap.lt_size (I1.pin p hp).1) (Nat.not_lt.mpr (z ▸ hT))⟩
 generalize hH2 : upd H1 e (excO e C d) = H2 at hS
 have a2 : H2 e = some (excO e C d):=by rw [<- hH2];exact upd_same
 have m2 : Mut (H2 e):=by rw [a2];trivial
 have noted : ∀ {Q : Unit->Shared->Prop} {E : Value->Shared->Prop},(∀ h' T,s1.heap.objs.size <= T->TrX h' e (excObj C d #[]) T (rawInt X.env.locals)->Inv X pins σ1 H2 { s1 with heap:=h' }->Q () { s1 with heap:=h' }) ->
   wpAny (model X.prog X.w) X.A (noteFrame (.ref e) X.env) Q E s1:=by
  intro Q E k
  rcases hfl with he | ⟨T,F⟩
  ·obtain ⟨vs,q,q1⟩:=I1.hok.exn he
   refine note0 (base:=X.base) (o:=excObj C d #[]) fr (hs ▸ I1.stack) hf q q1 fun h' T z1 z2 z3=>k h' T z1 z2 ?_
   obtain ⟨vs',_,_,q',_⟩:=id z2
   exact hH2 ▸ I1.flew (by rw [hs];exact z3) (by rw [he];trivial) q' fun b hb=>.inl (by simpa using hb)
  ·refine noteT (base:=X.base) fr (hs ▸ I1.stack) hf F.tr fun h' T' z1 z2 z3=>k h' T' z1 z2 ?_
   obtain ⟨vs',_,_,q',_⟩:=id z2
   refine hH2 ▸ I1.flew (by rw [hs];exact z3) (by rw [F.at_];trivial) q' fun b hb=>?_
   rcases List.mem_cons.mp hb with rfl | hb
   ·exact .inr ⟨F.free,F.big,F.loc,F.cell,F.pin⟩
   ·exact .inl (by simpa using hb)
 have land : ∀ {A : Around} {Q : Unit->Shared->Prop} {E : Value->Shared->Prop} {s2 : Shared} {T : Addr} {fl : Value},s1.heap.objs.size <= T->TrX s2.heap e (excObj C d #[]) T fl->Inv X pins σ1 H2 s2 ->
   (∀ h',TrX h' e (excObj C d #[]) T .none->Inv X pins σ1 H2 { s2 with heap:=h' }->Q () { s2 with heap:=h' })->wpAny (model X.prog X.w) A (setFlight (.ref e) none) Q E s2:=by
  intro A Q E s2 T fl z1 z2 I2 k
  refine landX (fs:=frs X.stack) z2 fun h' y1 y2=>k h' y1 ?_
  obtain ⟨vs',_,_,q',_⟩:=id y1
  have nT : T ≠ e:=y1.elim fun _ ⟨_,_,_,_,z,_⟩=>z
  have f2 : H2 T = none:=by rw [<- hH2,upd_ne nT];exact I1.hok.fresh z1
  have:=I2.flew (e:=e) (C:=C) (d:=d) (vs:=vs') y2 m2 q' fun b hb=>.inr (by rw [show b = T by simpa using hb];exact ⟨f2,new z1⟩)
  rwa [upd_self a2] at this
 refine noted fun h1 T z1 z2 I2=>land z1 z2 I2 fun h2 z3 I3=>?_
 refine wpAny_handleBy_cons (codeAny_handlers_test (ld_glob (X:=X.hand e) I3.hand hg hm ?_ hdb)) (by intro q;cases q)
 obtain ⟨vs3,q3⟩:=I3.hok.exc a2
 refine exc_matches I3.kIn hD q3 rfl hsub ?_
 refine codeAny_handlers_suite_as (land (A:=X.A.mark (some (.ref e))) z1 z3 I3 fun h4 z4 I4=>?_)
 refine store_ok (X:=X.hand e) I4.hand hN hi (.inl hk) (show RelV (.ref e) (.ref e) from rfl) (fun s5 I5=>?_) (.inr hk)
 refine wpAny_mono (hh e pins s5 _ H2 _ I5 hS) (fun f s6 q=>?_) fun _ _ z=>z.elim
 cases f with
 | next =>
  obtain ⟨σ6,H6,I6,q6⟩:=q
  exact unbind_ok (I6.unhand I1.ok) hN hi hk fun s7 I7=>⟨_,_,I7,q6⟩
 | brk =>
  obtain ⟨σ6,H6,I6,q6⟩:=q
  exact unbind_ok (I6.unhand I1.ok) hN hi hk fun s7 I7=>⟨_,_,I7,q6⟩
 | cont =>
  obtain ⟨σ6,H6,I6,q6⟩:=q
  exact unbind_ok (I6.unhand I1.ok) hN hi hk fun s7 I7=>⟨_,_,I7,q6⟩
 | ret u =>
  obtain ⟨v,σ6,H6,I6,r,q6⟩:=q
  exact unbind_ok (I6.unhand I1.ok) hN hi hk fun s7 I7=>⟨v,_,_,I7,r,q6⟩
end
end L2
end

section
set_option Elab.async false
set_option linter.all false
set_option maxRecDepth 100000
namespace L2
open PySem PySem.Spec PyProof.Rows
def raisesIn (K : PySem.W.Frag) (C : Addr) : Bool:=PySem.W.mroIn K C (.type "BaseException") == some true && PySem.W.typeIn K (.ref C) == some (.type "type")
def tRaise (K : PySem.W.Frag) (S : SK) (te : TE) : TS:=fun _ σ H=>te σ H fun v H1=>∃ e C d,v = .ref e/\H1 e = some (excN e C d)/\raisesIn K C = true/\S σ e C d (upd H1 e (excO e C d))
section
variable {X : Cx} {S : SK} {e : Expr} {te : TE} {pos : Pos}
open PySem.W in
theorem ps_raise (hX : XeOk X S) (he : PE X e te) (hc : X.calm = true := by rfl) : PS X (.Raise (some e) none pos) (tRaise X.K S te) := by
  intro pins s σ H D I h
  rw [arm_exec_Raise]
  show wpAny _ _ (do standAt pos; raiseStmt X.env (some (do let v ← eval e X.env; standAt pos; pure v)) none) _ _ _
  refine wpAny_bind (wpAny_standAt ?_)
  unfold raiseStmt
  refine wpAny_bind (wpAny_bind (thn (he pins s σ H _ I h) fun u s1 ⟨v, H1, I1, r, a, C, d, ev, a1, hr, q⟩ => wpAny_bind (wpAny_standAt (wpAny_pure ?_))))
  subst ev
  obtain rfl : u = Value.ref a := r
  obtain ⟨vs, o1, f1⟩ := I1.hok.exn a1
  have hE := hX.new pins σ H1 s1 a C d I1 a1 q
  have KX := I1.kIn
  obtain ⟨hh, g, dr, tk, os⟩ := s1
  unfold raisesIn at hr
  rw [Bool.and_eq_true, beq_iff_eq, beq_iff_eq] at hr
  have L1 := looks_mroIn (M := model X.prog X.w) KX hr.1
  have L2 := looks_typeIn (M := model X.prog X.w) KX hr.2
  have T : Looks (model X.prog X.w) hh (typeOf (.ref a)) (.ref C) := (Looks.ld o1).andThen .now
  have nc : ∀ c, (excObj C d vs).data ≠ .cls c := fun c z => by cases z
  have hcalm := I1.ok.hd hc
  refine wpAny_bind (wpAny_pure (wpAny_bind (wpAny_holding ?_)))
  unfold excFromValue isExcClass
  refine wpAny_bind (wpAny_bind (ks_wpAny_isType_inst o1 nc (wpAny_pure ?_)))
  show wpAny _ _ (isInstance (.ref a) _ >>= _) _ _ _
  unfold isInstance
  refine wpAny_bind (wpAny_bind (T.at (L1.at ?_)))
  refine wpAny_pure ?_
  refine wpAny_bind (ks_wpAny_isType_inst o1 nc ?_)
  show wpAny _ _ (raisedInstance (.ref a) >>= _) _ _ _
  unfold raisedInstance
  refine wpAny_bind (wpAny_bind (T.at (wpAny_bind (L2.at ?_))))
  refine wpAny_pure ?_
  unfold setFlight
  refine wpAny_bind (wpAny_bind (wpAny_field o1 rfl f1 ?_))
  rw [if_neg (by decide)]
  refine wpAny_pure ?_
  exact wpAny_raiseNew_none hcalm hE
end
abbrev veMro : List Value:=[.type "ValueError",.type "Exception",.type "BaseException",.type "object"]
def excMkIn (K : PySem.W.Frag) (C : Addr) : Bool:=match K.lookup C with
 | some ⟨.type "type",_,.cls cd,sl⟩=>(match cd.mro,sl.toList with
  | .ref C' :: bm,[_,_,_,_,some (.builtin n),_]=>C' == C && n == "ValueError.__new__" && !cd.hasDel && PySem.W.tailIn K veMro bm
  | _,_=>false)
 | _=>false
theorem excMk_of {K : PySem.W.Frag} {h : Heap} {C : Addr} (X : K.In h) (q : excMkIn K C = true) : ∃ nm qn N bs bm hdct sn sub ab col dd k0 k1 k2 k3 k5,
  h.get? C = some (excClassObj nm qn C N bs bm hdct sn sub ab col dd k0 k1 k2 k3 k5 "ValueError.__new__")/\OwnTail h veMro bm:=by
 unfold excMkIn at q
 split at q
 ·rename_i dd cd sl ho
  split at q
  ·rename_i C' bm k0 k1 k2 k3 n k5 hm hs
   simp only [Bool.and_eq_true,beq_iff_eq,Bool.not_eq_true'] at q
   obtain ⟨⟨⟨rfl,rfl⟩,hdel⟩,ht⟩:=q
   obtain ⟨nm,bs,mro,ns,qn,hd,sn,sub,ab,col,del⟩:=cd
   dsimp only at hm hdel
   subst hm hdel
   have hsl : sl = #[k0,k1,k2,k3,some (.builtin "ValueError.__new__"),k5]:=by
    obtain ⟨l⟩:=sl
    simp only at hs
    rw [hs]
   subst hsl
   exact ⟨nm,qn,ns,bs,bm,hd,sn,sub,ab,col,dd,k0,k1,k2,k3,k5,X _ _ ho,PySem.W.tail_of_in X ht⟩
  ·cases q
 ·cases q
structure MkX (K : PySem.W.Frag) (C f : Addr) : Prop where
 shape : excMkIn K C = true
 init : PySem.W.findIn K (.ref C) "__init__" = some (some (.ref f))
 fn : PySem.W.isFn K (.ref f) = true
 kp : PySem.W.keepIn K (.ref C) = true
section
variable {prog : Program} {w : World} {A : Around} {E : Value->Shared->Prop} {K : PySem.W.Frag} {C f : Addr} {s : Shared} {rest : List Value} {Q : Value->Shared->Prop}
open PySem.W in
theorem make_exc (X : K.In s.heap) (m : MkX K C f) (hl : rest.length <= sizeLine)
  (hq : ∀ h',(∀ b o,s.heap.get? b = some o->h'.get? b = some o)->h'.get? (s.heap.objs.size + 1) = some (excObj C none #[.ref s.heap.objs.size,.none,.none,.none,.bool false,.none]) ->
   wpAny (model prog w) (A.under (.builtin "type.__call__" ⟨.ref C :: rest,[]⟩)) (call (.ref f) (.ref (s.heap.objs.size + 1) :: rest)) (fun r s'=>r = .none/\Q (.ref (s.heap.objs.size + 1)) s') E { s with heap:=h' }) :
  wpAny (model prog w) A (call (.ref C) rest) Q E s:=by
 obtain ⟨nm,qn,N,bs,bm,hdct,sn,sub,ab,col,dd,k0,k1,k2,k3,k5,hC,T⟩:=excMk_of X m.shape
 have F:=PySem.F.excBase_ValueError
 obtain ⟨h,g,d,t,os⟩:=s
 have f1:=tc_lookup
 have f2:=tc_bind (.ref C)
 have hT : (⟨h,g,d,t,os⟩ : Shared).TypeIs (.ref C) "type" := ⟨_,hC,rfl⟩
 refine wpAny_call (codeAny_of_tree ?_)
 show wpAny _ _ (callAny (.ref C) _) _ _ _
 repeat (any_goals (first | assumption | (with_reducible refine wpAny_loadPart_at hC ?_) | wp_step))
 refine ⟨rfl,codeAny_call_builtin_at (Code.quiet_builtin _ (by decide +kernel)) entry_typeCall (wpAny_check_type_call_sub hC ?_)⟩
 repeat (first | (with_reducible refine wpAny_loadPart_at hC ?_) | (with_reducible refine wpAny_madeBy_exc hC ?_) | wp_step)
 refine codeAny_call_builtin_code (Code.quiet_builtin _ F.quiet) (wpAny_check_new_subT F T hC ?_)
 refine codeAny_exc_new_subT F T hC ?_ hl
 show wpAny _ _ _ _ _ _
 have kp : ∀ b o,h.get? b = some o->((h.push { cls:=.type "tuple",data:=.seq rest.toArray }).push { cls:=.ref C,data:=.fields #[.ref h.objs.size,.none,.none,.none,.bool false,.none] }).get? b = some o:=fun b o e=>Heap.get?_push_of_some _ (Heap.get?_push_of_some _ e)
 have get : ((h.push { cls:=.type "tuple",data:=.seq rest.toArray }).push { cls:=.ref C,data:=.fields #[.ref h.objs.size,.none,.none,.none,.bool false,.none] }).get? (h.objs.size + 1) = some (excObj C none #[.ref h.objs.size,.none,.none,.none,.bool false,.none]):=Heap.get?_push_at (by rw [Heap.size_push]) rfl
 have X1 : K.In ((h.push { cls:=.type "tuple",data:=.seq rest.toArray }).push { cls:=.ref C,data:=.fields #[.ref h.objs.size,.none,.none,.none,.bool false,.none] }):=X.keeps kp
 have hC1:=kp _ _ hC
 have hcC : (Value.ref C :: bm).contains (.ref C) = true:=by simp
 have T1 : Looks (model prog w) ((h.push { cls:=.type "tuple",data:=.seq rest.toArray }).push { cls:=.ref C,data:=.fields #[.ref h.objs.size,.none,.none,.none,.bool false,.none] }) (typeOf (.ref (h.objs.size + 1))) (.ref C):=(Looks.ld get).andThen .now
 have L1:=looks_findIn (M:=model prog w) X1 m.init
 have L2:=bind_fn (M:=model prog w) X1 (.ref (h.objs.size + 1)) (beq_iff_eq.mp m.fn)
 have hq1:=hq _ kp get
 unfold isInstance
 repeat (first | (with_reducible refine Looks.at T1 ?_) | (with_reducible refine wpAny_loadPart_at get ?_) | (with_reducible refine wpAny_isSubtype_exc hC1 ?_;rw [hcC]) | wp_step)
 show wpAny _ _ (isSubtype (.ref C) (.ref C)) _ _ _
 refine wpAny_isSubtype_exc hC1 ?_
 rw [hcC]
 repeat (first | (with_reducible refine Looks.at T1 ?_) | wp_step)
 show wpAny _ _ (typeLookup (.ref C) _) _ _ _
 refine Looks.at L1 ?_
 refine wpAny_holding (wpAny_bind ?_)
 refine Looks.at L2 ?_
 refine wpAny_bind (wpAny_mono hq1 (fun r s' hr=>?_) fun _ _ z=>z)
 obtain ⟨rfl,hQ⟩:=hr
 wp_walk
 exact hQ
end
def tMakeX (C : Addr) (sp : Sp) (t : TA) : TE:=fun σ H Q=>t σ H fun vs H1=>vs.length <= 1000/\∀ e,H1 e = none->sp (.ref e :: vs) (upd H1 e (excN e C none)) (fun v H2=>v = .non/\Q (.ref e) H2) E0
def MakeOk (P : Program) (w : World) (K : PySem.W.Frag) (mg : Str->Option Value) (base : Heap) (x : Str) (C : Addr) (k : Nat) (ps : List Str) (sp : Sp) : Prop :=
 ∃ f fd,MkX K C f/\FnOk P w K mg base CX0 k f fd ps sp/\mg x = some (.ref C)/\Binds K fd ps []
section
variable {X : Cx} {k j : Nat} {C : Addr} {ps : List Str} {sp : Sp} {x : Str} {p pos : Pos} {e : Expr} {es : List Expr} {t : TA}
theorem pe_makeX (M : MakeOk X.prog X.w X.K X.mg X.base x C k ps sp) (hr : Room j X.A) (ha : PA X (e :: es) t) (hg : Gl X x:=by rfl) (hj : k + 1 <= j:=by decide) (hdb : (x == ("__debug__" : Str)) = false:=by decide)
  (he : starEach (e :: es) X.env = (false,eval e X.env) :: starEach es X.env:=by rfl) (hpl : (backTo pos (starEach es X.env)).any (·.1) = false:=by rfl) : PE X (.Call (.Name x p) (e :: es) [] pos) (tMakeX C sp t):=by
 obtain ⟨f,fd,M,F,hm,hb⟩:=M
 intro pins s σ H Q I h
 refine wpAny_Call_Name_kw (ld_glob I hg hm ?_ hdb)
 refine PySem.W.callWith_K (h₀:=X.base) I.ok.mod.kin M.kp (thn (ha pos pins s σ H _ I h) fun us s1 ⟨vs,H1,I1,r,hl,q⟩=>⟨I1.kIn,?_⟩) he hpl
 show wpAny _ _ (call (.ref C) us) _ _ _
 refine make_exc I1.kIn M (by rw [<- r.length];exact Nat.le_of_lt (small1000 hl)) fun h' kp get=>?_
 have q:=q (s1.heap.objs.size + 1) (I1.hok.fresh (Nat.le_succ _))
 have I2 : Inv X pins σ (upd H1 (s1.heap.objs.size + 1) (excN (s1.heap.objs.size + 1) C none)) { s1 with heap:=h' }:=I1.laid (t':=s1.toks) kp (Nat.le_succ _) (excN.ok get rfl)
 have r2 : Vals (V.ref (s1.heap.objs.size + 1) :: vs) (Value.ref (s1.heap.objs.size + 1) :: us):=.cons rfl r
 have hl2 : (Value.ref (s1.heap.objs.size + 1) :: us).length = ps.length:=by rw [<- r2.length];exact F.len _ _ _ _ q
 have hb':=hb { s1 with heap:=h' } (Value.ref (s1.heap.objs.size + 1) :: us) I2.kIn (by rw [List.append_nil];exact hl2)
 rw [List.append_nil] at hb'
 refine wpAny_call (codeAny_mono (F.run _ X.stack _ _ ⟨_,[]⟩ _ _ _ E0 ((hr.mono hj).make C us []) (I2.env0.make C us []) hb' r2 q) fun r s' hq'=>?_)
 cases r with
 | error ev=>exact hq'.elim
 | ok fl =>
  cases fl with
  | ret u =>
   obtain ⟨v,H',I3,rv,ev,q3⟩:=I2.after hq'
   subst ev
   exact ⟨rv,⟨V.ref (s1.heap.objs.size + 1),H',I3,rfl,q3⟩⟩
  | next=>exact False.elim hq'
  | brk=>exact False.elim hq'
  | cont=>exact False.elim hq'
end
end L2
end

section
set_option Elab.async false
set_option linter.all false
set_option maxRecDepth 100000
namespace L2
open PySem PySem.Spec PyProof.Rows PySem.W
abbrev veInit : String := "ValueError.__init__"
theorem xw_slot : Slot "wrapper_descriptor" "__get__" "wrapper_descriptor.__get__" := .of (owner := "wrapper_descriptor") (n := "__get__") (by rw [typeLookup_type,builtinLookup_eq_fast];kernel_rfl) (by decide +kernel) (by decide +kernel) (by decide +kernel) (by first | exact .inl (by decide +kernel) | exact .inr (by decide +kernel)) (by rw [isSubtype_type];kernel_rfl)
theorem xw_entry : entryFor table "wrapper_descriptor.__get__" = some Builtin.«wrapper_descriptor.__get__» := entryFor_of_tree (by kernel_rfl)
theorem xw_args (a b c : Value) : argsOk "wrapper_descriptor.__get__" ⟨[a,b,c],[]⟩:=by unfold argsOk;kernel_rfl
theorem xw_type : typeOf (.builtin veInit) = pure (.type "wrapper_descriptor"):=by kernel_rfl
theorem xw_bound {M : Model} {A : Around} {E : Value->Shared->Prop} {hh : Heap} {g : Array GenState} {d : Drawn} {t : Nat} {os : OsState} {Q : Unit->Shared->Prop} {e C : Addr} {oe : Obj} {K : Frag} (b : Value) (X : K.In hh) (he : hh.get? e = some oe) (hc : oe.cls = .ref C)
  (hk : (clsIn K C).isSome = true) (hq : Q () ⟨hh,g,d,t,os⟩) : wpAny M A (checkBoundCall veInit ⟨[.ref e,b],[]⟩) Q E ⟨hh,g,d,t,os⟩:=by
 have F:=PySem.F.excBase_ValueError
 obtain ⟨cd,hcd⟩:=Option.isSome_iff_exists.mp hk
 have L:=looks_clsIn (M:=M) X hcd
 simp only [checkBoundCall,F.initRow,F.initKind]
 repeat (first | (with_reducible refine wpAny_loadPart_at he ?_;rw [hc]) | (with_reducible refine Looks.at L ?_) | (with_reducible refine wpAny_onRaise ?_) | wp_step)
 exact hq
abbrev mwObj (x : Addr) : Obj:={ cls:=.type "method-wrapper",data:=.fields #[.builtin veInit,.ref x] }
section
variable {prog : Program} {w : World} {A : Around} {E : Value->Shared->Prop} {h : Heap} {g : Array GenState} {d : Drawn} {t : Nat} {os : OsState} {so D x C : Addr} {ox : Obj} {l₀ l : List Value} {K : Frag}
theorem xw_get {Q : Fin->Shared->Prop} (X : K.In h) (hx : h.get? x = some ox) (hxc : ox.cls = .ref C) (hve : mroIn K C (.type "ValueError") = some true)
  (hq : Q (.done (.ret (.ref h.objs.size))) ⟨h.push (mwObj x),g,d,t,os⟩) :
  wpAny (model prog w) A (Builtin.«wrapper_descriptor.__get__» ⟨[.builtin veInit,.ref x,.ref C],[]⟩) Q E ⟨h,g,d,t,os⟩:=by
 have T : Looks (model prog w) h (typeOf (.ref x)) (.ref C):=hxc ▸ (Looks.ld hx).andThen .now
 have L1:=looks_mroIn (M:=model prog w) X hve
 unfold Builtin.«wrapper_descriptor.__get__»
 repeat (first | (with_reducible refine Looks.at T ?_) | (with_reducible refine Looks.at L1 ?_) | wp_step | dsimp only)
 rw [show (".".intercalate (veInit.cutAt '.').dropLast) = "ValueError" by decide +kernel]
 refine Looks.at L1 ?_
 repeat (first | (with_reducible refine wpAny_newObj_type ?_ (by size_fits)) | wp_step | dsimp only)
 exact hq
theorem xs_ga {tk : Tok} {Q : Fin → Shared → Prop} (hso : h.get? so = some (ks_superObj D x C)) (hno : Looks (model prog w) h (opaqueClassAbove (.ref C)) none)
    (hC : Looks (model prog w) h (mroOf (.ref C)) l₀) (hl : (l₀.dropWhile (· != .ref D)).drop 1 = l) (X : K.In h) (hf : alongIn K "__init__" l = some (some (.builtin veInit))) (hx : h.get? x = some ox) (hxc : ox.cls = .ref C) (hve : mroIn K C (.type "ValueError") = some true) (hxC : x ≠ C)
    (hq : Q (.done (.ret (.ref h.objs.size))) ⟨h.push (mwObj x), g, d, t, os⟩) :
    wpAny (model prog w) A (Builtin.«super.__getattribute__» ⟨[.ref so, .str "__init__" tk], []⟩) Q E ⟨h, g, d, t, os⟩ := by
  have hlk := xw_slot.lookup
  have hne : (Value.ref x == Value.ref C) = false := by simp [hxC]
  have hT : (⟨h, g, d, t, os⟩ : Shared).TypeIs (.builtin veInit) "wrapper_descriptor" := xw_type
  have dt : (ks_superObj D x C).data = .fields #[.ref D, .ref x, .ref C] := rfl
  have f0 : (#[.ref D, .ref x, .ref C] : Array Value)[0]? = some (.ref D) := rfl
  have f1 : (#[.ref D, .ref x, .ref C] : Array Value)[1]? = some (.ref x) := rfl
  have f2 : (#[.ref D, .ref x, .ref C] : Array Value)[2]? = some (.ref C) := rfl
  unfold Builtin.«super.__getattribute__»
  repeat (first
    | (with_reducible refine wpAny_field hso dt f0 ?_) | (with_reducible refine wpAny_field hso dt f1 ?_) | (with_reducible refine wpAny_field hso dt f2 ?_)
    | (with_reducible refine ks_wpAny_notOpaque hno ?_) | (with_reducible refine Looks.at hC ?_; rw [hl])
    | (refine ks_forIn_along X (fun _ _ => rfl) rfl ?_ hf)
    | (with_reducible refine wpAny_typeOf hT ?_)
    | (with_reducible refine wpAny_call_entry xw_slot hT xw_entry (xw_get X hx hxc hve ?_) (xw_args _ _ _))
    | (with_reducible refine ⟨_, rfl, ?_⟩)
    | (simp only [hne, Bool.false_eq_true, if_false])
    | wp_step | dsimp only)
  all_goals exact hq
theorem xs_method {pl : Sem Bool} {Q : Value × List Value → Shared → Prop} (hso : h.get? so = some (ks_superObj D x C)) (hno : Looks (model prog w) h (opaqueClassAbove (.ref C)) none)
    (hC : Looks (model prog w) h (mroOf (.ref C)) l₀) (hl : (l₀.dropWhile (· != .ref D)).drop 1 = l) (X : K.In h) (hf : alongIn K "__init__" l = some (some (.builtin veInit))) (hx : h.get? x = some ox) (hxc : ox.cls = .ref C) (hve : mroIn K C (.type "ValueError") = some true) (hxC : x ≠ C)
    (hq : Q (.ref h.objs.size, []) ⟨h.push (mwObj x), g, d, t + 1, os⟩) : wpAny (model prog w) A (getMethod (.ref so) "__init__" pl) Q E ⟨h, g, d, t, os⟩ := by
  have hT : ∀ t', (⟨h, g, d, t', os⟩ : Shared).TypeIs (.ref so) "super" := fun _ => ⟨_, hso, rfl⟩
  unfold getMethod
  refine wpAny_bind (wpAny_specialOf (hT _) PySem.F.ks_slot_super_ga.lookup ?_)
  show wpAny _ _ (if (Manifest.canonical "super.__getattribute__" != "object.__getattribute__") = true then _ else _) _ _ _
  rw [if_pos PySem.F.ks_canon_super_ga]
  unfold getAttr getAttrBy
  refine wpAny_bind (wpAny_bind (wpAny_mkText (wpAny_holding (wpAny_bind (wpAny_typeOf (hT _) (wpAny_bind (wpAny_of_eq PySem.F.ks_slot_super_ga.lookup ?_)))))))
  show wpAny _ _ (getAttrByItsOwn (.ref so) (.str "__init__" t) (.type "super") (.builtin "super.__getattribute__") true false) _ _ _
  unfold getAttrByItsOwn hookBefore; unfold callGetattribute boundAndCalled
  refine wpAny_bind (wpAny_of_eq (show (if onTheHeap (.type "super") then typeLookup (.type "super") "__getattr__" else pure none) = pure none from rfl) (wpAny_bind (wpAny_attempt (wpAny_holding ?_))))
  show wpAny _ _ (bindSpecial (.builtin "super.__getattribute__") (.ref so) >>= _) _ _ _
  refine wpAny_bind (wpAny_of_eq (PySem.F.ks_slot_super_ga.bind _) ?_)
  refine wpAny_mono (Q := fun v s' => v = .ref h.objs.size ∧ s' = ⟨h.push (mwObj x), g, d, t + 1, os⟩) (E := fun _ _ => False)
    (wpAny_call_entry PySem.F.ks_slot_super_ga (hT _) PySem.F.ks_entry_super_ga (xs_ga hso hno hC hl X hf hx hxc hve hxC ⟨_, rfl, rfl, rfl⟩) (PySem.F.ks_gaArgs_super _ _)) (fun v s' hv => ?_) fun _ _ z => z.elim
  obtain ⟨rfl, rfl⟩ := hv
  exact wpAny_pure (wpAny_pure hq)
theorem mw_call {s : Shared} {mw e : Addr} {x0 : Value} {dx : Option Addr} {vs : Array Value} {u : Value} {Q : Value->Shared->Prop} (X : K.In s.heap) (hk : (clsIn K C).isSome = true) (hm : s.heap.get? mw = some (mwObj e)) (he : s.heap.get? e = some (excObj C dx vs)) (h0 : (vs[0]? : Option Value) = some x0)
  (hq : ∀ h',(∀ b o,b ≠ e->s.heap.get? b = some o->h'.get? b = some o)->h'.get? e = some (excObj C dx (vs.setIfInBounds 0 (.ref s.heap.objs.size)))->Q .none { s with heap:=h' }) : wpAny (model prog w) A (call (.ref mw) [u]) Q E s:=by
 have F:=PySem.F.excBase_ValueError
 obtain ⟨hh,g,d,tk,os⟩:=s
 refine wpAny_call (codeAny_of_tree ?_)
 show wpAny _ A.in1 (callAny (.ref mw) ⟨[u],[]⟩) _ _ _
 simp only [callAny]
 refine wpAny_bind (wpAny_load hm ?_)
 show wpAny _ _ (checkBoundCall veInit ⟨[.ref e,u],[]⟩ >>= fun _=>_) _ _ _
 refine wpAny_bind (xw_bound u X he rfl hk ?_)
 refine wpAny_bind (wpAny_pure (wpAny_pure ⟨Code.quiet_builtin _ (by decide +kernel),codeAny_builtin F.initEntry ?_⟩))
 unfold Builtin.«BaseException.__init__»
 dsimp only
 rw [if_neg (by simp)]
 unfold newTuple Builtin.BaseException.bexcPut
 have he1:=Heap.get?_push_of_some (h:=hh) { cls:=.type "tuple",data:=.seq #[u] } he
 refine wpAny_bind (wpAny_newObj_type (wpAny_bind (wpAny_bind (wpAny_field he1 rfl h0 (wpAny_bind ?_)))) (by show 1 <= sizeLine;decide))
 refine setF (o:=excObj C dx #[]) he1 (Array.getElem?_eq_some_iff.mp h0).1 fun h' e' sb=>?_
 have fin:=hq h' (fun b o hb q=>(sb.2 b hb).trans (Heap.get?_push_of_some _ q)) e'
 cases x0 <;> first | exact wpAny_letGo (wpAny_pure fin) | exact wpAny_pure (wpAny_pure fin)
end
end L2
end

section
set_option Elab.async false
set_option linter.all false
set_option maxRecDepth 100000
namespace L2
open PySem PySem.Spec PyProof.Rows PySem.W
theorem lookup_nodup {α β : Type} [BEq α] [LawfulBEq α] : ∀ {l : List (α × β)} {k : α} {v : β},(l.map (·.1)).Nodup->(k,v) ∈ l->l.lookup k = some v
 | [],_,_,_,h=>nomatch h
 | (a,b) :: l,k,v,nd,h=>by
  rw [List.map_cons,List.nodup_cons] at nd
  rw [List.lookup_cons]
  rcases List.mem_cons.mp h with h | h
  ·cases h;simp
  ·have : (k == a) = false:=beq_eq_false_iff_ne.mpr fun z=>nd.1 (z ▸ List.mem_map_of_mem (f:=(·.1)) h)
   rw [this]
   exact lookup_nodup nd.2 h
structure InScope (ps : List Str) (sc : Scope) : Prop where
 kind : sc.kind = .function
 co : sc.isCoroutine = false
 gen : sc.isGenerator = false
 nd : ps.Nodup
 loc : ∀ x ∈ ps,sc.names.lookup x = some .local
 cell : ∀ x ∈ sc.names,x.2 ≠ .cell
 free : ∀ x ∈ sc.names,x.2 = .free->x.1 = "__class__"
def cxI (P : Program) (w : World) (K : PySem.W.Frag) (mg : Str->Option Value) (base : Heap) (N : List Str) (qual : Str) (scope : Scope) (f : Addr) (cd : Value) (cc : Addr) (A : Around) (outer : List Env) (s : Shared) (H : Hp) : Cx where
 prog:=P
 w:=w
 K:=K
 mg:=mg
 base:=base
 A:=A.deeper (ksEnv qual scope s.heap.objs.size f cd cc)
 N:=N
 s₀:=s
 H₀:=H
 env:=ksEnv qual scope s.heap.objs.size f cd cc
 outer:=outer
 stack:=ksEnv qual scope s.heap.objs.size f cd cc :: outer
 ex:=[]
 calm:=true
 fn:=fun x=>x != "__class__"
 pn:=[]
 xe:=fun _ _=>False
section
variable {P : Program} {w : World} {K : PySem.W.Frag} {mg : Str->Option Value} {base : Heap} {k : Nat} {f cc C cda : Addr} {name qual : Str} {params : Arguments} {body : List Stmt} {scope : Scope} {kV doc pm ct oc cl : Value} {an od cld : Option Addr}
 {osl csl : Array (Option Value)} {ps : List Str} {sp : Sp}
theorem init_of (lk : K.lookup f = some ⟨oc,od,.func (ksFn name qual params body scope .none kV doc pm an (.ref cda) ct cc),osl⟩) (hcd : PySem.W.codeIn K (.ref cda) qual = true) (lc : K.lookup cc = some ⟨cl,cld,.cell (some (.ref C)),csl⟩)
  (S : InScope ps scope) (len : ∀ vs H Q E,sp vs H Q E->vs.length = ps.length)
  (hbody : ∀ (A : Around) (outer : List Env) (s s1 : Shared) (H : Hp) (vs : List V) (Q : VK) (E : XK),Room k (A.deeper (ksEnv qual scope s.heap.objs.size f (.ref cda) cc))->sp vs H Q E ->
   Inv (cxI P w K mg base ps qual scope f (.ref cda) cc A outer s H) [] (vs.map some) H s1 ->
   PySem.wpAt (model P w) (A.deeper (ksEnv qual scope s.heap.objs.size f (.ref cda) cc)) (.func body (ksEnv qual scope s.heap.objs.size f (.ref cda) cc)) (execs body (ksEnv qual scope s.heap.objs.size f (.ref cda) cc))
    (SP (cxI P w K mg base ps qual scope f (.ref cda) cc A outer s H) [] { nx:=fun _ H'=>Q .non H',rt:=Q }) (fun _ _=>False) s1) :
  FnOk P w K mg base CX0 (k + 1) f (ksFn name qual params body scope .none kV doc pm an (.ref cda) ct cc) ps sp:=by
 refine ⟨len,fun A outer s H args us vs Q E hr e0 hb r hsp=>?_⟩
 have hl:=len _ _ _ _ hsp
 have hlu : us.length = ps.length:=r.length ▸ hl
 have kb : ∀ b o,base.get? b = some o->s.heap.get? b = some o:=fun b o e=>(e0.bs b o e).1
 have KX : K.In s.heap:=e0.mod.kin.keeps kb
 have lim : s.heap.NoLimit:=e0.mod.nolimit.keeps kb
 refine ks_codeAny_call_defAt (fd:=ksFn name qual params body scope .none kV doc pm an (.ref cda) ct cc) (body:=body) (binds:=ps.zip us) hr.depth (KX _ _ lk) rfl lim (PySem.W.codeRec_of KX hcd) rfl hb S.cell (fun y hy=>S.loc _ (List.of_mem_zip hy).1) (fun h₀ hns hk=>?_) S.co S.gen S.kind
 have ndz : ((ps.zip us).reverse.map (·.1)).Nodup:=by
  rw [List.map_reverse,List.map_fst_zip (by rw [hlu];exact Nat.le_refl _)]
  exact List.pairwise_reverse.mpr (S.nd.imp fun z y=>z y.symm)
 have I : Inv (cxI P w K mg base ps qual scope f (.ref cda) cc A outer s H) [] (vs.map some) H { s with heap:=h₀,toks:=s.toks + (ps.zip us).length }:=by
  have cellL : ∀ y c,(ksEnv qual scope s.heap.objs.size f (.ref cda) cc).cells.lookup y = some c->y = "__class__"/\c = cc:=fun y c q=>by
   have q' : List.lookup y [(("__class__" : Str),cc)] = some c:=q
   rw [List.lookup_cons] at q'
   split at q'
   ·rename_i z
    exact ⟨by simpa using z,(Option.some.inj q').symm⟩
   ·cases q'
  have noA : ∀ b : Addr,b ∉ (cxI P w K mg base ps qual scope f (.ref cda) cc A outer s H).ex:=fun b z=>absurd (show b ∈ ([] : List Addr) from z) (by simp)
  have cb:=e0.mod.kin cc _ lc
  refine ⟨⟨e0.mod,S.kind,rfl,rfl,Nat.le_refl _,fun y z c h1 h2=>(cellL y c h1).1.trans (cellL z c h2).1.symm,fun y hy=>?_,fun y c h1 h2=>?_,fun _=>hr.hd,Around.frames_deeper e0.frames,.inr ⟨rfl,rfl⟩,fun b z=>absurd z (noA b),e0.bs,e0.bsz,fun b _ _=>noA b,fun b z=>absurd z (noA b),e0.funs,e0.frf⟩,
   rfl,⟨e0.bare,Nat.le_refl _⟩,Un.kept hk,⟨_,hns,fun i y v h1 h2 h3=>?_⟩,fun y c h=>?_,e0.hok.fresh (Nat.le_refl _),fun y c h=>?_,fun p hp=>absurd (show p ∈ ([] : List (Addr × Obj)) from hp) (by simp),e0.hok.kept hk,(List.length_map _).trans hl⟩
  ·have hy : scope.names.lookup y = some .cell\/scope.names.lookup y = some .free:=hy
   rcases hy with hy | hy
   ·exact absurd rfl (S.cell _ (PySem.mem_of_lookup hy))
   ·have e:=S.free _ (PySem.mem_of_lookup hy) rfl
    exact ⟨cc,by show List.lookup y [(("__class__" : Str),cc)] = some cc;rw [show y = "__class__" from e];rfl⟩
  ·have h1' : (y != "__class__") = true:=h1
   rw [(cellL y c h2).1] at h1'
   simp at h1'
  ·have h2' : (vs.map some)[i]? = some (some v):=h2
   rw [List.getElem?_map] at h2'
   obtain ⟨v',hv,e⟩:=Option.map_eq_some_iff.mp h2'
   cases e
   obtain ⟨u,hu,rv⟩:=r.get hv
   have h1' : ps[i]? = some y:=h1
   refine ⟨u,rv,.inl ⟨S.loc y (List.mem_of_getElem? h1'),?_⟩⟩
   exact lookup_nodup ndz (List.mem_reverse.mpr (List.mem_iff_getElem?.mpr ⟨i,by rw [List.getElem?_zip_eq_some];exact ⟨h1',hu⟩⟩))
  ·rw [(cellL y c h).2]
   exact ⟨_,_,hk _ _ (kb _ _ cb),rfl⟩
  ·rw [(cellL y c h).2]
   exact (e0.bs _ _ cb).2
 refine ks_wpAt_mono (hbody A outer s _ H vs Q E (hr.deeper _) hsp I) (fun fl s' hs=>?_) (fun _ _ (z : False)=>z.elim)
 have fin : ∀ {σ' : St} {H' : Hp} {v : V} {u : Value},Inv (cxI P w K mg base ps qual scope f (.ref cda) cc A outer s H) [] σ' H' s'->RelV v u->Q v H'->CE outer P w H s Q u s' :=
  fun {σ' H' v u} J rv q=>⟨v,H',J.os,J.bare,J.base,J.hok,rv,q⟩
 cases fl with
 | ret u =>
  obtain ⟨v,σ',H',J,rv,q⟩:=hs
  exact fin J rv q
 | next =>
  obtain ⟨σ',H',J,q⟩:=hs
  exact fin (v:=V.non) (u:=Value.none) J rfl q
 | brk =>
  obtain ⟨_,_,_,q⟩:=hs
  exact False.elim q
 | cont =>
  obtain ⟨_,_,_,q⟩:=hs
  exact False.elim q
end
end L2
end

section
set_option Elab.async false
set_option linter.all false
set_option maxRecDepth 100000
namespace L2
open PySem PySem.Spec PyProof.Rows PySem.W
def excAll (K : Frag) (C : Addr) : Bool:=(clsIn K C).isSome && mroIn K C (.ref C) == some true && mroIn K C (.type "ValueError") == some true && ks_superIn K C C "__init__" == some (some (.builtin veInit)) && nsIn K cStatics "thirdparty.any" == some none
section
variable {P : Program} {w : World} {K : PySem.W.Frag} {mg : Str->Option Value} {base : Heap} {f cc C cda e : Addr} {qual : Str} {scope : Scope} {ps : List Str} {A : Around} {outer : List Env} {s₀ s : Shared} {H₀ H : Hp} {σ : St} {body : List Stmt} {arg : Expr} {t : TA} {p0 p1 p2 p3 p4 : Pos}
 {fd : FuncData} {ar : Arg} {vs : Array Value} {file : Str} {tf : Tok} {oc ccl cl : Value} {od cdd cld : Option Addr} {osl ccs csl : Array (Option Value)} {D : Ends}
theorem super_stmt (lk : K.lookup f = some ⟨oc,od,.func fd,osl⟩) (hp : (fd.params.posonlyargs ++ fd.params.args).head? = some ar) (hi : ps[0]? = some ar.arg)
  (lcode : K.lookup cda = some ⟨ccl,cdd,.fields vs,ccs⟩) (hvs : (vs[2]? : Option Value) = some (.str file tf)) (hfile : ((P.main.file : Str) == file) = true) (lc : K.lookup cc = some ⟨cl,cld,.cell (some (.ref C)),csl⟩)
  (hsup : mg "super" = none) (htop : (P.main.scope.names.lookup ("super" : Str)).isSome = false) (hks : scope.names.lookup ("super" : Str) = some .globalImplicit) (hkc : scope.names.lookup ("__class__" : Str) = some .free) (hka : scope.names.lookup ar.arg = some .local)
  (xc : excAll K C = true) (ha : PA (cxI P w K mg base ps qual scope f (.ref cda) cc A outer s₀ H₀) [arg] t)
  (I : Inv (cxI P w K mg base ps qual scope f (.ref cda) cc A outer s₀ H₀) [] σ H s) (h0 : σ[0]? = some (some (.ref e))) (he : H e = some (excN e C none))
  (q : t σ H fun us H1=>us.length = 1/\H1 e = some (excN e C none)/\D.nx σ H1)
  {pl : Sem Bool} (hev : eval (.Call (.Attribute (.Call (.Name "super" p0) [] [] p1) "__init__" p2) [arg] [] p3) (ksEnv qual scope s₀.heap.objs.size f (.ref cda) cc) = (do
   let ov <- attributeBase (.Call (.Name "super" p0) [] [] p1) "__init__" (ksEnv qual scope s₀.heap.objs.size f (.ref cda) cc) (eval (.Call (.Name "super" p0) [] [] p1) (ksEnv qual scope s₀.heap.objs.size f (.ref cda) cc))
   standAt p2.atName
   let (gm,fst) <- holding [ov] (getMethod ov "__init__" pl)
   callWith p3 gm fst (backTo p3 (starEach [arg] (ksEnv qual scope s₀.heap.objs.size f (.ref cda) cc))) [])) (hsw : swapsWith (.Call (.Attribute (.Call (.Name "super" p0) [] [] p1) "__init__" p2) [arg] [] p3) none p4.line (ksEnv qual scope s₀.heap.objs.size f (.ref cda) cc) = pure false)
  (hpl : starEach [arg] (ksEnv qual scope s₀.heap.objs.size f (.ref cda) cc) = [(false,eval arg (ksEnv qual scope s₀.heap.objs.size f (.ref cda) cc))]) :
  PySem.wpAt (model P w) (A.deeper (ksEnv qual scope s₀.heap.objs.size f (.ref cda) cc)) (.func body (ksEnv qual scope s₀.heap.objs.size f (.ref cda) cc))
   (exec (.Expr (.Call (.Attribute (.Call (.Name "super" p0) [] [] p1) "__init__" p2) [arg] [] p3) p4) (ksEnv qual scope s₀.heap.objs.size f (.ref cda) cc))
   (SP (cxI P w K mg base ps qual scope f (.ref cda) cc A outer s₀ H₀) [] D) (fun _ _=>False) s:=by
 unfold excAll at xc
 simp only [Bool.and_eq_true,beq_iff_eq] at xc
 obtain ⟨⟨⟨⟨x1,x2⟩,x3⟩,x4⟩,x5⟩:=xc
 obtain ⟨cd,hcd⟩:=Option.isSome_iff_exists.mp x1
 have KX : K.In s.heap:=I.kIn
 have kind : scope.kind = .function:=I.ok.kind
 obtain ⟨m,hns,hl⟩:=id I.loc
 obtain ⟨u,ru,lu⟩:=hl 0 _ _ hi h0 (.inl hka)
 have hm : m ar.arg = some (.ref e):=by
  obtain rfl : u = .ref e:=ru
  rcases lu with ⟨_,z⟩ | ⟨z,_⟩
  ·exact z
  ·have z' : scope.names.lookup ar.arg = some .cell\/scope.names.lookup ar.arg = some .free:=z
   rw [hka] at z'
   rcases z' with z' | z' <;> cases z'
 obtain ⟨ve,oe,fe⟩:=I.hok.exn he
 obtain ⟨oD,hD1,hD2⟩ : ∃ oD,s.heap.get? C = some oD/\oD.data = .cls cd:=by
  unfold clsIn at hcd
  split at hcd
  ·rename_i ho
   cases hcd
   exact ⟨_,KX _ _ ho,rfl⟩
  ·cases hcd
 have neC : e ≠ C:=fun z=>by
  rw [z] at oe
  rw [hD1] at oe
  cases oe
  cases hD2
 obtain ⟨mb,hb1,hb2⟩:=I.mod.blt
 have bk:=I.bk
 refine ks_wpAt_Expr_any (ks_wpAt_MethodCall (ks_wpAt_super_base (env:=ksEnv qual scope s₀.heap.objs.size f (.ref cda) cc) hks hkc (by decide) rfl (KX _ _ lk) rfl hp rfl (KX _ _ lcode) rfl hvs hfile htop ?_) hev) (by simp [interactive,kind]) hsw
 refine ks_loadName_global kind hks (PySem.Calls.loadGlobal_builtin (env:=ksEnv qual scope s₀.heap.objs.size f (.ref cda) cc) (I.mod.glob.keeps bk) hsup (hb1.keeps bk) ((hb2 _ (by decide)).trans (by decide +kernel)) ⟨rfl,?_⟩)
 refine wpAny_loadName_free kind hkc rfl ⟨_,KX _ _ lc,rfl⟩ ?_
 refine wpAny_loadName_local kind hka hns hm ?_
 obtain ⟨hh,g,dr,tk,os⟩:=s
 refine ks_wpAny_isType_cls hD1 hD2 ⟨rfl,?_⟩
 refine ks_wpAny_call_super hD1 hD2 oe rfl (fun c z=>by cases z) (looks_mroIn KX x2) fun h1 so k1=>?_
 have I1:=I.kept (t':=tk) k1
 have X1 : K.In h1:=I1.kIn
 have L1 : Looks (model P w) h1 (mroOf (.ref C)) cd.mro:=(looks_clsIn X1 hcd).andThen .now
 have hsp : alongIn K "__init__" ((cd.mro.dropWhile (· != .ref C)).drop 1) = some (some (.builtin veInit)):=by
  unfold ks_superIn at x4
  rw [hcd] at x4
  exact x4
 refine xs_method so (looks_opaque X1 x5) L1 rfl X1 hsp (k1 _ _ oe) rfl x3 neC ?_
 have I2:=I1.kept (h':=h1.push (mwObj e)) (t':=tk + 1) fun b o z=>Heap.get?_push_of_some _ z
 have mwg : (h1.push (mwObj e)).get? h1.objs.size = some (mwObj e):=Heap.get?_push_size _ rfl
 have I3:=I2.pins_of (pins':=[(h1.objs.size,mwObj e)]) fun p hp=>by
  rw [show p = (h1.objs.size,mwObj e) by simpa using hp]
  exact ⟨mwg,I1.hok.fresh (Nat.le_refl _),fun z=>absurd I1.lt (by rw [<- z];exact Nat.lt_irrefl _),I1.nofs (Nat.le_refl _),fun v z=>by cases z⟩
 show wpAny _ _ (callWith p3 (.ref h1.objs.size) [] (backTo p3 (starEach [arg] _)) []) _ _ _
 refine callWith_of (P:=fun hp=>hp.get? h1.objs.size = some (mwObj e)) (by rw [hpl];rfl) (fun hp z=>⟨.machine,.inr (.inl rfl),(Looks.ld (part:=none) z).andThen .now⟩) ?_
 have hpa:=ha p3 [(h1.objs.size,mwObj e)] _ σ H _ I3 q
 rw [show starEach [arg] (cxI P w K mg base ps qual scope f (.ref cda) cc A outer s₀ H₀).env = _ from hpl] at hpa
 rw [hpl]
 refine PySem.Calls.evalArgs_plain (wpAny_mono hpa (fun us s4 ⟨vs4,H4,I4,r4,hl4,he4,hn4⟩=>?_) (fun _ _ (z : False)=>z.elim))
 have pin4:=(I4.pin (h1.objs.size,mwObj e) (by simp)).1
 refine ⟨pin4,?_⟩
 obtain ⟨ve4,oe4,fe4⟩:=I4.hok.exn he4
 have sz : 1 < ve4.size:=(Array.getElem?_eq_some_iff.mp fe4).1
 match us,r4 with
 | [u4],_ =>
  refine mw_call I4.kIn x1 pin4 oe4 (Array.getElem?_eq_getElem (Nat.lt_of_succ_lt sz)) fun h5 k5 e5=>?_
  have I5:=I4.write (x:=e) (e:=e) (h':=h5) (t':=s4.toks) (o:=excN e C none) (by rw [he4];trivial) (.inl rfl) k5 ⟨_,e5⟩ (excN.ok e5 (by rw [Array.getElem?_setIfInBounds_ne (by decide)];exact fe4))
  rw [upd_self he4] at I5
  exact ⟨σ,H4,I5.pins_of (fun p hp=>absurd hp (by simp)),hn4⟩
 | [],.nil=>exact absurd hl4 (by simp)
 | _ :: _ :: _,.cons _ (.cons _ _)=>exact absurd hl4 (by simp)
end
end L2
end

section
set_option Elab.async false
set_option linter.all false
set_option maxRecDepth 100000
namespace L2
open PySem PySem.Spec PyProof.Rows PySem.W
def onlyVE : List Value->Bool
 | .ref _ :: r=>onlyVE r
 | l=>l == veMro
theorem refuse_ve (self : Value) : ∀ {l : List Value},onlyVE l = true->refuseLoop self "__setattr__" l = pure ()
 | .ref c :: r,e=>by rw [refuseLoop_ref];exact refuse_ve self (l:=r) e
 | [],e=>by cases e
 | .type n :: r,e=>by rw [show (Value.type n :: r) = veMro from beq_iff_eq.mp e];exact PySem.F.store_ValueError.passes self
 | .none :: r,e=>by cases (beq_iff_eq.mp (show ((Value.none :: r) == veMro) = true from e))
 | .bool _ :: r,e=>by cases (beq_iff_eq.mp (show ((Value.bool _ :: r) == veMro) = true from e))
 | .int _ _ :: r,e=>by cases (beq_iff_eq.mp (show ((Value.int _ _ :: r) == veMro) = true from e))
 | .float _ _ :: r,e=>by cases (beq_iff_eq.mp (show ((Value.float _ _ :: r) == veMro) = true from e))
 | .str _ _ :: r,e=>by cases (beq_iff_eq.mp (show ((Value.str _ _ :: r) == veMro) = true from e))
 | .bytes _ _ :: r,e=>by cases (beq_iff_eq.mp (show ((Value.bytes _ _ :: r) == veMro) = true from e))
 | .builtin _ :: r,e=>by cases (beq_iff_eq.mp (show ((Value.builtin _ :: r) == veMro) = true from e))
 | .ellipsis :: r,e=>by cases (beq_iff_eq.mp (show ((Value.ellipsis :: r) == veMro) = true from e))
 | .notImplemented :: r,e=>by cases (beq_iff_eq.mp (show ((Value.notImplemented :: r) == veMro) = true from e))
theorem ve_has : ∀ {l : List Value},onlyVE l = true->l.contains (.type "object") = true
 | .ref c :: r,e=>by rw [List.contains_cons,ve_has (l:=r) e,Bool.or_true]
 | [],e=>by cases e
 | .type n :: r,e=>by rw [show (Value.type n :: r) = veMro from beq_iff_eq.mp e];rfl
 | .none :: r,e=>by cases (beq_iff_eq.mp (show ((Value.none :: r) == veMro) = true from e))
 | .bool _ :: r,e=>by cases (beq_iff_eq.mp (show ((Value.bool _ :: r) == veMro) = true from e))
 | .int _ _ :: r,e=>by cases (beq_iff_eq.mp (show ((Value.int _ _ :: r) == veMro) = true from e))
 | .float _ _ :: r,e=>by cases (beq_iff_eq.mp (show ((Value.float _ _ :: r) == veMro) = true from e))
 | .str _ _ :: r,e=>by cases (beq_iff_eq.mp (show ((Value.str _ _ :: r) == veMro) = true from e))
 | .bytes _ _ :: r,e=>by cases (beq_iff_eq.mp (show ((Value.bytes _ _ :: r) == veMro) = true from e))
 | .builtin _ :: r,e=>by cases (beq_iff_eq.mp (show ((Value.builtin _ :: r) == veMro) = true from e))
 | .ellipsis :: r,e=>by cases (beq_iff_eq.mp (show ((Value.ellipsis :: r) == veMro) = true from e))
 | .notImplemented :: r,e=>by cases (beq_iff_eq.mp (show ((Value.notImplemented :: r) == veMro) = true from e))
def attrIn (K : Frag) (C : Addr) (f : Str) : Bool := findIn K (.ref C) "__setattr__" == some (some (.builtin "object.__setattr__")) && findIn K (.ref C) "__getattribute__" == some (some (.builtin "BaseException.__getattribute__")) && findIn K (.ref C) "__getattr__" == some none &&
  findIn K (.ref C) f == some none && (clsIn K C).any (fun cd => onlyVE cd.mro && cd.hasDict) && mroIn K C (.type "BaseException") == some true
section
variable {prog : Program} {w : World} {A : Around} {E : Value->Shared->Prop} {s : Shared} {K : Frag} {e C : Addr} {vs : Array Value} {f : Str} {v : Value}
theorem store_open {dx : Option Addr} {od : Option Obj} {Q : Unit->Shared->Prop} (X : K.In s.heap) (J : InstAt s.heap e (excObj C dx vs) C od) (hk : attrIn K C f = true)
  (h : ∀ (b : Bool) (tk : Tok),wpAny (model prog w) A.in1 (Builtin.ObjectAttr.storeInOwnDict (.ref e) (.ref C) (.str f tk) f v b) (fun fin s'=>fin = .done (.ret .none)/\Q () s') (fun _ _=>False) { s with toks:=s.toks + 1 }) :
  wpAny (model prog w) A (setAttr (.ref e) f v) Q E s:=by
 unfold attrIn at hk
 simp only [Bool.and_eq_true,beq_iff_eq] at hk
 obtain ⟨⟨⟨⟨⟨k1,k2⟩,k3⟩,k4⟩,k5⟩,k6⟩:=hk
 obtain ⟨cd,hc,ho⟩:=any_some k5
 rw [Bool.and_eq_true] at ho
 have SF:=PySem.F.store_ValueError
 have ne : cd.mro.isEmpty = false:=by cases q : cd.mro with | nil=>rw [q] at ho;cases ho.1 | cons _ _=>rfl
 have X1 : K.In ({ s with toks:=s.toks + 1 } : Shared).heap:=X
 have J1 : InstAt ({ s with toks:=s.toks + 1 } : Shared).heap e (excObj C dx vs) C od:=J
 have sub : Looks (model prog w) s.heap (isInstance (.ref e) (.type "object")) true:=J.type.andThen (looks_mroIn X (by unfold mroIn;rw [hc,Option.bind_some,if_neg (by rw [ne];decide),ve_has ho.1]))
 have hm : Looks (model prog w) s.heap (mroOf (.ref C)) cd.mro:=(looks_clsIn X hc).andThen .now
 refine set_plain X J k1 (codeAny_call_builtin SF.slot.plain SF.entry (@check_slot (model prog w) _ _ { s with toks:=s.toks + 1 } "object.__setattr__" "object" "__setattr__" (.ref e) [.str f s.toks,v] [] _ SF.kind SF.split sub (SF.args _ _ _) ?_))
 rw [osa_eq,refuse_eq]
 refine wpAny_bind (wpAny_bind (J1.type.here (wpAny_bind (Looks.here (s:={ s with toks:=s.toks + 1 }) hm ?_))))
 rw [refuse_ve _ ho.1]
 refine wpAny_pure (wpAny_bind (J1.type.here (wpAny_bind ((looks_findIn X1 k4).here (wpAny_bind (Looks.here (s:={ s with toks:=s.toks + 1 }) (r:=none) .now ?_))))))
 refine wpAny_mono (h false s.toks) (fun fin s' z=>?_) (fun _ _ (z : False)=>z.elim)
 obtain ⟨rfl,z⟩:=z
 exact z
theorem store_first {Q : Unit->Shared->Prop} (X : K.In s.heap) (he : s.heap.get? e = some (excObj C none vs)) (hk : attrIn K C f = true)
  (h : ∀ h' tk,h'.get? e = some (excObj C (some s.heap.objs.size) vs)->h'.Ns1 s.heap.objs.size (fun y=>if y = f then some v else none)->(∀ b o,b ≠ e->s.heap.get? b = some o->h'.get? b = some o)->Q () { s with heap:=h',toks:=tk }) :
  wpAny (model prog w) A (setAttr (.ref e) f v) Q E s:=by
 have J : InstAt s.heap e (excObj C none vs) C none:=⟨he,rfl,rfl,trivial⟩
 refine store_open X J hk fun b tk=>?_
 unfold attrIn at hk
 simp only [Bool.and_eq_true,beq_iff_eq] at hk
 obtain ⟨cd,hc,ho⟩:=any_some hk.1.2
 rw [Bool.and_eq_true] at ho
 obtain ⟨hh,g,dr,t,os⟩:=s
 have L:=looks_clsIn (M:=model prog w) X hc
 have hxs : e ≠ hh.objs.size:=Nat.ne_of_lt (Heap.lt_size he)
 have he1 : (hh.push { cls:=.type "dict",data:=.dict #[] }).get? e = some (excObj C none vs):=Heap.get?_push_of_some _ he
 refine wpAny_bind (wpAny_pure (wpAny_bind (wpAny_bind (wpAny_loadPart he (wpAny_bind (L.at ?_))))))
 rw [ho.2]
 refine wpAny_bind (wpAny_alloc' (wpAny_bind (wpAny_update' he1 (wpAny_pure ?_))))
 have gd : ((hh.push { cls:=.type "dict",data:=.dict #[] }).update e fun o=>{ cls:=o.cls,dict:=some hh.objs.size,data:=o.data,slots:=o.slots }).get? hh.objs.size = some { cls:=.type "dict",data:=.dict #[] } :=
  (Heap.get?_update_ne _ _ _ _ hxs.symm).trans (Heap.get?_push_at rfl rfl)
 have ge : ((hh.push { cls:=.type "dict",data:=.dict #[] }).update e fun o=>{ cls:=o.cls,dict:=some hh.objs.size,data:=o.data,slots:=o.slots }).get? e = some (excObj C (some hh.objs.size) vs):=Heap.get?_update_self _ he1 rfl
 have nd : ((hh.push { cls:=.type "dict",data:=.dict #[] }).update e fun o=>{ cls:=o.cls,dict:=some hh.objs.size,data:=o.data,slots:=o.slots }).Ns hh.objs.size (fun _=>none):=⟨_,#[],_,gd,rfl,fun z hz=>absurd hz (by simp),fun _=>rfl⟩
 show wpAny _ _ (Builtin.ObjectAttr.storeInDict hh.objs.size (.str f tk) f v) _ _ _
 refine wpAny_bind (wpAny_pure (wpAny_bind (wpAny_nsSet1 (Heap.Ns1.of_empty nd) fun h' hn sb=>?_)))
 obtain ⟨oD,esD,epD,hoD,hdD,hcD⟩:=hn.count (PySem.Within.cons f v PySem.Within.nil)
 refine wpAny_bind (wpAny_lookBehind hoD (by rw [hdD];exact pastItsLine_dict (Nat.le_trans hcD (by rw [List.length_cons,List.length_nil,sizeLine_eq];omega))) (wpAny_pure ⟨rfl,h h' _ ((sb.2 e hxs).trans ge) hn fun b o hb q=>?_⟩))
 exact (sb.2 b (Nat.ne_of_lt (Heap.lt_size q))).trans ((Heap.get?_update_ne _ _ _ _ hb).trans (Heap.get?_push_of_some _ q))
theorem store_next {d : Addr} {mA : Str->Option Value} {ns : List Str} {Q : Unit->Shared->Prop} (X : K.In s.heap) (he : s.heap.get? e = some (excObj C (some d) vs)) (hn : s.heap.Ns1 d mA) (hw : PySem.Within mA ns) (hs : ns.length <= 1000) (hk : attrIn K C f = true)
  (h : ∀ h' tk,h'.Ns1 d (fun y=>if y = f then some v else mA y)->Heap.SameBut d s.heap h'->Q () { s with heap:=h',toks:=tk }) : wpAny (model prog w) A (setAttr (.ref e) f v) Q E s:=by
 obtain ⟨od,hod,hl⟩:=lookIn_ns hn
 have J : InstAt s.heap e (excObj C (some d) vs) C (some od):=⟨he,rfl,rfl,hod⟩
 refine store_open X J hk fun b tk=>?_
 unfold attrIn at hk
 simp only [Bool.and_eq_true,beq_iff_eq] at hk
 obtain ⟨cd,hc,ho⟩:=any_some hk.1.2
 rw [Bool.and_eq_true] at ho
 obtain ⟨hh,g,dr,t,os⟩:=s
 have L:=looks_clsIn (M:=model prog w) X hc
 refine wpAny_bind (wpAny_pure (wpAny_bind (wpAny_bind (wpAny_loadPart he (wpAny_bind (L.at ?_))))))
 rw [ho.2]
 refine wpAny_pure (a:=some d) ?_
 show wpAny _ _ (Builtin.ObjectAttr.storeInDict d (.str f tk) f v) _ _ _
 refine wpAny_bind (wpAny_pure (wpAny_bind (wpAny_nsSet1 (s:=⟨hh,g,dr,t + 1,os⟩) hn fun h' hn' sb=>?_)))
 obtain ⟨oD,esD,epD,hoD,hdD,hcD⟩:=hn'.count (PySem.Within.cons f v hw)
 exact wpAny_bind (wpAny_lookBehind hoD (by rw [hdD];exact pastItsLine_dict (Nat.le_trans hcD (by rw [List.length_cons,sizeLine_eq];omega))) (wpAny_pure ⟨rfl,h h' _ hn' sb⟩))
theorem load_exc {d : Addr} {mA : Str → Option Value} {expr : Bool} {Q : Value → Shared → Prop} (X : K.In s.heap) (he : s.heap.get? e = some (excObj C (some d) vs)) (hn : s.heap.Ns1 d mA) (hk : attrIn K C f = true) (hv : mA f = some v) (hh' : handedIn v = true)
    (hq : Q v { s with toks := s.toks + 1 }) : wpAny (model prog w) A (getAttr (.ref e) f expr) Q E s := by
  obtain ⟨od, hod, hl⟩ := lookIn_ns hn
  have J : InstAt s.heap e (excObj C (some d) vs) C (some od) := ⟨he, rfl, rfl, hod⟩
  unfold attrIn at hk
  simp only [Bool.and_eq_true, beq_iff_eq] at hk
  obtain ⟨⟨⟨⟨⟨k1, k2⟩, k3⟩, k4⟩, k5⟩, k6⟩ := hk
  obtain ⟨cd, hc, ho⟩ := any_some k5
  rw [Bool.and_eq_true] at ho
  have hfo : findObj K C (some od) f = some (.value v) := findObj_own (by unfold hasDictIn; rw [hc]; exact ho.2) k4 rfl (by rw [hl, hv])
  obtain ⟨hh, g, dr, t, os⟩ := s
  have T := J.type (M := model prog w)
  have L1 := looks_findIn (M := model prog w) X k2
  have L2 := looks_findIn (M := model prog w) X k3
  have L3 := looks_find (M := model prog w) X J hfo
  have FB := PySem.F.attr_ValueError
  have f3 := FB.ga.bind (.ref e)
  have hx0 : (expr && onTheHeap (Value.builtin "BaseException.__getattribute__")) = false := by cases expr <;> rfl
  unfold getAttr getAttrBy
  refine wpAny_bind (wpAny_mkText (wpAny_holding (wpAny_bind (T.at (wpAny_bind (L1.at ?_))))))
  show wpAny _ _ (getAttrByItsOwn (.ref e) (.str f t) (.ref C) (.builtin "BaseException.__getattribute__") true expr) _ _ _
  unfold getAttrByItsOwn hookBefore; unfold callGetattribute boundAndCalled
  refine wpAny_bind (L2.at (wpAny_bind (wpAny_attempt (wpAny_holding ?_))))
  rw [hx0]
  show wpAny _ _ (bindSpecial (.builtin "BaseException.__getattribute__") (.ref e) >>= _) _ _ _
  refine wpAny_bind (wpAny_of_eq f3 ?_)
  refine wpAny_mono (Q := fun u s' => u = v ∧ s' = ⟨hh, g, dr, t + 1, os⟩) (E := fun _ _ => False) (wpAny_call (codeAny_call_builtin FB.ga.plain PySem.F.entry_bexc_ga (@check_slot (model prog w) _ _ ⟨hh, g, dr, t + 1, os⟩ "BaseException.__getattribute__" "BaseException" "__getattribute__" (.ref e) [.str f t] [] _ (by decide +kernel) (by decide +kernel)
    (T.andThen (looks_mroIn X k6)) (PySem.F.args_bexc_ga _ _) ?_))) (fun u s' hu => ?_) fun _ _ z => z.elim
  · unfold Builtin.«object.__getattribute__»
    repeat (first | (with_reducible refine Looks.at T ?_) | (with_reducible refine Looks.at L3 ?_) | wp_step)
    all_goals exact ⟨rfl, rfl⟩
  · obtain ⟨rfl, rfl⟩ := hu
    show wpAny _ _ (handedOut u) _ _ _
    rw [handedOut_of hh']
    exact wpAny_pure hq
end
def tXFld (K : Frag) (ta : TE) (f : Str) : TE:=fun σ H Q=>ta σ H fun x H1=>∃ e C d fs v,x = .ref e/\H1 e = some (excO e C (some d))/\H1 d = some (.xd fs)/\attrIn K C f = true/\fs.lookup f = some v/\Q v H1
def sXFld (K : Frag) (ta tv : TE) (f : Str) : TS := fun D σ H => tv σ H fun y H1 => ta σ H1 fun x H2 => ∃ e C, x = .ref e ∧ attrIn K C f = true ∧
  ((H2 e = some (excN e C none) ∧ ∀ d, H2 d = none → D.nx σ (upd (upd H2 d (.xd [(f, y)])) e (excN e C (some d)))) ∨
   ∃ d fs, H2 e = some (excN e C (some d)) ∧ H2 d = some (.xd fs) ∧ fs.length < 1000 ∧ D.nx σ (upd H2 d (.xd (putF f y fs))))
section
variable {X : Cx} {o value : Expr} {f : Str} {pos pos' : Pos} {ta tv : TE}
theorem pe_xfld (he : PE X o ta) (hb : attributeBase o f X.env (eval o X.env) = eval o X.env:=by rfl) : PE X (.Attribute o f pos) (tXFld X.K ta f):=by
 intro pins s σ H Q I h
 refine attr_of hb (thn (he pins s σ H _ I h) fun u s1 ⟨x,H1,I1,rx,e,C,d,fs,v,ex,e1,e2,k,l,q⟩=>?_)
 subst ex
 obtain rfl : u = Value.ref e:=rx
 obtain ⟨vs,oe⟩:=I1.hok.exc e1
 obtain ⟨mA,hn,r⟩:=I1.hok d _ e2
 obtain ⟨y,hy,ry⟩ : ∃ y,mA f = some y/\RelV v y:=by
  have:=r f
  rw [l] at this
  cases z : mA f with
  | none=>rw [z] at this;exact this.elim
  | some y=>rw [z] at this;exact ⟨y,rfl,this⟩
 exact load_exc I1.kIn oe hn k hy (handed_of ry) ⟨v,H1,I1.tok _,ry,q⟩
theorem Inv.firstX {pins : List (Addr × Obj)} {σ : St} {H : Hp} {s : Shared} {h' : Heap} {t' : Nat} {e C : Addr} {vs : Array Value} {fs : List (Str × V)} {mA : Str->Option Value} (I : Inv X pins σ H s) (he : H e = some (excN e C none)) (q : h'.get? e = some (excObj C (some s.heap.objs.size) vs)) (q1 : (vs[1]? : Option Value) = some .none)
  (hn : h'.Ns1 s.heap.objs.size mA) (r : ∀ f,RelO (fs.lookup f) (mA f)) (k : ∀ b o,b ≠ e->s.heap.get? b = some o->h'.get? b = some o) :
  Inv X pins σ (upd (upd H s.heap.objs.size (.xd fs)) e (excN e C (some s.heap.objs.size))) { s with heap:=h',toks:=t' }:=by
 obtain ⟨_,oe,_⟩:=I.hok.exn he
 have ne : s.heap.objs.size ≠ e:=Nat.ne_of_gt (Heap.lt_size oe)
 have nd : ∀ {b o},s.heap.get? b = some o->b ≠ s.heap.objs.size:=fun z=>Nat.ne_of_lt (Heap.lt_size z)
 have fr : H s.heap.objs.size = none:=I.hok.fresh (Nat.le_refl _)
 have kH : ∀ b u,H b = some u->b ≠ e->upd (upd H s.heap.objs.size (.xd fs)) e (excN e C (some s.heap.objs.size)) b = some u:=fun b u z n=>by
  rw [upd_ne n,upd_ne (fun y=>by rw [y,fr] at z;cases z)];exact z
 have tn : ∀ b u,H b = some u->u ≠ excN e C none->b ≠ e:=fun b u z n y=>by rw [y,he] at z;exact n (Option.some.inj z).symm
 refine I.un ⟨fun b o z n _ _=>k b o (fun y=>by rw [y,he] at n;cases n) z,fun b o z n _ _=>⟨o.slots,k b o (fun y=>by rw [y,he] at n;cases n) z⟩,fun b o z n _=>?_,fun b o z _=>?_,fun b xs z=>kH b _ z (tn b _ z fun y=>by cases y),fun b o u z=>kH b _ z (tn b _ z fun y=>by cases y),fun b ps z=>⟨#[],by rw [kH b _ z (tn b _ z fun y=>by cases y)];simp⟩⟩ fun b u z=>?_
 ·rw [upd_ne (fun y=>by rw [y,he] at n;cases n),upd_ne (nd z)];exact n
 ·by_cases hb : b = e
  ·exact ⟨_,hb ▸ q⟩
  ·exact ⟨o,k b o hb z⟩
 ·by_cases hb : b = e
  ·subst hb
   rw [upd_same] at z
   cases z
   exact excN.ok q q1
  ·rw [upd_ne hb] at z
   by_cases hd : b = s.heap.objs.size
   ·subst hd
    rw [upd_same] at z
    cases z
    exact ⟨mA,hn,r⟩
   ·rw [upd_ne hd] at z
    refine (I.hok b u z).stay (fun c v hc y=>k c v (fun x=>?_) y) (fun c y=>kH c _ y (tn c _ y fun x=>by cases x)) (fun c xs y=>kH c _ y (tn c _ y fun x=>by cases x))
    subst x
    rcases hc with x | x
    ·exact hb x.symm
    ·rw [he] at x;cases x
theorem Inv.nextX {pins : List (Addr × Obj)} {σ : St} {H : Hp} {s : Shared} {h' : Heap} {t' : Nat} {d : Addr} {fs fs' : List (Str × V)} {mA : Str->Option Value} (I : Inv X pins σ H s) (he : H d = some (.xd fs)) (sb : Heap.SameBut d s.heap h') (hn : h'.Ns1 d mA) (r : ∀ f,RelO (fs'.lookup f) (mA f)) :
  Inv X pins σ (upd H d (.xd fs')) { s with heap:=h',toks:=t' }:=by
 have k : ∀ b o,b ≠ d->s.heap.get? b = some o->h'.get? b = some o:=fun b o n z=>(sb.2 b n).trans z
 have tn : ∀ b u,H b = some u->u ≠ .xd fs->b ≠ d:=fun b u z n y=>by rw [y,he] at z;exact n (Option.some.inj z).symm
 have kH : ∀ b u,H b = some u->b ≠ d->upd H d (.xd fs') b = some u:=fun b u z n=>by rw [upd_ne n];exact z
 refine I.un ⟨fun b o z n _ _=>k b o (fun y=>by rw [y,he] at n;cases n) z,fun b o z n _ _=>⟨o.slots,k b o (fun y=>by rw [y,he] at n;cases n) z⟩,fun b o z n _=>by rw [upd_ne (fun y=>by rw [y,he] at n;cases n)];exact n,fun b o z _=>?_,fun b xs z=>kH b _ z (tn b _ z fun y=>by cases y),fun b o u z=>kH b _ z (tn b _ z fun y=>by cases y),fun b ps z=>⟨#[],by rw [kH b _ z (tn b _ z fun y=>by cases y)];simp⟩⟩ fun b u z=>?_
 ·by_cases hb : b = d
  ·obtain ⟨o,_,_,z,_⟩:=hn
   exact ⟨_,hb ▸ z⟩
  ·exact ⟨o,k b o hb z⟩
 ·by_cases hb : b = d
  ·subst hb
   rw [upd_same] at z
   cases z
   exact ⟨mA,hn,r⟩
  ·rw [upd_ne hb] at z
   refine (I.hok b u z).stay (fun c v hc y=>k c v (fun x=>?_) y) (fun c y=>kH c _ y (tn c _ y fun x=>by cases x)) (fun c xs y=>kH c _ y (tn c _ y fun x=>by cases x))
   subst x
   rcases hc with x | x
   ·exact hb x.symm
   ·rw [he] at x;cases x
theorem ps_xfld (ha : PE X o ta) (hv : PE X value tv) (hs : swapsWith value (some (.Attribute o f pos')) pos.line X.env = pure false:=by rfl) : PS X (.Assign [.Attribute o f pos'] value pos) (sXFld X.K ta tv f):=by
 intro pins s σ H D I h
 refine plainObj_wpAny_Assign_Attribute (thn (hv pins s σ H _ I h) fun u s1 ⟨y,H1,I1,ry,q⟩=>thn (ha pins s1 σ H1 _ I1 q) fun ov s2 ⟨x,H2,I2,rx,e,C,ex,k,q2⟩=>?_) hs
 subst ex
 obtain rfl : ov = Value.ref e:=rx
 rcases q2 with ⟨e1,q2⟩ | ⟨d,fs,e1,e2,hl,q2⟩
 ·obtain ⟨vs,oe,f1⟩:=I2.hok.exn e1
  refine store_first I2.kIn oe k fun h' tk z1 z2 z3=>⟨σ,_,I2.firstX e1 z1 f1 z2 (fun g=>?_) z3,q2 _ (I2.hok.fresh (Nat.le_refl _))⟩
  show RelO (List.lookup g [(f,y)]) (if g = f then some u else none)
  rw [List.lookup_cons]
  by_cases hg : g = f
  ·rw [if_pos hg,show (g == f) = true by simp [hg]];exact ry
  ·rw [if_neg hg,show (g == f) = false by simp [hg]];trivial
 ·obtain ⟨vs,oe,f1⟩:=I2.hok.exn e1
  obtain ⟨mA,hn,r⟩:=I2.hok d _ e2
  refine store_next (ns:=fs.map (·.1)) I2.kIn oe hn (fun g hg=>?_) (by rw [List.length_map];exact Nat.le_of_lt hl) k fun h' tk z1 z2=>⟨σ,_,I2.nextX e2 z2 z1 (fun g=>?_),q2⟩
  ·have:=r g
   cases z : fs.lookup g with
   | none=>rw [z] at this;cases z' : mA g with | none=>exact absurd z' hg | some _=>rw [z'] at this;exact this.elim
   | some v=>exact List.mem_map.mpr ⟨(g,v),PySem.mem_of_lookup z,rfl⟩
  ·rw [lookup_putF]
   by_cases hg : g = f
   ·rw [if_pos hg,if_pos hg];exact ry
   ·rw [if_neg hg,if_neg hg];exact r g
end
end L2
end

section
set_option Elab.async false
set_option linter.all false
set_option maxRecDepth 100000
namespace L2
open PySem PySem.Spec PyProof.Rows PySem.W
def kindIn (K : Frag) (C : Addr) : Bool := findIn K (.ref C) "__getattribute__" == some (some (.builtin "BaseException.__getattribute__")) && findIn K (.ref C) "__getattr__" == some none && findIn K (.ref C) "__class__" == some (some (.builtin "object.__class__")) &&
  specialIn K (.builtin "object.__class__") "__get__" == some (some (.builtin "getset_descriptor.__get__")) && takesIn K (.builtin "object.__class__") == some true && mroIn K C (.type "object") == some true && mroIn K C (.type "BaseException") == some true && (clsIn K C).isSome
section
variable {K : Frag} {e C d : Addr}
theorem kitx_exc (hk : kindIn K C = true) : KitX K (.ref e) (.ref C) (fun h => ∃ vs od, InstAt h e (excObj C (some d) vs) C (some od)) := by
  unfold kindIn at hk
  simp only [Bool.and_eq_true, beq_iff_eq] at hk
  obtain ⟨⟨⟨⟨⟨⟨⟨k1, k2⟩, k3⟩, k4⟩, k5⟩, k6⟩, k7⟩, k8⟩ := hk
  obtain ⟨cd, hc⟩ := Option.isSome_iff_exists.mp k8
  have cls : ∀ {h : Heap}, K.In h → ∃ oD, h.get? C = some oD ∧ oD.data = .cls cd := fun {h} X => by
    unfold clsIn at hc
    split at hc
    · rename_i ho
      cases hc
      exact ⟨_, X _ _ ho, rfl⟩
    · cases hc
  refine ⟨fun _ _ _ ⟨_, _, I⟩ => I.type, fun M h X _ => ?_, fun h tp dd its n sl X htp => ?_, ?_⟩
  · obtain ⟨oD, h1, h2⟩ := cls X
    intro A' Q' E' s' k q
    unfold isType loadHead
    refine wpAny_bind (wpAny_loadPart (k _ _ h1) ?_)
    rw [h2]
    exact wpAny_pure q
  · obtain ⟨oD, h1, h2⟩ := cls X
    refine Bool.eq_false_iff.mpr fun q => ?_
    have z : C = tp := Value.ref.inj (beq_iff_eq.mp q)
    rw [z, htp] at h1
    cases h1
    cases h2
  · intro prog w A E Q s X ⟨vs, od, I⟩ hq
    obtain ⟨hh, g, dr, t, os⟩ := s
    have hf : findObj K C (some od) "__class__" = some (.bind (.builtin "getset_descriptor.__get__") (.builtin "object.__class__")) := findObj_data k8 k3 k4 k5
    have T := I.type (M := model prog w)
    have L1 := looks_findIn (M := model prog w) X k1
    have L2 := looks_findIn (M := model prog w) X k2
    have L3 := looks_find (M := model prog w) X I hf
    have FB := PySem.F.attr_ValueError
    have f3 := FB.ga.bind (.ref e)
    unfold getAttr? getAttrBy?; unfold getAttrBy
    refine wpAny_bind (wpAny_mkText (wpAny_bind (wpAny_attempt (wpAny_holding (wpAny_bind (T.at (wpAny_bind (L1.at ?_))))))))
    show wpAny _ _ (getAttrByItsOwn (.ref e) (.str "__class__" t) (.ref C) (.builtin "BaseException.__getattribute__") false false) _ _ _
    unfold getAttrByItsOwn hookBefore; unfold callGetattribute boundAndCalled
    refine wpAny_bind (L2.at (wpAny_bind (wpAny_attempt (wpAny_holding ?_))))
    show wpAny _ _ (bindSpecial (.builtin "BaseException.__getattribute__") (.ref e) >>= _) _ _ _
    refine wpAny_bind (wpAny_of_eq f3 ?_)
    refine wpAny_mono (Q := fun u s' => u = .ref C ∧ s' = ⟨hh, g, dr, t + 1, os⟩) (E := fun _ _ => False) (wpAny_call (codeAny_call_builtin FB.ga.plain PySem.F.entry_bexc_ga (@check_slot (model prog w) _ _ ⟨hh, g, dr, t + 1, os⟩ "BaseException.__getattribute__" "BaseException" "__getattribute__" (.ref e) [.str "__class__" t] [] _ (by decide +kernel) (by decide +kernel)
      (T.andThen (looks_mroIn X k7)) (PySem.F.args_bexc_ga _ _) ?_))) (fun u s' hu => ?_) fun _ _ z => z.elim
    · unfold Builtin.«object.__getattribute__»
      repeat (first | (with_reducible refine Looks.at T ?_) | (with_reducible refine Looks.at L3 ?_) | wp_step)
      refine class_get (s := ⟨hh, g, dr, t + 1, os⟩) X I k6 ?_
      repeat (first | exact ⟨rfl, rfl⟩ | wp_step)
    · obtain ⟨rfl, rfl⟩ := hu
      exact wpAny_pure (wpAny_pure hq)
end
def cV : V->Option Value
 | .ref a=>some (.ref a)
 | .ty n=>some (.type n)
 | _=>none
def rIsiX (K : Frag) : List V->Hp->VK->Prop:=fun vs H Q=>∃ e C d fs c cv b,vs = [.ref e,c]/\H e = some (excO e C (some d))/\H d = some (.xd fs)/\kindIn K C = true/\cV c = some cv/\kitOne K (.ref C) cv = some b/\Q (.bl b) H
theorem call_isix {X : Cx} : CallR X (.builtin "isinstance") (rIsiX X.K):=by
 intro pins s σ H xs us Q I r h
 obtain ⟨e,C,d,fs,c,cv,b,rfl,h1,h2,k,hc,hb,q⟩:=h
 obtain ⟨u1,u2,rfl,r1,r2⟩:=r.two
 obtain rfl : u1 = Value.ref e:=r1
 obtain rfl : u2 = cv:=by
  cases c with
  | ref a=>cases hc;exact r2
  | ty n=>cases hc;exact r2
  | _=>cases hc
 obtain ⟨vs,oe⟩:=I.hok.exc h1
 obtain ⟨mA,hn,_⟩:=I.hok d _ h2
 obtain ⟨od,hod,_⟩:=lookIn_ns hn
 exact kia_one (kitx_exc (d:=d) k) I.kIn ⟨vs,od,oe,rfl,rfl,hod⟩ hb (fun z=>nomatch z) fun tk=>⟨.bl b,H,I.tok tk,rfl,q⟩
end L2
end

section
set_option Elab.async false
set_option linter.all false
set_option maxRecDepth 100000
namespace L2
open PySem PySem.Spec PyProof.Rows PySem.W
theorem PS.nox {X : Cx} {st : Stmt} {t : TS} (h : PS X.nox st t) : PS X st t:=fun pins s σ H D I hw =>
 wpAny_mono (h pins s σ H D (I.wish _) hw) (fun _ _ q=>q.unwish) fun _ _ z=>False.elim z
theorem boot_tVE : bootBuiltins ("ValueError" : Str) = some (.type "ValueError"):=by decide +kernel
def inCls (st : Stmt) (j : Nat) : Stmt:=match st with
 | .ClassDef _ _ _ body _ _ _ _ _ _ _=>body.getD j (.Pass ⟨0,0,0,0⟩)
 | _=>.Pass ⟨0,0,0,0⟩
structure IniIn (P : Program) (K : Frag) (mg : Str->Option Value) (qual : Str) (st : Stmt) (C f cc cda : Addr) (fd : FuncData) : Prop where
 fn : ∃ (oc : Value) (od : Option Addr) (kV doc pm : Value) (an : Option Addr) (ct : Value) (osl : Array (Option Value)),fd = ksFn "__init__" qual (defArgs st) (defBody st) (defScope st) .none kV doc pm an (.ref cda) ct cc/\K.lookup f = some ⟨oc,od,.func fd,osl⟩
 code : PySem.W.codeIn K (.ref cda) qual = true
 file : ∃ (ccl : Value) (cdd : Option Addr) (vs : Array Value) (ccs : Array (Option Value)) (x : Str) (tf : Tok),K.lookup cda = some ⟨ccl,cdd,.fields vs,ccs⟩/\(vs[2]? : Option Value) = some (.str x tf)/\((P.main.file : Str) == x) = true
 cell : ∃ (cl : Value) (cld : Option Addr) (csl : Array (Option Value)),K.lookup cc = some ⟨cl,cld,.cell (some (.ref C)),csl⟩
 sup : mg "super" = none
 top : (P.main.scope.names.lookup ("super" : Str)).isSome = false
 all : excAll K C = true
theorem excO_inj {e C C' : Addr} {d d' : Option Addr} (h : excO e C d = excO e C' d') : C = C'/\d = d':=by
 have h1 : (fun h : Heap=>∃ vs,h.get? e = some (excObj C d vs)) = (fun h : Heap=>∃ vs,h.get? e = some (excObj C' d' vs)):=HO.ext.inj h
 have get : ({ objs:=Array.replicate (e + 1) (excObj C d #[]) } : Heap).get? e = some (excObj C d #[]):=by
  unfold Heap.get?
  rw [show ({ objs:=Array.replicate (e + 1) (excObj C d #[]) } : Heap).objs[e]? = some (excObj C d #[]) by simp]
  rfl
 have h2 : ∃ vs,({ objs:=Array.replicate (e + 1) (excObj C d #[]) } : Heap).get? e = some (excObj C' d' vs):=by
  have h3:=congrFun h1 ({ objs:=Array.replicate (e + 1) (excObj C d #[]) } : Heap)
  exact h3 ▸ ⟨#[],get⟩
 obtain ⟨vs,z⟩:=h2
 rw [get] at z
 have z':=Option.some.inj z
 injection z' with a b
 injection a with a
 exact ⟨a,b⟩
end L2
end

section
set_option Elab.async false
set_option linter.all false
set_option maxRecDepth 100000
namespace L2
open PySem PySem.Spec PyProof.Rows PySem.W
section
variable {X : Cx}
theorem vals_refs : ∀ {Cs : List Addr} {us : List Value},Vals (Cs.map V.ref) us->us = Cs.map Value.ref
 | [],_,.nil=>rfl
 | c :: Cs,_,.cons r t=>by cases r;rw [vals_refs t];rfl
def rIsiXT (K : Frag) : List V->Hp->VK->Prop:=fun vs H Q=>∃ (e C d : Addr) (fs : List (Str × V)) (tp : Addr) (Cs : List Addr) (b : Bool),vs = [.ref e,.ref tp]/\H e = some (excO e C (some d))/\H d = some (.xd fs)/\kindIn K C = true/\H tp = some (.tup (Cs.map V.ref))/\kitAny K (.ref C) (Cs.map Value.ref) = some b/\Q (.bl b) H
theorem call_isixT : CallR X (.builtin "isinstance") (rIsiXT X.K):=by
 intro pins s σ H xs us Q I r h
 obtain ⟨e,C,d,fs,tp,Cs,b,rfl,h1,h2,k,ht,hb,q⟩:=h
 obtain ⟨u1,u2,rfl,r1,r2⟩:=r.two
 obtain rfl : u1 = Value.ref e:=r1
 obtain rfl : u2 = Value.ref tp:=r2
 obtain ⟨vs,oe⟩:=I.hok.exc h1
 obtain ⟨mA,hn,_⟩:=I.hok d _ h2
 obtain ⟨od,hod,_⟩:=lookIn_ns hn
 obtain ⟨its,rv,⟨⟨cls,dd,data,sl⟩,ho,hc,n,hd⟩,_⟩:=I.tuple (SqT.of (K:=X.K) ht)
 simp only at hc hd
 subst hc hd
 obtain rfl:=vals_refs rv
 exact kia_tup (kitx_exc (d:=d) k) I.kIn ⟨vs,od,oe,rfl,rfl,hod⟩ ho hb (fun z=>nomatch z) fun tk=>⟨.bl b,H,I.tok tk,rfl,q⟩
end
theorem Ext.fresh {H H2 : Hp} {p : Addr} (e : Ext [] H H2) (h : H2 p = none) : H p = none:=by
 cases z : H p with
 | none=>rfl
 | some o =>
  by_cases zt : ∃ ps,o = .tbl ps
  ·obtain ⟨ps,rfl⟩:=zt
   obtain ⟨ps',z',_⟩:=e.tab p ps (by simp) z
   rw [h] at z'
   cases z'
  ·have:=e.old p o (by simp) z fun ps z2=>zt ⟨ps,z2⟩
   rw [h] at this
   cases this
end L2
end

section
set_option Elab.async false
set_option linter.all false
set_option maxRecDepth 100000
namespace L2
open PySem PySem.Spec PyProof.Rows
structure Kd where
 nm : Str
 way : List Int
 bds : List Int
structure Cd where
 nm : Str
 kd : Str
 pl : Int
 bk : Bool
structure Wt where
 cd : Str
 ln : Int
 ot : Str
structure Pl where
 ls : List (Str × Int)
 ks : List Kd
structure Sd where
 bs : List Int
 cs : List Cd
 ws : List Wt
def Kd.d (k : Kd) : PyData:=.tuple [.str k.nm,.tuple (k.way.map .int),.tuple (k.bds.map .int)]
def Cd.d (c : Cd) : PyData:=.tuple [.str c.nm,.str c.kd,.int c.pl,.bool c.bk]
def Wt.d (w : Wt) : PyData:=.tuple [.str w.cd,.int w.ln,.str w.ot]
def lnD (l : Str × Int) : PyData:=.tuple [.str l.1,.int l.2]
def Pl.d (p : Pl) : PyData:=.tuple [.tuple (p.ls.map lnD),.tuple (p.ks.map Kd.d)]
def Sd.d (s : Sd) : PyData:=.tuple [.tuple (s.bs.map .int),.tuple (s.cs.map Cd.d),.tuple (s.ws.map Wt.d)]
def Pl.n (p : Pl) : Int:=p.ls.length
def Pl.kd? (p : Pl) (x : Str) : Option Kd:=p.ks.find? fun k=>k.nm == x
def Sd.cd? (s : Sd) (x : Str) : Option Cd:=s.cs.find? fun c=>c.nm == x
def Pl.at (p : Pl) (k : Str) (j : Int) : Int:=if j = 0 then -1 else match p.kd? k with
 | some kd=>if (kd.way.length : Int) < j then p.n else kd.way.getD (j - 1).toNat 0
 | none=>0
def Pl.lane (p : Pl) (c : Cd) : Int:=p.at c.kd c.pl
def Sd.inL (s : Sd) (p : Pl) (l : Int) : List Str:=(s.cs.filter fun c=>p.lane c == l).map (·.nm)
def Sd.many (s : Sd) (p : Pl) (l : Int) (k : Str) : Nat:=(s.cs.filter fun c=>c.kd == k && p.at k c.pl == l).length
structure POk (p : Pl) : Prop where
 nl : p.ls.length <= 900
 nk : p.ks.length <= 900
 ln : ∀ l ∈ p.ls,l.1.length <= 1000
 kw : ∀ k ∈ p.ks,k.way.length <= 900/\k.bds.length = k.way.length/\k.nm.length <= 1000/\∀ i ∈ k.way,0 <= i/\i < p.n
def COk (p : Pl) (c : Cd) : Prop:=c.nm.length <= 1000/\∃ k,p.kd? c.kd = some k/\0 <= c.pl/\c.pl <= k.way.length + 1
structure SOk (p : Pl) (s : Sd) : Prop where
 nb : s.bs.length = p.ls.length
 nc : s.cs.length <= 900
 c : ∀ c ∈ s.cs,COk p c
 nw : s.ws.length <= 900
 w : ∀ w ∈ s.ws,(s.cd? w.cd).isSome = true/\(s.cd? w.ot).isSome = true/\w.cd.length <= 1000/\w.ot.length <= 1000
theorem find_at {α : Type} {p : α->Bool} : ∀ (ls : List α) (i : Nat) (a : α),(∀ j b,j < i->ls[j]? = some b->p b = false)->ls[i]? = some a->p a = true->ls.find? p = some a
 | [],_,_,_,hd,_=>by simp at hd
 | b :: ls,0,a,_,hd,hp=>by
  have : b = a:=by simpa using hd
  rw [List.find?_cons,this,hp]
 | b :: ls,i + 1,a,h,hd,hp=>by
  rw [List.find?_cons,h 0 b (by omega) rfl]
  exact find_at ls i a (fun j d hj hd=>h (j + 1) d (by omega) (by simpa using hd)) (by simpa using hd) hp
theorem find_no {α : Type} {p : α->Bool} : ∀ (ls : List α) (i : Nat),(∀ j b,j < i->ls[j]? = some b->p b = false)->ls.length <= i->ls.find? p = none
 | [],_,_,_=>rfl
 | b :: ls,i,h,hl=>by
  rw [List.find?_cons,h 0 b (by simp at hl;omega) rfl]
  exact find_no ls (i - 1) (fun j d hj hd=>h (j + 1) d (by omega) (by simpa using hd)) (by simp at hl;omega)
section
variable {H : Hp} {v : V} {ex : List Addr}
theorem Kd.view {k : Kd} (h : IsD ex H k.d v) : ∃ a wa ba,v = .ref a/\H a = some (.tup [.str k.nm,.ref wa,.ref ba])/\H wa = some (.tup (k.way.map V.int))/\H ba = some (.tup (k.bds.map V.int)):=by
 obtain ⟨a,us,rfl,_,ha,v1,r1,rfl,h1,v2,r2,rfl,h2,v3,r3,rfl,h3,rfl⟩:=h
 obtain rfl : v1 = .str k.nm:=h1
 obtain ⟨wa,ws,rfl,_,hw,hws⟩:=h2
 obtain ⟨ba,bs,rfl,_,hb,hbs⟩:=h3
 obtain rfl:=IsDs.ints_of hws
 obtain rfl:=IsDs.ints_of hbs
 exact ⟨a,wa,ba,rfl,ha,hw,hb⟩
theorem Cd.view {c : Cd} (h : IsD ex H c.d v) : ∃ a,v = .ref a/\H a = some (.tup [.str c.nm,.str c.kd,.int c.pl,.bl c.bk]):=by
 obtain ⟨a,us,rfl,_,ha,v1,r1,rfl,h1,v2,r2,rfl,h2,v3,r3,rfl,h3,v4,r4,rfl,h4,rfl⟩:=h
 obtain rfl : v1 = .str c.nm:=h1
 obtain rfl : v2 = .str c.kd:=h2
 obtain rfl : v3 = .int c.pl:=h3
 obtain rfl : v4 = .bl c.bk:=h4
 exact ⟨a,rfl,ha⟩
theorem Wt.view {w : Wt} (h : IsD ex H w.d v) : ∃ a,v = .ref a/\H a = some (.tup [.str w.cd,.int w.ln,.str w.ot]):=by
 obtain ⟨a,us,rfl,_,ha,v1,r1,rfl,h1,v2,r2,rfl,h2,v3,r3,rfl,h3,rfl⟩:=h
 obtain rfl : v1 = .str w.cd:=h1
 obtain rfl : v2 = .int w.ln:=h2
 obtain rfl : v3 = .str w.ot:=h3
 exact ⟨a,rfl,ha⟩
theorem Pl.view {p : Pl} (h : IsD ex H p.d v) : ∃ a la ka lv kv,v = .ref a/\H a = some (.tup [.ref la,.ref ka])/\H la = some (.tup lv)/\IsDs ex H (p.ls.map lnD) lv/\H ka = some (.tup kv)/\IsDs ex H (p.ks.map Kd.d) kv/\lv.length = p.ls.length/\kv.length = p.ks.length:=by
 obtain ⟨a,us,rfl,_,ha,v1,r1,rfl,h1,v2,r2,rfl,h2,rfl⟩:=h
 obtain ⟨la,lv,rfl,_,hl,hlv⟩:=h1
 obtain ⟨ka,kv,rfl,_,hk,hkv⟩:=h2
 have e1:=hlv.length
 have e2:=hkv.length
 rw [List.length_map] at e1 e2
 exact ⟨a,la,ka,lv,kv,rfl,ha,hl,hlv,hk,hkv,e1,e2⟩
theorem Sd.view {s : Sd} (h : IsD ex H s.d v) : ∃ a ba ca wa cv wv,v = .ref a/\H a = some (.tup [.ref ba,.ref ca,.ref wa])/\H ba = some (.tup (s.bs.map V.int))/\H ca = some (.tup cv)/\IsDs ex H (s.cs.map Cd.d) cv/\H wa = some (.tup wv)/\IsDs ex H (s.ws.map Wt.d) wv/\cv.length = s.cs.length/\wv.length = s.ws.length:=by
 obtain ⟨a,us,rfl,_,ha,v1,r1,rfl,h1,v2,r2,rfl,h2,v3,r3,rfl,h3,rfl⟩:=h
 obtain ⟨ba,bv,rfl,_,hb,hbv⟩:=h1
 obtain ⟨ca,cv,rfl,_,hc,hcv⟩:=h2
 obtain ⟨wa,wv,rfl,_,hw,hwv⟩:=h3
 obtain rfl:=IsDs.ints_of hbv
 have e1:=hcv.length
 have e2:=hwv.length
 rw [List.length_map] at e1 e2
 exact ⟨a,ba,ca,wa,cv,wv,rfl,ha,hb,hc,hcv,hw,hwv,e1,e2⟩
theorem IsDs.nth {α : Type} {f : α->PyData} {xs : List α} {vs : List V} {i : Nat} {y : V} (h : IsDs ex H (xs.map f) vs) (hy : vs[i]? = some y) : ∃ x,xs[i]? = some x/\IsD ex H (f x) y:=by
 have hl:=h.length
 rw [List.length_map] at hl
 have hi : i < xs.length:=by have:=(List.getElem?_eq_some_iff.mp hy).1;omega
 obtain ⟨y',hy',hd⟩:=h.get (i:=i) (d:=f xs[i]) (by rw [List.getElem?_map,List.getElem?_eq_getElem hi];rfl)
 rw [hy] at hy'
 cases hy'
 exact ⟨xs[i],List.getElem?_eq_getElem hi,hd⟩
theorem IsDs.nth' {α : Type} {f : α->PyData} {xs : List α} {vs : List V} {i : Nat} {x : α} (h : IsDs ex H (xs.map f) vs) (hx : xs[i]? = some x) : ∃ y,vs[i]? = some y/\IsD ex H (f x) y :=
 h.get (by rw [List.getElem?_map,hx];rfl)
end
theorem kd_in {p : Pl} {x : Str} {k : Kd} (h : p.kd? x = some k) : k ∈ p.ks/\k.nm = x:=by
 have h1:=List.find?_some h
 exact ⟨List.mem_of_find?_eq_some h,by simpa using h1⟩
theorem cd_in {s : Sd} {x : Str} {c : Cd} (h : s.cd? x = some c) : c ∈ s.cs/\c.nm = x:=by
 have h1:=List.find?_some h
 exact ⟨List.mem_of_find?_eq_some h,by simpa using h1⟩
theorem at_zero (p : Pl) (k : Str) : p.at k 0 = -1:=by unfold Pl.at;rw [if_pos rfl]
theorem at_out {p : Pl} {x : Str} {k : Kd} {j : Int} (h : p.kd? x = some k) (hj : (k.way.length : Int) < j) : p.at x j = p.n:=by
 unfold Pl.at
 rw [if_neg (by omega),h]
 show (if (k.way.length : Int) < j then p.n else _) = _
 rw [if_pos hj]
theorem at_way {p : Pl} {x : Str} {k : Kd} {j : Int} (h : p.kd? x = some k) (h1 : 1 <= j) (h2 : j <= k.way.length) : ∃ w,k.way[(j - 1).toNat]? = some w/\p.at x j = w:=by
 have hi : (j - 1).toNat < k.way.length:=by omega
 refine ⟨k.way[(j - 1).toNat],List.getElem?_eq_getElem hi,?_⟩
 unfold Pl.at
 rw [if_neg (by omega),h]
 show (if (k.way.length : Int) < j then p.n else _) = _
 rw [if_neg (by omega),List.getD_eq_getElem?_getD,List.getElem?_eq_getElem hi]
 rfl
def XFs (C : Addr) (fs : List (Str × V)) (H : Hp) (E : XK) : Prop := ∀ e d H',Ext [] H H'->H' e = some (excO e C (some d))->H' d = some (.xd fs)->E (.ref e) (some d) H'
theorem XFs.up {C : Addr} {fs : List (Str × V)} {H H' : Hp} {E : XK} (h : XFs C fs H E) (e : Ext [] H H') : XFs C fs H' E:=fun ex d H2 e2=>h ex d H2 (e.trans e2)
theorem XFs.on {C : Addr} {fs : List (Str × V)} {H : Hp} {E : XK} (h : XFs C fs H E) : XFs C fs H (fun v d H'=>∀ e C',v = .ref e->H' e = some (excO e C' d)->E (.ref e) d H'):=fun ex d H2 e2 h1 h2 e' C' z h3=>by
 cases z
 exact h ex d H2 e2 h1 h2
end L2
end

section
set_option Elab.async false
set_option linter.all false
set_option maxRecDepth 100000
namespace L2
open PySem PySem.Spec PyProof.Rows PySem.SeqAt
theorem tuple_indexAt (l : Addr) (items : Array Value) (n : Nat) (dd : Option Addr) (sl : Array (Option Value)) (x : Value) (e : Value->Bool) (j : Nat) (hj : j < items.size) (hit : e items[j] = true) (hno : ∀ m (hm : m < items.size),m < j->e items[m] = false) :
  Meets (Builtin.«tuple.index» ⟨[.ref l,x],[]⟩)
   (fun A R s=>s.heap.get? l = some { cls:=.type "tuple",dict:=dd,data:=.seq items n,slots:=sl }/\(∀ y,y ∈ items->EqAt A.in1 s y x (e y))/\R (.ok (.ret (.int (j : Nat) s.toks))) { s with toks:=s.toks + 1 }) :=
 .of_wp fun prog w A R s h=>by
  obtain ⟨hp,g,d,tk,os⟩:=s;obtain ⟨hl,he,h⟩:=h
  unfold Builtin.«tuple.index»
  simp only [Std.Legacy.Range.forIn_eq_forIn_range',Std.Legacy.Range.size]
  wp_walk using AutoSeq1.wpAny_loadPart' hl,wpAny_forIn_list _ (fun rest (b : Option PySem.Fin × Unit) s'=>∃ i,i <= j/\b.1 = none/\rest = List.range' i (items.size - i)/\s' = ⟨hp,g,d,tk,os⟩) _
  case turn =>
   rintro x1 rest b s' ⟨i,hi,hb,hr,rfl⟩
   rw [show items.size - i = (items.size - (i + 1)) + 1 by omega,List.range'_succ] at hr
   injection hr with h1 h2
   subst h1 h2
   have hx : x1 < items.size:=by omega
   rw [Array.getElem?_eq_getElem hx]
   refine wpAny_bind (he _ (Array.getElem_mem hx) prog w _ _ ?_)
   by_cases hij : x1 = j
   ·subst hij
    rw [hit]
    wp_walk
    exact ⟨_,rfl,h⟩
   ·rw [hno x1 hx (by omega)]
    wp_walk
    exact ⟨x1 + 1,by omega,rfl,rfl,rfl⟩
  case fin =>
   rintro b s' ⟨i,hi,hb,hr,rfl⟩
   have:=congrArg List.length hr
   rw [List.length_nil,List.length_range'] at this
   omega
  case h=>exact ⟨0,Nat.zero_le _,rfl,by simp,rfl⟩
theorem vals_at {xs : List V} {us : List Value} (r : Vals xs us) {j : Nat} (h : j < us.length) : ∃ x,xs[j]? = some x/\RelV x us[j]:=by
 have hl:=r.length
 have hj : j < xs.length:=by omega
 obtain ⟨u,hu,ru⟩:=r.get (List.getElem?_eq_getElem hj)
 rw [List.getElem?_eq_getElem h] at hu
 exact ⟨xs[j],List.getElem?_eq_getElem hj,Option.some.inj hu ▸ ru⟩
theorem eqU_at {xs : List V} {us : List Value} {y x : V} (r : Vals xs us) (f : xs.all flatV = true) {j : Nat} (h : j < us.length) (hx : xs[j]? = some x) : eqU y us[j] = eqV x y:=by
 obtain ⟨x',hx',rx⟩:=vals_at r h
 rw [hx] at hx'
 cases hx'
 exact eqU_of rx (List.all_eq_true.mp f x (List.mem_of_getElem? hx))
def firstV (y : V) (xs : List V) (j : Nat) : Prop:=(∃ x,xs[j]? = some x/\eqV x y = true)/\∀ m x,m < j->xs[m]? = some x->eqV x y = false
def rIdxV (K : PySem.W.Frag) (tup : Bool) : V->List V->Hp->VK->Prop:=fun x vs H Q=>∃ (a : Addr) (xs : List V) (y : V) (j : Nat),x = .ref a/\vs = [y]/\(if tup = true then SqT K H a xs else SqL K H a xs)/\flatV y = true/\xs.all flatV = true/\firstV y xs j/\Q (.int (j : Nat)) H
section
variable {X : Cx}
theorem mt_indexT : MtR X "tuple.index" (rIdxV X.K true):=by
 intro pins s σ H x vs v us Q I rx rv h
 obtain ⟨a,ys,z,j,rfl,rfl,hq,fz,fs,⟨⟨x,hx,ex⟩,hb⟩,q⟩:=h
 cases rx
 obtain ⟨u,rfl,ru⟩:=rv.one
 obtain ⟨its,r,pl,hl⟩:=I.tuple (show SqT X.K H a ys from hq)
 obtain ⟨⟨cls,dd,data,sl⟩,ho,hc,n,hd⟩:=pl
 simp only at hc hd
 subst hc hd
 have hlen:=r.length
 have hj : j < its.length:=by have:=(List.getElem?_eq_some_iff.mp hx).1;omega
 refine call_meets PySem.F.slot_tuple_index ⟨_,ho,rfl⟩ PySem.F.entry_tuple_index (PySem.F.args_tuple_index_2 _ _) (tuple_indexAt a its.toArray n dd sl u (eqU z) j (by rw [List.size_toArray];omega) ?_ ?_) ⟨ho,fun y hy=>mem_eqAt ru fz r fs y (by simpa using hy),⟨.int _,H,I.tok _,⟨_,rfl⟩,q⟩⟩
 ·show eqU z its[j] = true
  rw [eqU_at r fs hj hx]
  exact ex
 ·intro m hm hlt
  have hm' : m < its.length:=by simpa using hm
  show eqU z its[m] = false
  obtain ⟨x',hx',_⟩:=vals_at r hm'
  rw [eqU_at r fs hm' hx']
  exact hb m x' hlt hx'
theorem count_eqU {y : V} : ∀ {xs : List V} {us : List Value},Vals xs us->xs.all flatV = true->us.countP (eqU y) = xs.countP fun x=>eqV x y
 | _,_,.nil,_=>rfl
 | x :: xs,u :: us,.cons r t,f=>by
  rw [List.all_cons,Bool.and_eq_true] at f
  rw [List.countP_cons,List.countP_cons,eqU_of r f.1,count_eqU t f.2]
def rCountV (K : PySem.W.Frag) : V->List V->Hp->VK->Prop:=fun x vs H Q=>∃ (a : Addr) (xs : List V) (y : V),x = .ref a/\vs = [y]/\SqL K H a xs/\flatV y = true/\xs.all flatV = true/\Q (.int ((xs.countP fun x=>eqV x y : Nat))) H
theorem mt_countV : MtR X "list.count" (rCountV X.K):=by
 intro pins s σ H x vs v us Q I rx rv h
 obtain ⟨a,ys,z,rfl,rfl,hq,fz,fs,q⟩:=h
 cases rx
 obtain ⟨u,rfl,ru⟩:=rv.one
 obtain ⟨its,r,pl,hl⟩:=I.list hq
 obtain ⟨⟨cls,dd,data,sl⟩,ho,hc,n,hd⟩:=pl.isList
 simp only at hc hd
 subst hc hd
 refine call_meets PySem.F.slot_list_count ⟨_,ho,rfl⟩ PySem.F.entry_list_count (PySem.F.args_list_count_2 _ _) (SeqAt.list_countAt a its.toArray n dd sl u (eqU z)) ⟨ho,fun y hy=>mem_eqAt ru fz r fs y (by simpa using hy),⟨.int _,H,I.tok _,⟨_,rfl⟩,?_⟩⟩
 have e : (its.toArray.toList.countP (eqU z)) = ys.countP fun x=>eqV x z:=count_eqU r fs
 rw [e]
 exact q
end
end L2
namespace L2
open PySem PySem.Spec PyProof.Rows
section
variable {X : Cx}
def tBMT (r : V->List V->Hp->VK->Prop) (to : TE) (t : TA) : TE:=fun σ H Q=>to σ H fun x H1=>(∃ p xs,x = .ref p/\H1 p = some (.tup xs))/\t σ H1 fun xs H2=>r x xs H2 Q
variable {o e : Expr} {es : List Expr} {to : TE} {t : TA} {name : Str} {apos cpos : Pos} {id : String} {r : V->List V->Hp->VK->Prop}
theorem pe_bmT (pa : PlainAttrs "tuple") (slot : Slot "tuple" name id) (hty : typeOf (.builtin id) = pure (.type "method_descriptor")) (hm : MtR X id r) (ho : PE X o to) (ha : PA X (e :: es) t)
  (hbase : attributeBase o name X.env (eval o X.env) = eval o X.env:=by rfl)
  (hfew : ((backTo cpos (starEach (e :: es) X.env)).all (fun x=>!x.1) && (backToKw cpos (keywordEach [] X.env)).all (fun x=>x.1.isSome)
   && decide ((e :: es).length + ([] : List Keyword).length + (if ([] : List Keyword).isEmpty then 0 else 1) < 30)) = true:=by rfl)
  (hline : (apos.endLine == cpos.line) = true:=by rfl) (hs : starEach (e :: es) X.env = (false,eval e X.env) :: starEach es X.env:=by rfl) (hplain : (backTo cpos (starEach es X.env)).any (·.1) = false:=by rfl) :
  PE X (.Call (.Attribute o name apos) (e :: es) [] cpos) (tBMT r to t):=by
 intro pins s σ H Q I h
 refine wpAny_Call_method_late hbase hfew hline rfl (thn (ho pins s σ H _ I h) fun v s1 ⟨x,H1,I1,r1,⟨p,xs,ex,hp⟩,q1⟩=>?_)
 subst ex
 cases r1
 obtain ⟨_,its,_,⟨o1,z1,z2,_⟩,o2,z3,z4⟩:=I1.hok p _ hp
 refine ⟨"tuple",id,pa,slot,hty,⟨_,z1,z2⟩,(fun a e=>by cases e;exact ⟨_,z3,z4⟩),?_⟩
 have hA:=ha cpos pins s1 σ H1 _ I1 q1
 rw [hs] at hA ⊢
 refine Calls.callWith_builtin (by show (false || (backTo cpos (starEach es X.env)).any (·.1)) = false;rw [hplain] <;> rfl) (Calls.evalArgs_plain ?_)
 exact thn hA fun us s2 ⟨vs,H2,I2,r2,q2⟩=>hm pins s2 σ H2 (.ref p) vs (.ref p) us Q I2 rfl r2 q2
end
end L2
end

section
set_option Elab.async false
set_option linter.all false
set_option maxRecDepth 100000
set_option maxHeartbeats 1000000
namespace L2
open PySem PySem.Spec PyProof.Rows
abbrev az : Str := "abcdefghijklmnopqrstuvwxyz"
def inL (x : Str) : Bool := !(Builtin.Str.occurrences az x 0 az.length 1).isEmpty
def sgn (x : Str) : List Str:=x.cps.toList.map fun c=>⟨#[c]⟩
def nm (x : Str) : Bool:=if ("out" : Str) == x || ("yard" : Str) == x then false else decide ((1 : Int) <= (x.length : Int)) && (decide ((x.length : Int) <= 8) && (sgn x).all inL)
def spTake : Sp:=fun vs H Q _=>∃ (z : Zn) (m : Int),vs = [.ref z.p,.int m]/\Cz z H/\0 < m/\m < 1073741824/\∀ (i : Int) (H' : Hp),0 <= i->i < m->Stp z H H'->Q (.int i) H'
def spDigits (K : PySem.W.Frag) : Sp:=fun vs H Q _=>∃ (a : Addr) (ns : List Int) (k : Int),vs = [.ref a,.int k]/\SqL K H a (ns.map V.int)/\ns.length <= 63/\0 <= k/\k <= 1000/\∀ (p : Addr) (n : Int),H p = none->Q (.ref p) (upd H p (.lst [.int n]))
def spBound : Sp:=fun vs H Q _=>∃ z : Zn,vs = [.ref z.p]/\Cz z H/\∀ (i : Int) (H' : Hp),1 <= i->i <= 99->Stp z H H'->Q (.int i) H'
def spWordsN : Sp:=fun vs H Q _=>∃ (z : Zn) (m : Int),vs = [.ref z.p,.int m]/\0 <= m/\m <= 52/\Cz z H/\∀ (ns : List Str) (v : V) (H' : Hp),(ns.length : Int) = m->ns.Nodup->(∀ x ∈ ns,nm x = true)->Stp z H H'->IsD z.ex H' (.list (ns.map .str)) v->Q v H'
theorem line {n : Nat} (h : n <= 1000) : n <= sizeLine:=Nat.le_trans h size1000
theorem atI_in {α : Type} {xs : List α} {i : Int} (h0 : 0 <= i) (h1 : i < (xs.length : Int)) : ∃ v,atI xs i = some v/\v ∈ xs:=by
 have hk : i.toNat < xs.length:=by omega
 exact ⟨xs[i.toNat],atI_pos h0 (List.getElem?_eq_getElem hk),List.getElem_mem hk⟩
theorem get_in {α : Type} {xs : List α} {i : Int} (h0 : 0 <= i) (h1 : i < (xs.length : Int)) : ∃ v,xs[i.toNat]? = some v/\v ∈ xs:=by
 have hk : i.toNat < xs.length:=by omega
 exact ⟨xs[i.toNat],List.getElem?_eq_getElem hk,List.getElem_mem hk⟩
def azl : List Nat:=List.range' 97 26
theorem az_tx : ("abcdefghijklmnopqrstuvwxyz" : Str) = tx azl:=by decide +kernel
theorem am_in : ∀ c ∈ (("abcdefghijklm" : Str)).cps.toList,97 <= c/\c <= 109:=by decide +kernel
theorem az_in : ∀ c ∈ azl,97 <= c/\c <= 122:=by decide +kernel
theorem az_turned : ∀ k,k < 26->(azl.drop k ++ azl.take k).Nodup:=by decide +kernel
theorem inL_az : ∀ c ∈ azl,inL (tx [c]) = true:=by decide +kernel
theorem mem_az {c : Nat} (h : 97 <= c/\c <= 122) : c ∈ azl:=by
 unfold azl
 rw [List.mem_range']
 exact ⟨c - 97,by omega,by omega⟩
theorem sgn_tx (l : List Nat) : sgn (tx l) = l.map fun c=>tx [c]:=by
 unfold sgn tx
 simp
theorem sgV_tx (l : List Nat) : sgV (tx l) = l.map fun c=>V.str (tx [c]):=by
 unfold sgV tx
 simp
theorem out_tx : ("out" : Str) = tx [111,117,116]:=by decide +kernel
theorem yard_tx : ("yard" : Str) = tx [121,97,114,100]:=by decide +kernel
theorem name_ok {A B : List Nat} {c : Nat} (hl : A.length + B.length <= 7) (ha : ∀ x ∈ A,97 <= x/\x <= 109) (hb : ∀ x ∈ B,97 <= x/\x <= 109) (hc : 97 <= c/\c <= 122) : nm (tx (A ++ c :: B)) = true:=by
 unfold nm
 have n1 : ¬ tx [111,117,116] = tx (A ++ c :: B):=fun h=>by
  have h:=tx_inj h
  match A,ha,h with
  | [],_,h =>
   injection h with _ h
   have:=hb 117 (by rw [<- h];simp)
   omega
  | a :: _,ha,h =>
   injection h with h _
   have:=ha a (by simp)
   omega
 have n2 : ¬ tx [121,97,114,100] = tx (A ++ c :: B):=fun h=>by
  have h:=tx_inj h
  match A,ha,h with
  | [],_,h =>
   injection h with _ h
   have:=hb 114 (by rw [<- h];simp)
   omega
  | a :: _,ha,h =>
   injection h with h _
   have:=ha a (by simp)
   omega
 rw [out_tx,yard_tx,if_neg (by simp [n1,n2])]
 have e : (tx (A ++ c :: B)).length = A.length + (B.length + 1):=by rw [tx_len,List.length_append,List.length_cons]
 rw [e,decide_eq_true (by omega),decide_eq_true (by omega),Bool.true_and,Bool.true_and,sgn_tx,List.all_eq_true]
 intro s hs
 obtain ⟨x,hx,rfl⟩:=List.mem_map.mp hs
 refine inL_az x (mem_az ?_)
 rcases List.mem_append.mp hx with h | h
 ·have:=ha x h;omega
 ·rcases List.mem_cons.mp h with rfl | h
  ·exact hc
  ·have:=hb x h;omega
def namesOf (A B S : List Nat) : List Str:=S.map fun c=>tx (A ++ c :: B)
theorem names_nodup {A B S : List Nat} (h : S.Nodup) : (namesOf A B S).Nodup:=by
 unfold namesOf List.Nodup
 rw [List.pairwise_map]
 refine List.Pairwise.imp (fun {a b} hne e=>hne ?_) h
 have e2:=List.append_cancel_left (tx_inj e)
 injection e2
theorem tx_z : ("z" : Str) = tx [122]:=by decide +kernel
theorem name_okz {A B : List Nat} {c : Nat} (hl : A.length + B.length <= 6) (ha : ∀ x ∈ A,97 <= x/\x <= 109) (hb : ∀ x ∈ B,97 <= x/\x <= 109) (hc : 97 <= c/\c <= 122) : nm (tx (A ++ c :: B) ++ ("z" : Str)) = true:=by
 rw [tx_z,tx_append]
 unfold nm
 have last : ∀ l : List Nat,l.getLast? ≠ some 122->¬ tx l = tx (A ++ c :: B ++ [122]):=fun l h z=>h (by rw [tx_inj z,List.getLast?_append];rfl)
 rw [out_tx,yard_tx,if_neg (by rw [Bool.or_eq_true,beq_iff_eq,beq_iff_eq];exact not_or.mpr ⟨last [111,117,116] (by decide),last [121,97,114,100] (by decide)⟩)]
 have e : (tx (A ++ c :: B ++ [122])).length = A.length + (B.length + 2):=by rw [tx_len,List.length_append,List.length_append,List.length_cons,List.length_singleton];omega
 rw [e,decide_eq_true (by omega),decide_eq_true (by omega),Bool.true_and,Bool.true_and,sgn_tx,List.all_eq_true]
 intro s hs
 obtain ⟨x,hx,rfl⟩:=List.mem_map.mp hs
 refine inL_az x (mem_az ?_)
 rcases List.mem_append.mp hx with h | h
 ·rcases List.mem_append.mp h with h | h
  ·have:=ha x h;omega
  ·rcases List.mem_cons.mp h with rfl | h
   ·exact hc
   ·have:=hb x h;omega
 ·have:=List.mem_singleton.mp h;omega
theorem namesz_nodup {A B S : List Nat} (h : S.Nodup) : (namesOf A B S ++ (namesOf A B S).map fun x=>x ++ ("z" : Str)).Nodup:=by
 have n1:=names_nodup (A:=A) (B:=B) h
 rw [List.nodup_append]
 refine ⟨n1,?_,fun a ha b hb=>?_⟩
 ·unfold List.Nodup
  rw [List.pairwise_map]
  unfold namesOf
  rw [List.pairwise_map]
  refine List.Pairwise.imp (fun {a b} hne e=>hne ?_) h
  rw [tx_z,tx_append,tx_append] at e
  have e2:=List.append_cancel_left (List.append_cancel_right (tx_inj e))
  injection e2
 ·obtain ⟨x,hx,rfl⟩:=List.mem_map.mp hb
  obtain ⟨u,_,rfl⟩:=List.mem_map.mp ha
  obtain ⟨w,_,rfl⟩:=List.mem_map.mp hx
  rw [tx_z,tx_append]
  intro e
  have:=congrArg List.length (tx_inj e)
  simp at this
theorem xe_never {X : Cx} : XeOk X (fun _ _ _ _ _=>False):=⟨fun _ _ _ _ _ _ _ _ _ h=>h.elim,fun _ _ _ _ _ _ _ _ _ _ h=>h.elim⟩
end L2
end

section
set_option Elab.async false
set_option linter.all false
set_option maxRecDepth 100000
namespace L2
open PySem PySem.Spec PyProof.Rows PySem.W
def Says (u : V) : Prop := ∃ x,fmtV u = some x/\x.length <= 1000
theorem says_str {x : Str} (h : x.length <= 1000) : Says (.str x):=⟨x,if_pos h,h⟩
def spIniN (C : Addr) (fs : List Str) : Sp:=fun vs H Q _=>∃ (e : Addr) (us : List V),vs = .ref e :: us/\us.length = fs.length/\(∀ u ∈ us,Says u)/\H e = some (excN e C none)/\∀ d,H d = none->Q .non (upd (upd H d (.xd (fs.zip us))) e (excN e C (some d)))
theorem fits {a b : Str} {n m : Nat} (ha : a.length <= n) (hb : b.length <= m) : (a ++ b).length <= n + m:=by rw [strLen_append];omega
theorem raise_go {K : Frag} {S : SK} {σ : St} {C : Addr} {fs : List Str} {us : List V} {H2 : Hp} (hl : us.length = fs.length) (h3 : us.length <= 1000) (hf : ∀ u ∈ us,Says u) (hrs : raisesIn K C = true)
  (hS : ∀ ex d H',Ext [] H2 H'->H' ex = some (excO ex C (some d))->H' d = some (.xd (fs.zip us))->S σ ex C (some d) H') :
  us.length <= 1000/\∀ ex,H2 ex = none->spIniN C fs (.ref ex :: us) (upd H2 ex (excN ex C none)) (fun v H3=>v = .non/\∃ e' C' d',(.ref ex : V) = .ref e'/\H3 e' = some (excN e' C' d')/\raisesIn K C' = true/\S σ e' C' d' (upd H3 e' (excO e' C' d'))) E0:=by
 refine ⟨h3,fun ex hex=>⟨ex,us,rfl,hl,hf,upd_same,fun d hd=>⟨rfl,ex,C,some d,rfl,upd_same,hrs,?_⟩⟩⟩
 have hne : d ≠ ex:=fun z=>by rw [z,upd_same] at hd;cases hd
 have hd2 : H2 d = none:=by rw [upd_ne hne] at hd;exact hd
 rw [upd_upd]
 have hu : upd (upd (upd H2 ex (excN ex C none)) d (.xd (fs.zip us))) ex (excO ex C (some d)) = upd (upd H2 d (.xd (fs.zip us))) ex (excO ex C (some d)):=by
  funext c
  by_cases h1 : c = ex
  ·rw [h1,upd_same,upd_same]
  ·rw [upd_ne h1,upd_ne h1]
   by_cases h2 : c = d
   ·rw [h2,upd_same,upd_same]
   ·rw [upd_ne h2,upd_ne h2,upd_ne h1]
 rw [hu]
 exact hS ex d _ ((Ext.new hd2 _).trans (Ext.new (by rw [upd_ne (Ne.symm hne)];exact hex) _)) upd_same (by rw [upd_ne hne,upd_same])
theorem raise_x {K : Frag} {E : XK} {C : Addr} (fs : List Str) (us : List V) {H H2 : Hp} (q : XFs C (fs.zip us) H E) (e : Ext [] H H2) (hf : ∀ u ∈ us,Says u) (hrs : raisesIn K C = true) (hl : us.length = fs.length:=by rfl) (hfs : fs.length <= 1000:=by decide) :
  us.length <= 1000/\∀ ex,H2 ex = none->spIniN C fs (.ref ex :: us) (upd H2 ex (excN ex C none)) (fun v H3=>v = .non/\∃ e' C' d',(.ref ex : V) = .ref e'/\H3 e' = some (excN e' C' d')/\raisesIn K C' = true/\E (.ref e') d' (upd H3 e' (excO e' C' d'))) E0 :=
 raise_go (σ:=[]) (S:=fun _ e _ d H=>E (.ref e) d H) hl (hl ▸ hfs) hf hrs fun ex d H' e' h1 h2=>q ex d H' (e.trans e') h1 h2
theorem says1 {a : V} (ha : Says a) : ∀ u ∈ [a],Says u:=fun u hu=>by rw [List.mem_singleton.mp hu];exact ha
end L2
end

section
set_option Elab.async false
set_option linter.all false
set_option maxRecDepth 100000
set_option maxHeartbeats 1000000
namespace K08
open PySem PySem.Spec L2 PyProof.Rows PySem.W
def top (i : Nat) : Stmt:=PySem.Challenge.pw_cardlanes_k08_lanes_and_counts.main.body.getD i (.Pass ⟨0,0,0,0⟩)
abbrev s_NoCard : Stmt:=inCls (top 2) 0
theorem ok_ini_NoCard {P : Program} {w : World} {K : PySem.W.Frag} {mg : Str->Option Value} {base : Heap} {C f cc cda : Addr} {fd : FuncData} (F : IniIn P K mg "NoCard.__init__" s_NoCard C f cc cda fd) (ha1 : attrIn K C "card" = true) : FnOk P w K mg base CX0 2 f fd ["self","card"] (spIniN C ["card"]):=by
 obtain ⟨oc,od,kV,doc,pm,an,ct,osl,rfl,lk⟩:=F.fn
 obtain ⟨ccl,cdd,vs,ccs,x,tf,lcode,hvs,hfile⟩:=F.file
 obtain ⟨cl,cld,csl,lc⟩:=F.cell
 refine init_of lk F.code lc ⟨rfl,rfl,rfl,by decide +kernel,by decide +kernel,by decide +kernel,by decide +kernel⟩ (fun vs H Q E ⟨e,us,h,hl,_⟩=>by rw [h,List.length_cons,hl];rfl) fun A outer s s1 H vs Q E hr h I=>?_
 obtain ⟨e,us,rfl,hl,hu,he,q⟩:=h
 match us,hl,hu,q,I with
 | [v1],hl,hu,q,I =>
 obtain ⟨y1,h1,l1⟩:=hu v1 (by simp)
 refine PySem.ks_wpAt_execs_cons (PySem.ks_wpAt_mono (super_stmt (D:={ nx:=fun σ' H'=>σ' = [some (.ref e),some v1]/\H' = H,rt:=fun _ _=>False }) lk rfl rfl lcode hvs hfile lc F.sup F.top rfl rfl rfl F.all (pa_c (pe_join (pj_cons pe_str (pj_cons (pe_fmt (pv 1)) pj_nil))) pa_nil) I rfl he ?q rfl rfl rfl) (fun fl s2 hs=>?_) (fun _ _ (z : False)=>z.elim))
 case q=>exact ⟨_,rfl,Nat.le_trans (fits (show Str.empty.length <= 0 by decide +kernel) (show _ <= 100 by decide +kernel)) (by decide),v1,rfl,y1,h1,_,rfl,Nat.le_trans (fits (fits (show Str.empty.length <= 0 by decide +kernel) (show _ <= 100 by decide +kernel)) l1) (by decide),Nat.le_trans (fits (fits (show Str.empty.length <= 0 by decide +kernel) (show _ <= 100 by decide +kernel)) l1) (by decide),rfl,he,rfl,rfl⟩
 cases fl with
 | ret u=>obtain ⟨_,_,_,_,_,z⟩:=hs;exact z.elim
 | brk=>obtain ⟨_,_,_,z⟩:=hs;exact z.elim
 | cont=>obtain ⟨_,_,_,z⟩:=hs;exact z.elim
 | next =>
  obtain ⟨σ2,H2,I2,rfl,rfl⟩:=hs
  refine PySem.wpAt_of_wpAny (thn ((pss_one (ps_xfld (pv 0) (pv 1))) [] s2 _ _ _ I2 ?_) fun _ _ z=>z)
  exact ⟨v1,rfl,_,rfl,e,C,rfl,ha1,.inl ⟨he,fun d hd=>q d hd⟩⟩
abbrev s_NoKind : Stmt:=inCls (top 3) 0
theorem ok_ini_NoKind {P : Program} {w : World} {K : PySem.W.Frag} {mg : Str->Option Value} {base : Heap} {C f cc cda : Addr} {fd : FuncData} (F : IniIn P K mg "NoKind.__init__" s_NoKind C f cc cda fd) (ha1 : attrIn K C "kind" = true) : FnOk P w K mg base CX0 2 f fd ["self","kind"] (spIniN C ["kind"]):=by
 obtain ⟨oc,od,kV,doc,pm,an,ct,osl,rfl,lk⟩:=F.fn
 obtain ⟨ccl,cdd,vs,ccs,x,tf,lcode,hvs,hfile⟩:=F.file
 obtain ⟨cl,cld,csl,lc⟩:=F.cell
 refine init_of lk F.code lc ⟨rfl,rfl,rfl,by decide +kernel,by decide +kernel,by decide +kernel,by decide +kernel⟩ (fun vs H Q E ⟨e,us,h,hl,_⟩=>by rw [h,List.length_cons,hl];rfl) fun A outer s s1 H vs Q E hr h I=>?_
 obtain ⟨e,us,rfl,hl,hu,he,q⟩:=h
 match us,hl,hu,q,I with
 | [v1],hl,hu,q,I =>
 obtain ⟨y1,h1,l1⟩:=hu v1 (by simp)
 refine PySem.ks_wpAt_execs_cons (PySem.ks_wpAt_mono (super_stmt (D:={ nx:=fun σ' H'=>σ' = [some (.ref e),some v1]/\H' = H,rt:=fun _ _=>False }) lk rfl rfl lcode hvs hfile lc F.sup F.top rfl rfl rfl F.all (pa_c (pe_join (pj_cons pe_str (pj_cons (pe_fmt (pv 1)) pj_nil))) pa_nil) I rfl he ?q rfl rfl rfl) (fun fl s2 hs=>?_) (fun _ _ (z : False)=>z.elim))
 case q=>exact ⟨_,rfl,Nat.le_trans (fits (show Str.empty.length <= 0 by decide +kernel) (show _ <= 100 by decide +kernel)) (by decide),v1,rfl,y1,h1,_,rfl,Nat.le_trans (fits (fits (show Str.empty.length <= 0 by decide +kernel) (show _ <= 100 by decide +kernel)) l1) (by decide),Nat.le_trans (fits (fits (show Str.empty.length <= 0 by decide +kernel) (show _ <= 100 by decide +kernel)) l1) (by decide),rfl,he,rfl,rfl⟩
 cases fl with
 | ret u=>obtain ⟨_,_,_,_,_,z⟩:=hs;exact z.elim
 | brk=>obtain ⟨_,_,_,z⟩:=hs;exact z.elim
 | cont=>obtain ⟨_,_,_,z⟩:=hs;exact z.elim
 | next =>
  obtain ⟨σ2,H2,I2,rfl,rfl⟩:=hs
  refine PySem.wpAt_of_wpAny (thn ((pss_one (ps_xfld (pv 0) (pv 1))) [] s2 _ _ _ I2 ?_) fun _ _ z=>z)
  exact ⟨v1,rfl,_,rfl,e,C,rfl,ha1,.inl ⟨he,fun d hd=>q d hd⟩⟩
end K08
end

section
set_option Elab.async false
set_option linter.all false
set_option maxRecDepth 100000
set_option maxHeartbeats 1000000
namespace K08
open PySem PySem.Spec L2 PyProof.Rows PySem.W
def spKind (CK : Addr) : Sp:=fun vs H Q E=>∃ (p : Pl) (v : V) (x : Str),vs = [v,.str x]/\IsD [] H p.d v/\x.length <= 1000 /\
 (∀ k u H',p.kd? x = some k->Ext [] H H'->IsD [] H' k.d u->Q u H')/\(p.kd? x = none->XFs CK [("kind",.str x)] H E)
def spWay (CK : Addr) : Sp:=fun vs H Q E=>∃ (p : Pl) (v : V) (x : Str),vs = [v,.str x]/\IsD [] H p.d v/\x.length <= 1000 /\
 (∀ k a H',p.kd? x = some k->Ext [] H H'->H' a = some (.tup (k.way.map V.int))->Q (.ref a) H')/\(p.kd? x = none->XFs CK [("kind",.str x)] H E)
def spLaneAt : Sp:=fun vs H Q _=>∃ (p : Pl) (v : V) (x : Str) (j : Int) (k : Kd),vs = [v,.str x,.int j]/\IsD [] H p.d v/\x.length <= 1000/\p.kd? x = some k/\0 <= j/\∀ H',Ext [] H H'->Q (.int (p.at x j)) H'
def spCard (CC : Addr) : Sp:=fun vs H Q E=>∃ (s : Sd) (v : V) (x : Str),vs = [v,.str x]/\IsD [] H s.d v/\x.length <= 1000 /\
 (∀ c u H',s.cd? x = some c->Ext [] H H'->IsD [] H' c.d u->Q u H')/\(s.cd? x = none->XFs CC [("card",.str x)] H E)
def spLaneOf (CC : Addr) : Sp:=fun vs H Q E=>∃ (p : Pl) (s : Sd) (v u : V) (x : Str),vs = [v,u,.str x]/\IsD [] H p.d v/\IsD [] H s.d u/\x.length <= 1000/\POk p/\SOk p s /\
 (∀ c H',s.cd? x = some c->Ext [] H H'->Q (.int (p.lane c)) H')/\(s.cd? x = none->XFs CC [("card",.str x)] H E)
def spIn : Sp:=fun vs H Q _=>∃ (p : Pl) (s : Sd) (v u : V) (l : Int),vs = [v,u,.int l]/\IsD [] H p.d v/\IsD [] H s.d u/\POk p/\SOk p s/\∀ a H',H a = none->Ext [] H H'->H' a = some (.lst ((s.inL p l).map V.str))->Q (.ref a) H'
def spMany : Sp:=fun vs H Q _=>∃ (p : Pl) (s : Sd) (v u : V) (l : Int) (x : Str) (k : Kd),vs = [v,u,.int l,.str x]/\IsD [] H p.d v/\IsD [] H s.d u/\POk p/\SOk p s/\x.length <= 1000/\p.kd? x = some k/\∀ H',Ext [] H H'->Q (.int (s.many p l x : Nat)) H'
theorem COk.kd {p : Pl} {c : Cd} (P : POk p) (h : COk p c) : c.kd.length <= 1000:=by
 obtain ⟨_,k,hk,_⟩:=h
 obtain ⟨h1,h2⟩:=kd_in hk
 rw [<- h2]
 exact (P.kw k h1).2.2.1
structure TxP (K : PySem.W.Frag) (mg : Str->Option Value) : Prop where
 b_len : mg "len" = none
 g_YARD : ∃ u,mg "YARD" = some u/\RelV (.int (-1)) u
section
variable {P : Program} {w : World} {K : PySem.W.Frag} {mg : Str->Option Value} {base : Heap} {CK CC : Addr}
abbrev s_kind_of : Stmt:=top 8
theorem sc_kind_of : FnScope ["plan","kind","told"] ["plan","kind"] (defScope s_kind_of):=⟨rfl,rfl,rfl,by decide +kernel,rfl,by decide +kernel,by decide +kernel⟩
theorem ok_kind_of {f : Addr} {fd : FuncData} (F : Fun K "kind_of" "kind_of" s_kind_of f fd) (M_NoKind : MakeOk P w K mg base "NoKind" CK 2 ["self","kind"] (spIniN CK ["kind"])) (hrs : raisesIn K CK = true) : FnOk P w K mg base (CXF P w) 4 f fd ["plan","kind"] (spKind CK):=by
 refine F.okX sc_kind_of (fun vs H Q E h=>?_) (fun cdv A outer s H vs Q E hr h=>?_)
 ·obtain ⟨p,v,x,rfl,_⟩:=h
  rfl
 obtain ⟨p,v,x,rfl,hd,hx,q1,q2⟩:=h
 refine' ⟨_,?hh,?rr⟩
 case hh=>refine' pss_cons ?hp ?hq;(case hp=>refine' PS.nox ?hk;(case hk=>refine' ps_for PassesOwn.never rfl ?hh ?hi ?hj;(case hh=>refine' pi_tup ?hb;(case hb=>refine' pe_ix ix_tup (pv 0) pe_int (fun _ _=>rfl)));(case hi=>refine' pg_name sc_kind_of.nd (ixAt 2) (Or.inl rfl) (Or.inl rfl));(case hj=>refine' pss_one ?hg;(case hg=>refine' ps_if ?he ?hf pss_nil;(case he=>refine' pt_cmpR op_eq ?hc (pv 1) (nomark _);(case hc=>refine' pe_ix ix_tup (pv 2) pe_int (fun _ _=>rfl)));(case hf=>refine' pss_one ?hd;(case hd=>refine' ps_ret (pv 2)))))));(case hq=>refine' pss_one ?ho;(case ho=>refine' ps_raise xe_cx ?hn;(case hn=>refine' pe_makeX M_NoKind hr ?hl rfl ?hm;(case hl=>refine' pa_c (pv 1) pa_nil);(case hm=>decide))))
 obtain ⟨a,la,ka,lv,kv,rfl,ha,hla,hls,hka,hks,el,ek⟩:=Pl.view hd
 refine ⟨_,rfl,a,_,_,_,rfl,rfl,SqT.of ha,rfl,ka,rfl,⟨kv,SqT.of hka⟩,for_tup (xs:=kv) (fun i σ H2=>∃ (nn : Option V),σ = [some (V.ref a),some (V.str x),nn]/\Ext [] H H2/\∀ j k,j < i->p.ks[j]? = some k->(k.nm == x) = false) ⟨none,rfl,Ext.refl,fun j d hj=>absurd hj (Nat.not_lt_zero j)⟩ (fun i σ H2 _ ⟨_,_,e,_⟩=>SqT.of (e.tup (by simp) hka)) ?_ ?_⟩
 ·rintro i y σ H2 hy ⟨nn,rfl,e,hw⟩
  obtain ⟨k,hk,hdy⟩:=hks.nth hy
  have hdy2:=IsD.ext e hdy
  obtain ⟨c,wa,ba,rfl,hc,_,_⟩:=Kd.view hdy2
  refine ⟨_,rfl,c,_,_,.str k.nm,rfl,rfl,SqT.of hc,atI_nat (j:=0) rfl,_,rfl,rfl,_,rfl,?_⟩
  refine ite2 (fun cc=>?_) (fun cc=>?_)
  ·have cc' : (k.nm == x) = true:=by simpa using cc
   exact ⟨_,rfl,q1 k _ _ (find_at p.ks i k hw hk cc') e hdy2⟩
  ·refine ⟨_,rfl,e,fun j k' hj hk'=>?_⟩
   by_cases hji : j = i
   ·subst hji
    rw [hk] at hk'
    cases hk'
    simpa using cc
   ·exact hw j k' (by omega) hk'
 ·rintro σ H2 ⟨nn,rfl,e,hw⟩
  have hnone:=find_no p.ks _ hw (by omega)
  exact ⟨_,rfl,raise_x ["kind"] [.str x] (q2 hnone) e (says1 (says_str hx)) hrs⟩
abbrev s_way_of : Stmt:=top 7
theorem sc_way_of : FnScope ["plan","kind"] ["plan","kind"] (defScope s_way_of):=⟨rfl,rfl,rfl,by decide +kernel,rfl,by decide +kernel,by decide +kernel⟩
theorem ok_way_of {f : Addr} {fd : FuncData} (F : Fun K "way_of" "way_of" s_way_of f fd) (C_kind_of : CallOkX P w K mg base "kind_of" 4 ["plan","kind"] (spKind CK)) : FnOk P w K mg base (CXF P w) 5 f fd ["plan","kind"] (spWay CK):=by
 refine F.okX sc_way_of (fun vs H Q E h=>?_) (fun cdv A outer s H vs Q E hr h=>?_)
 ·obtain ⟨p,v,x,rfl,_⟩:=h
  rfl
 obtain ⟨p,v,x,rfl,hd,hx,q1,q2⟩:=h
 refine' ⟨_,?hh,?rr⟩
 case hh=>refine' pss_one ?hg;(case hg=>refine' ps_ret ?hf;(case hf=>refine' pe_ix ix_tup ?he pe_int (fun _ _=>rfl);(case he=>refine' pe_clX xe_cx C_kind_of hr ?hc rfl ?hd;(case hc=>refine' pa_c (pv 0) ?hb;(case hb=>refine' pa_c (pv 1) pa_nil));(case hd=>decide))))
 refine ⟨_,rfl,_,rfl,p,v,x,rfl,hd,hx,fun k u H' hk e hu=>?_,fun hn=>(q2 hn).on⟩
 obtain ⟨c,wa,ba,rfl,hc,hwa,_⟩:=Kd.view hu
 exact ⟨c,_,_,_,rfl,rfl,SqT.of hc,rfl,q1 k wa H' hk e hwa⟩
abbrev s_lane_at : Stmt:=top 15
theorem sc_lane_at : FnScope ["plan","kind","place","way"] ["plan","kind","place"] (defScope s_lane_at):=⟨rfl,rfl,rfl,by decide +kernel,rfl,by decide +kernel,by decide +kernel⟩
theorem ok_lane_at {f : Addr} {fd : FuncData} (F : Fun K "lane_at" "lane_at" s_lane_at f fd) (T : TxP K mg) (C_way_of : CallOkX P w K mg base "way_of" 5 ["plan","kind"] (spWay CK)) : FnOk P w K mg base CX0 6 f fd ["plan","kind","place"] spLaneAt:=by
 refine F.ok sc_lane_at (fun vs H Q E h=>?_) (fun cdv A outer s H vs Q E hr h=>?_)
 ·obtain ⟨p,v,x,j,k,rfl,_⟩:=h
  rfl
 obtain ⟨p,v,x,j,k,rfl,hd,hx,hk,hj,q⟩:=h
 refine' ⟨_,?hh,?rr⟩
 case hh=>refine' pss_cons ?hx ?hy;(case hx=>refine' ps_if ?hc ?hd pss_nil;(case hc=>refine' pt_cmpR op_eq (pv 2) pe_int (nomark _));(case hd=>refine' pss_one ?hb;(case hb=>refine' ps_ret (pe_gl T.g_YARD))));(case hy=>refine' pss_cons ?hv ?hw;(case hv=>refine' ps_set sc_lane_at.nd (ixAt 3) (Or.inl rfl) ?hh;(case hh=>refine' pe_clX xe_never C_way_of hr ?hf rfl ?hg;(case hf=>refine' pa_c (pv 0) ?he;(case he=>refine' pa_c (pv 1) pa_nil));(case hg=>decide)));(case hw=>refine' pss_cons ?ht ?hu;(case ht=>refine' ps_if ?ho ?hp pss_nil;(case ho=>refine' pt_cmpR op_gt (pv 2) ?hj (nomark _);(case hj=>refine' pe_callB call_len_seq rfl T.b_len PySem.boot_len ?hi;(case hi=>refine' pa_c (pv 3) pa_nil)));(case hp=>refine' pss_one ?hn;(case hn=>refine' ps_ret ?hm;(case hm=>refine' pe_callB call_len_seq rfl T.b_len PySem.boot_len ?hl;(case hl=>refine' pa_c ?hk pa_nil;(case hk=>refine' pe_ix ix_tup (pv 0) pe_int (fun _ _=>rfl)))))));(case hu=>refine' pss_one ?hs;(case hs=>refine' ps_ret ?hr;(case hr=>refine' pe_ix ix_tup (pv 3) ?hq (fun _ _=>rfl);(case hq=>refine' pe_op op_sub (pv 2) pe_int))))))
 refine ⟨_,rfl,rfl,_,rfl,?_⟩
 refine ite2 (fun cc=>?_) (fun cc=>?_)
 ·have : j = 0:=by simpa using cc
  subst this
  have q':=q H Ext.refl
  rw [at_zero] at q'
  exact q'
 have hj0 : j ≠ 0:=by simpa using cc
 refine ⟨_,rfl,_,rfl,p,v,x,rfl,hd,hx,fun k' a H1 hk' e1 ha=>?_,fun hn=>by rw [hk] at hn;cases hn⟩
 rw [hk] at hk'
 cases hk'
 refine ⟨_,rfl,_,rfl,a,_,rfl,.inr (SqT.of ha),_,_,rfl,rfl,_,rfl,?_⟩
 rw [List.length_map]
 refine ite2 (fun cc=>?_) (fun cc=>?_)
 ·have hlt : (k.way.length : Int) < j:=by simpa using cc
  obtain ⟨b,la,ka,lv,kv,rfl,hb,hla,hls,hka,hks,el,ek⟩:=Pl.view (IsD.ext e1 hd)
  refine ⟨_,rfl,b,_,_,_,rfl,rfl,SqT.of hb,rfl,la,lv,rfl,.inr (SqT.of hla),?_⟩
  have q':=q H1 e1
  rw [at_out hk hlt] at q'
  rw [el]
  exact q'
 ·have hle : j <= (k.way.length : Int):=by
   have : ¬ (k.way.length : Int) < j:=by simpa using cc
   omega
  obtain ⟨l,hl,el⟩:=at_way hk (by omega) hle
  refine ⟨_,rfl,_,rfl,_,_,rfl,rfl,a,_,_,.int l,rfl,rfl,SqT.of ha,atI_pos (by omega) (by rw [List.getElem?_map,hl];rfl),?_⟩
  have q':=q H1 e1
  rw [el] at q'
  exact q'
abbrev s_card_of : Stmt:=top 11
theorem sc_card_of : FnScope ["stand","card","told"] ["stand","card"] (defScope s_card_of):=⟨rfl,rfl,rfl,by decide +kernel,rfl,by decide +kernel,by decide +kernel⟩
theorem ok_card_of {f : Addr} {fd : FuncData} (F : Fun K "card_of" "card_of" s_card_of f fd) (M_NoCard : MakeOk P w K mg base "NoCard" CC 2 ["self","card"] (spIniN CC ["card"])) (hrs : raisesIn K CC = true) : FnOk P w K mg base (CXF P w) 4 f fd ["stand","card"] (spCard CC):=by
 refine F.okX sc_card_of (fun vs H Q E h=>?_) (fun cdv A outer s H vs Q E hr h=>?_)
 ·obtain ⟨p,v,x,rfl,_⟩:=h
  rfl
 obtain ⟨sd,v,x,rfl,hd,hx,q1,q2⟩:=h
 refine' ⟨_,?hh,?rr⟩
 case hh=>refine' pss_cons ?hp ?hq;(case hp=>refine' PS.nox ?hk;(case hk=>refine' ps_for PassesOwn.never rfl ?hh ?hi ?hj;(case hh=>refine' pi_tup ?hb;(case hb=>refine' pe_ix ix_tup (pv 0) pe_int (fun _ _=>rfl)));(case hi=>refine' pg_name sc_card_of.nd (ixAt 2) (Or.inl rfl) (Or.inl rfl));(case hj=>refine' pss_one ?hg;(case hg=>refine' ps_if ?he ?hf pss_nil;(case he=>refine' pt_cmpR op_eq ?hc (pv 1) (nomark _);(case hc=>refine' pe_ix ix_tup (pv 2) pe_int (fun _ _=>rfl)));(case hf=>refine' pss_one ?hd;(case hd=>refine' ps_ret (pv 2)))))));(case hq=>refine' pss_one ?ho;(case ho=>refine' ps_raise xe_cx ?hn;(case hn=>refine' pe_makeX M_NoCard hr ?hl rfl ?hm;(case hl=>refine' pa_c (pv 1) pa_nil);(case hm=>decide))))
 obtain ⟨a,ba,ca,wa,cv,wv,rfl,ha,hba,hca,hcs,hwa,hws,ec,ew⟩:=Sd.view hd
 refine ⟨_,rfl,a,_,_,_,rfl,rfl,SqT.of ha,rfl,ca,rfl,⟨cv,SqT.of hca⟩,for_tup (xs:=cv) (fun i σ H2=>∃ (nn : Option V),σ = [some (V.ref a),some (V.str x),nn]/\Ext [] H H2/\∀ j k,j < i->sd.cs[j]? = some k->(k.nm == x) = false) ⟨none,rfl,Ext.refl,fun j d hj=>absurd hj (Nat.not_lt_zero j)⟩ (fun i σ H2 _ ⟨_,_,e,_⟩=>SqT.of (e.tup (by simp) hca)) ?_ ?_⟩
 ·rintro i y σ H2 hy ⟨nn,rfl,e,hw⟩
  obtain ⟨k,hk,hdy⟩:=hcs.nth hy
  have hdy2:=IsD.ext e hdy
  obtain ⟨c,rfl,hc⟩:=Cd.view hdy2
  refine ⟨_,rfl,c,_,_,.str k.nm,rfl,rfl,SqT.of hc,atI_nat (j:=0) rfl,_,rfl,rfl,_,rfl,?_⟩
  refine ite2 (fun cc=>?_) (fun cc=>?_)
  ·have cc' : (k.nm == x) = true:=by simpa using cc
   exact ⟨_,rfl,q1 k _ _ (find_at sd.cs i k hw hk cc') e hdy2⟩
  ·refine ⟨_,rfl,e,fun j k' hj hk'=>?_⟩
   by_cases hji : j = i
   ·subst hji
    rw [hk] at hk'
    cases hk'
    simpa using cc
   ·exact hw j k' (by omega) hk'
 ·rintro σ H2 ⟨nn,rfl,e,hw⟩
  have hnone:=find_no sd.cs _ hw (by omega)
  exact ⟨_,rfl,raise_x ["card"] [.str x] (q2 hnone) e (says1 (says_str hx)) hrs⟩
abbrev s_lane_of : Stmt:=top 12
theorem sc_lane_of : FnScope ["plan","stand","card","name","kind","place","blocked"] ["plan","stand","card"] (defScope s_lane_of):=⟨rfl,rfl,rfl,by decide +kernel,rfl,by decide +kernel,by decide +kernel⟩
theorem ok_lane_of {f : Addr} {fd : FuncData} (F : Fun K "lane_of" "lane_of" s_lane_of f fd) (C_card_of : CallOkX P w K mg base "card_of" 4 ["stand","card"] (spCard CC)) (C_lane_at : CallOk P w K mg base "lane_at" 6 ["plan","kind","place"] spLaneAt) : FnOk P w K mg base (CXF P w) 7 f fd ["plan","stand","card"] (spLaneOf CC):=by
 refine F.okX sc_lane_of (fun vs H Q E h=>?_) (fun cdv A outer s H vs Q E hr h=>?_)
 ·obtain ⟨p,sd,v,u,x,rfl,_⟩:=h
  rfl
 obtain ⟨p,sd,v,u,x,rfl,hp,hs,hx,Po,So,q1,q2⟩:=h
 refine' ⟨_,?hh,?rr⟩
 case hh=>refine' pss_cons ?hu ?hv;(case hu=>refine' ps_asg ?hm ?hn;(case hm=>refine' pe_clX xe_cx C_card_of hr ?hc rfl ?hd;(case hc=>refine' pa_c (pv 1) ?hb;(case hb=>refine' pa_c (pv 2) pa_nil));(case hd=>decide));(case hn=>refine' pg_tup rfl ?hl;(case hl=>refine' pgs_cons ?hj ?hk;(case hj=>refine' pg_name sc_lane_of.nd (ixAt 3) (Or.inl rfl) (Or.inl rfl));(case hk=>refine' pgs_cons ?hh ?hi;(case hh=>refine' pg_name sc_lane_of.nd (ixAt 4) (Or.inl rfl) (Or.inl rfl));(case hi=>refine' pgs_cons ?hf ?hg;(case hf=>refine' pg_name sc_lane_of.nd (ixAt 5) (Or.inl rfl) (Or.inl rfl));(case hg=>refine' pgs_cons ?he pgs_nil;(case he=>refine' pg_name sc_lane_of.nd (ixAt 6) (Or.inl rfl) (Or.inl rfl))))))));(case hv=>refine' pss_one ?ht;(case ht=>refine' ps_ret ?hs;(case hs=>refine' pe_cl C_lane_at hr ?hq rfl ?hr;(case hq=>refine' pa_c (pv 0) ?hp;(case hp=>refine' pa_c (pv 4) ?ho;(case ho=>refine' pa_c (pv 5) pa_nil)));(case hr=>decide))))
 refine ⟨_,rfl,_,rfl,sd,u,x,rfl,hs,hx,fun c cu H1 hc e1 hcu=>?_,fun hn=>(q2 hn).on⟩
 obtain ⟨a,rfl,ha⟩:=Cd.view hcu
 have Co:=So.c c (cd_in hc).1
 obtain ⟨_,k,hk,p0,p1⟩:=id Co
 refine ⟨_,_,rfl,SqT.of ha,rfl,_,_,rfl,_,_,rfl,_,_,rfl,_,_,rfl,rfl,?_⟩
 exact ⟨_,rfl,_,rfl,_,rfl,p,v,c.kd,c.pl,k,rfl,IsD.ext e1 hp,COk.kd Po Co,hk,p0,fun H2 e2=>q1 c H2 hc (e1.trans e2)⟩
end
end K08
end

section
set_option Elab.async false
set_option linter.all false
set_option maxRecDepth 100000
set_option maxHeartbeats 1000000
namespace K08
open PySem PySem.Spec L2 PyProof.Rows PySem.W
section
variable {P : Program} {w : World} {K : PySem.W.Frag} {mg : Str->Option Value} {base : Heap} {CK CC : Addr}
theorem take_snoc {α : Type} {xs : List α} {i : Nat} {x : α} (h : xs[i]? = some x) : xs.take (i + 1) = xs.take i ++ [x]:=by
 rw [List.take_add_one,h];rfl
abbrev s_cards_in : Stmt:=top 13
theorem sc_cards_in : FnScope ["plan","stand","lane"] ["plan","stand","lane"] (defScope s_cards_in):=⟨rfl,rfl,rfl,by decide +kernel,rfl,by decide +kernel,by decide +kernel⟩
theorem ok_cards_in {f : Addr} {fd : FuncData} (F : Fun K "cards_in" "cards_in" s_cards_in f fd) (C_lane_at : CallOk P w K mg base "lane_at" 6 ["plan","kind","place"] spLaneAt) : FnOk P w K mg base CX0 7 f fd ["plan","stand","lane"] spIn:=by
 refine F.ok sc_cards_in (fun vs H Q E h=>?_) (fun cdv A outer s H vs Q E hr h=>?_)
 ·obtain ⟨p,sd,v,u,l,rfl,_⟩:=h
  rfl
 obtain ⟨p,sd,v,u,l,rfl,hp,hs,Po,So,q⟩:=h
 refine' ⟨_,?hh,?rr⟩
 case hh=>refine' pss_one ?hD;(case hD=>refine' ps_ret ?hC;(case hC=>refine' pe_lcomp rfl ?hu (compN ["name","kind","place","blocked","plan","lane"] 4 [0,2]) ?hv ?hw ?hx ?hy ?hz ?hA ?hB;(case hu=>exact ⟨rfl,by decide +kernel,by decide +kernel,(show ∀ y : Str × NameKind,y ∈ _->y.2 = NameKind.free->(defScope s_cards_in).names.lookup y.1 = some .cell\/(defScope s_cards_in).names.lookup y.1 = some .free from by decide +kernel)⟩);(case hv=>decide +kernel);(case hw=>decide);(case hx=>refine' pi_tup ?hb;(case hb=>refine' pe_ix ix_tup (pv 1) pe_int (fun _ _=>rfl)));(case hy=>intro _ _ _ _;refine' pg_tupK (K:=K) (n:=4) rfl rfl ?hn;(case hn=>refine' pgs_cons ?hl ?hm;(case hl=>refine' pg_name ?hc (ixAt 0) (Or.inl rfl) (Or.inr rfl);(case hc=>exact (show (["name","kind","place","blocked","plan","lane"] : List Str).Nodup from by decide +kernel)));(case hm=>refine' pgs_cons ?hj ?hk;(case hj=>refine' pg_name ?hd (ixAt 1) (Or.inl rfl) (Or.inr rfl);(case hd=>exact (show (["name","kind","place","blocked","plan","lane"] : List Str).Nodup from by decide +kernel)));(case hk=>refine' pgs_cons ?hh ?hi;(case hh=>refine' pg_name ?he (ixAt 2) (Or.inl rfl) (Or.inr rfl);(case he=>exact (show (["name","kind","place","blocked","plan","lane"] : List Str).Nodup from by decide +kernel)));(case hi=>refine' pgs_cons ?hg pgs_nil;(case hg=>refine' pg_name ?hf (ixAt 3) (Or.inl rfl) (Or.inr rfl);(case hf=>exact (show (["name","kind","place","blocked","plan","lane"] : List Str).Nodup from by decide +kernel))))))));(case hz=>exact (gown_tup (gsown_cons (by decide) (gsown_cons (by decide) (gsown_cons (by decide) (gsown_cons (by decide) gsown_nil))))));(case hA=>intro _ _ _ _;refine' pts_one ?ht;(case ht=>refine' pt_cmpR op_eq ?hs (pv 5) (nomark _);(case hs=>refine' pe_cl C_lane_at hr ?hq rfl ?hr;(case hq=>refine' pa_c (pv 4) ?hp;(case hp=>refine' pa_c (pv 1) ?ho;(case ho=>refine' pa_c (pv 2) pa_nil)));(case hr=>decide))));(case hB=>intro _ _ _ _;exact (pv 0))))
 obtain ⟨a,ba,ca,wa,cv,wv,rfl,ha,hba,hca,hcs,hwa,hws,ec,ew⟩:=Sd.view hs
 refine ⟨_,rfl,a,_,_,_,rfl,rfl,SqT.of ha,rfl,ca,rfl,⟨cv,SqT.of hca⟩,lcomp_by (yields_tup (ys:=cv)) (fun i xs H2=>Ext [] H H2/\xs = (((sd.cs.take i).filter fun c=>p.lane c == l).map (·.nm)).map V.str) ⟨Ext.refl,rfl⟩ (fun _ _ _ h=>SqT.of (h.1.tup (by simp) hca)) ?_ ?_⟩
 ·rintro i y xs H2 hy hi ⟨e,rfl⟩
  obtain ⟨c,hc,hdy⟩:=hcs.nth hy
  obtain ⟨b,rfl,hb⟩:=Cd.view (IsD.ext e hdy)
  have Co:=So.c c (List.mem_of_getElem? hc)
  obtain ⟨_,k,hk,p0,p1⟩:=id Co
  refine ⟨_,_,rfl,SqT.of hb,rfl,_,_,rfl,_,_,rfl,_,_,rfl,_,_,rfl,rfl,?_⟩
  refine ⟨_,rfl,_,rfl,_,rfl,p,v,c.kd,c.pl,k,rfl,IsD.ext e hp,COk.kd Po Co,hk,p0,fun H3 e3=>?_⟩
  refine ⟨_,rfl,rfl,_,rfl,?_⟩
  have et : decide (V.int (p.at c.kd c.pl) = V.int l) = (p.lane c == l):=by
   unfold Pl.lane
   by_cases h : p.at c.kd c.pl = l <;> simp [h]
  have tk:=take_snoc hc
  refine ite2 (fun cc=>?_) (fun cc=>?_)
  ·rw [et] at cc
   refine ⟨_,rfl,?_,nx hi ⟨e.trans e3,?_⟩⟩
   ·rw [List.length_map,List.length_map]
    refine small1000 (Nat.le_trans (List.length_filter_le _ _) ?_)
    rw [List.length_take]
    have:=So.nc
    omega
   ·rw [tk,List.filter_append,List.map_append,List.map_append]
    simp [cc]
  ·rw [et] at cc
   refine nx hi ⟨e.trans e3,?_⟩
   rw [tk,List.filter_append,List.map_append,List.map_append]
   simp [cc]
 ·rintro xs H2 ⟨e,rfl⟩ b hb
  rw [ec,List.take_length]
  exact q b _ (e.free (by simp) hb) (e.trans (Ext.new hb _)) upd_same
abbrev s_many_of : Stmt:=top 14
theorem sc_many_of : FnScope ["plan","stand","lane","kind"] ["plan","stand","lane","kind"] (defScope s_many_of):=⟨rfl,rfl,rfl,by decide +kernel,rfl,by decide +kernel,by decide +kernel⟩
theorem ok_many_of {f : Addr} {fd : FuncData} (F : Fun K "many_of" "many_of" s_many_of f fd) (T : TxP K mg) (C_lane_at : CallOk P w K mg base "lane_at" 6 ["plan","kind","place"] spLaneAt) : FnOk P w K mg base CX0 7 f fd ["plan","stand","lane","kind"] spMany:=by
 refine F.ok sc_many_of (fun vs H Q E h=>?_) (fun cdv A outer s H vs Q E hr h=>?_)
 ·obtain ⟨p,sd,v,u,l,x,k,rfl,_⟩:=h
  rfl
 obtain ⟨p,sd,v,u,l,x,k,rfl,hp,hs,Po,So,hx,hk,q⟩:=h
 refine' ⟨_,?hh,?rr⟩
 case hh=>refine' pss_one ?hC;(case hC=>refine' ps_ret ?hB;(case hB=>refine' pe_callB call_len_seq rfl T.b_len PySem.boot_len ?hA;(case hA=>refine' pa_c ?hz pa_nil;(case hz=>refine' pe_lcomp rfl ?hr (compN ["card","plan","lane","kind"] 1 [0,2,3]) ?hs ?ht ?hu ?hv ?hw ?hx ?hy;(case hr=>exact ⟨rfl,by decide +kernel,by decide +kernel,(show ∀ y : Str × NameKind,y ∈ _->y.2 = NameKind.free->(defScope s_many_of).names.lookup y.1 = some .cell\/(defScope s_many_of).names.lookup y.1 = some .free from by decide +kernel)⟩);(case hs=>decide +kernel);(case ht=>decide);(case hu=>refine' pi_tup ?hb;(case hb=>refine' pe_ix ix_tup (pv 1) pe_int (fun _ _=>rfl)));(case hv=>intro _ _ _ _;refine' pg_name ?hc (ixAt 0) (Or.inl rfl) (Or.inr rfl);(case hc=>exact (show (["card","plan","lane","kind"] : List Str).Nodup from by decide +kernel)));(case hw=>exact (gown_name (by decide)));(case hx=>intro _ _ _ _;refine' pts_one ?hq;(case hq=>refine' PW.pt ?hp;(case hp=>refine' pw_and ?hn ?ho;(case hn=>refine' pt_cmpR op_eq ?he (pv 3) (nomark _);(case he=>refine' pe_ix ?hd (pv 0) pe_int (fun _ _=>rfl);(case hd=>exact (show IxR _ (rIxT K) from ix_tup))));(case ho=>refine' pw_and1 ?hm;(case hm=>refine' pt_cmpR op_eq ?hl (pv 2) (nomark _);(case hl=>refine' pe_cl C_lane_at hr ?hj rfl ?hk;(case hj=>refine' pa_c (pv 1) ?hi;(case hi=>refine' pa_c (pv 3) ?hh;(case hh=>refine' pa_c ?hg pa_nil;(case hg=>refine' pe_ix ?hf (pv 0) pe_int (fun _ _=>rfl);(case hf=>exact (show IxR _ (rIxT K) from ix_tup))))));(case hk=>decide)))))));(case hy=>intro _ _ _ _;exact (pv 0))))))
 obtain ⟨a,ba,ca,wa,cv,wv,rfl,ha,hba,hca,hcs,hwa,hws,ec,ew⟩:=Sd.view hs
 refine ⟨_,rfl,a,_,_,_,rfl,rfl,SqT.of ha,rfl,ca,rfl,⟨cv,SqT.of hca⟩,lcomp_by (yields_tup (ys:=cv)) (fun i xs H2=>Ext [] H H2/\xs.length = ((sd.cs.take i).filter fun c=>c.kd == x && p.at x c.pl == l).length) ⟨Ext.refl,rfl⟩ (fun _ _ _ h=>SqT.of (h.1.tup (by simp) hca)) ?_ ?_⟩
 ·rintro i y xs H2 hy hi ⟨e,hxs⟩
  obtain ⟨c,hc,hdy⟩:=hcs.nth hy
  obtain ⟨b,rfl,hb⟩:=Cd.view (IsD.ext e hdy)
  have Co:=So.c c (List.mem_of_getElem? hc)
  obtain ⟨_,k',hk',p0,p1⟩:=id Co
  have tk:=take_snoc hc
  refine ⟨_,rfl,b,_,_,.str c.kd,rfl,rfl,SqT.of hb,rfl,_,rfl,rfl,_,rfl,?_⟩
  have small : ((sd.cs.take i).filter fun c=>c.kd == x && p.at x c.pl == l).length <= 900:=by
   refine Nat.le_trans (List.length_filter_le _ _) ?_
   rw [List.length_take]
   have:=So.nc
   omega
  refine ite2 (fun cc=>?_) (fun cc=>?_)
  ·have ck : c.kd = x:=by simpa using cc
   refine ⟨_,rfl,_,rfl,_,rfl,b,_,_,.int c.pl,rfl,rfl,SqT.of hb,rfl,p,v,x,c.pl,k,rfl,IsD.ext e hp,hx,hk,p0,fun H3 e3=>?_⟩
   refine ⟨_,rfl,rfl,_,rfl,?_⟩
   refine ite2 (fun c2=>?_) (fun c2=>?_)
   ·have c2' : p.at x c.pl = l:=by simpa using c2
    refine ⟨_,rfl,small1000 (by omega),nx hi ⟨e.trans e3,?_⟩⟩
    rw [tk,List.filter_append,List.length_append,List.length_append,hxs]
    simp [ck,c2']
   ·have c2' : ¬ p.at x c.pl = l:=by simpa using c2
    refine nx hi ⟨e.trans e3,?_⟩
    rw [tk,List.filter_append,List.length_append,hxs]
    simp [c2']
  ·have ck : ¬ c.kd = x:=by simpa using cc
   refine nx hi ⟨e,?_⟩
   rw [tk,List.filter_append,List.length_append,hxs]
   simp [ck]
 ·rintro xs H2 ⟨e,hxs⟩ b hb
  rw [ec,List.take_length] at hxs
  refine ⟨b,xs,rfl,.inl (SqL.of upd_same),?_⟩
  rw [hxs]
  exact q _ (e.trans (Ext.new hb _))
end
end K08
end

section
set_option Elab.async false
set_option linter.all false
set_option maxRecDepth 100000
namespace L2
open PySem PySem.Spec PyProof.Rows PySem.W
inductive Ref where
 | noCard
 | out
 | blocked
 | waits (o : Str)
 | full (l : Str) (b : Int)
 | kindFull (l k : Str) (b : Int)
 | inYard
structure XCs where
 NC : Addr
 Ou : Addr
 Bl : Addr
 Wa : Addr
 Fu : Addr
 KF : Addr
 IY : Addr
def Ref.cls (c : XCs) : Ref->Addr
 | .noCard=>c.NC
 | .out=>c.Ou
 | .blocked=>c.Bl
 | .waits _=>c.Wa
 | .full _ _=>c.Fu
 | .kindFull _ _ _=>c.KF
 | .inYard=>c.IY
def Ref.fs (x : Str) : Ref->List (Str × V)
 | .waits o=>[("card",.str x),("other",.str o)]
 | .full l b=>[("lane",.str l),("bound",.int b)]
 | .kindFull l k b=>[("lane",.str l),("kind",.str k),("bound",.int b)]
 | _=>[("card",.str x)]
def Sd.out (s : Sd) (p : Pl) (x : Str) : Bool:=match s.cd? x with
 | some c=>decide (p.lane c = p.n)
 | none=>false
def Pl.kb (p : Pl) (x : Str) (l : Int) : Int:=match p.kd? x with
 | some k=>k.bds.getD (k.way.findIdx (· == l)) 0
 | none=>0
end L2
end

section
set_option Elab.async false
set_option linter.all false
set_option maxRecDepth 100000
namespace L2
open PySem PySem.Spec PyProof.Rows
section
variable {Xg : Cx} {A : Around} {elt tg iter : Expr} {ifs : List Expr} {scope : Scope} {pos : Pos} {it : Addr} {J : It} {fp : List Addr} {tn : Nat->Heap->Prop} {g : TG} {tt : TT} {te : TE} {k : Nat} {σg : St} {D : Addr} {pa : List (Addr × Obj)}
end
section
variable {Xg : Cx} {A : Around} {a : Addr} {gi : Nat} {D : Addr} {σg : St} {pa : List (Addr × Obj)} {fp : List Addr}
end
section
variable {Xg : Cx} {A : Around} {a : Addr} {gi : Nat} {σg : St} {pa : List (Addr × Obj)} {fp : List Addr} {E : Value->Shared->Prop}
end
abbrev Cx.up (X : Cx) : Cx:={ X with A:=X.A.in1.in1 }
theorem Inv.up {X : Cx} {pins : List (Addr × Obj)} {σ : St} {H : Hp} {s : Shared} (I : Inv X pins σ H s) : Inv X.up pins σ H s :=
 ⟨⟨I.ok.mod,I.ok.kind,I.ok.glob,I.ok.blt,I.ok.above,I.ok.inj,I.ok.has,I.ok.cab,I.ok.hd,I.ok.frames,I.ok.stk,I.ok.exf,I.ok.bs,I.ok.bsz,I.ok.noex,I.ok.exfs,I.ok.funs,I.ok.frf⟩,I.os,I.bare,I.base,I.loc,I.cell,I.free,I.freeC,I.pin,I.hok,I.len⟩
section
variable {X : Cx}
end
def Sd.put (s : Sd) (c : Cd) : Sd:={ s with cs:=s.cs.map fun d=>if (d.nm == c.nm) = true then c else d }
theorem FunC.okX {P : Program} {w : World} {K : PySem.W.Frag} {mg : Str->Option Value} {base : Heap} {x qual : Str} {st : Stmt} {f : Addr} {fd : FuncData} {c : Addr} {N ps : List Str} {k : Nat} {sp : Sp} (F : FunC K x qual st f fd c) (S : FnScope N ps (defScope st)) (len : ∀ vs H Q E,sp vs H Q E->vs.length = ps.length)
  (hbody : ∀ (A : Around) (outer : List Env) (s : Shared) (H : Hp) (vs : List V) (Q : VK) (E : XK),Room k (A.deeper (envOfC qual (defScope st) s.heap.objs.size f (.ref c)))->sp vs H Q E ->
   ∃ t,PSs (cxOf (CXF P w) P w K mg base N qual (defScope st) f (.ref c) A outer s H E) (defBody st) t/\t { nx:=fun _ H'=>Q .non H',rt:=Q } (start N vs) H) : FnOk P w K mg base (CXF P w) (k + 1) f fd ps sp:=by
 obtain ⟨oc,od,kV,doc,pm,an,ct,osl,rfl,lk,hcd⟩:=F.ex
 exact fn_of lk hcd S len hbody
end L2
end

section
set_option Elab.async false
set_option linter.all false
set_option maxRecDepth 100000
namespace L2
open PySem PySem.Spec PyProof.Rows
theorem strs_vals : ∀ {us : List Value} {ys : List Str},StrsAre us ys->Vals (ys.map V.str) us
 | _,_,.nil=>.nil
 | _,_,.cons y t r=>.cons ⟨t,rfl⟩ (strs_vals r)
def rSortS (K : PySem.W.Frag) : List V->Hp->VK->Prop:=fun vs H Q=>∃ (a : Addr) (ys : List Str),vs = [.ref a]/\SqL K H a (ys.map V.str)/\ys.length < 64/\∀ p zs,H p = none->zs.Perm ys->sortedS zs = true->Q (.ref p) (upd H p (.lst (zs.map V.str)))
theorem call_sortS {X : Cx} : CallR X (.builtin "sorted") (rSortS X.K):=by
 intro pins s σ H vs us Q I rv h
 obtain ⟨a,ys,rfl,hq,h64,q⟩:=h
 obtain ⟨u,rfl,ru⟩:=rv.one
 obtain rfl : u = .ref a:=ru
 obtain ⟨its,r,pl,hl⟩:=I.list hq
 have hlen:=r.length
 rw [List.length_map] at hlen
 refine sorted_strs pl.isList (strs_of r) (by omega) fun out ss' a1 a2 a3=>?_
 obtain ⟨e,he⟩:=sortedAll_at s.heap its out
 have hl2:=a2.length_eq
 refine ⟨.ref (s.heap.objs.size + 1),_,I.laid (t':=s.toks) (o:=.lst (ss'.map V.str)) (fun b o q=>sortedAll_old q) (Nat.le_succ _) ⟨?_,out.toList,e,strs_vals a1,by simpa using he⟩,rfl,q _ ss' (I.hok.fresh (Nat.le_succ _)) a2 a3⟩
 rw [List.length_map]
 exact Nat.le_of_lt (small1000 (by omega))
end L2
end

section
set_option Elab.async false
set_option linter.all false
set_option maxRecDepth 100000
namespace L2
open PySem PySem.Spec PyProof.Rows
structure Room0 (k : Nat) (A : Around) : Prop where
 dp : A.depth + 3 * k + 5 < recursionLimit
 un : A.units + 16 * k + 200 < cLine
theorem Room.zero {k : Nat} {A : Around} (r : Room k A) : Room0 k A:=⟨r.dp,r.un⟩
theorem Room.mark {k : Nat} {A : Around} {v : Option Value} (r : Room k A) : Room0 k (A.mark v):=⟨r.dp,r.un⟩
theorem Room0.mono {j k : Nat} {A : Around} (r : Room0 k A) (h : j <= k) : Room0 j A:=⟨by have:=r.dp;omega,by have:=r.un;omega⟩
theorem Room0.deeper {k : Nat} {A : Around} (r : Room0 (k + 1) A) (env : Env) : Room0 k (A.deeper env) :=
 ⟨by have:=r.dp;show A.depth + 1 + 3 * k + 5 < _;omega,by have:=r.un;show A.units + 3 + 16 * k + 200 < _;omega⟩
theorem Room0.depth {k : Nat} {A : Around} (r : Room0 k A) : A.depth < recursionLimit:=by have:=r.dp;omega
theorem Room0.units {k : Nat} {A : Around} (r : Room0 k A) : A.units + 64 < cLine:=by have:=r.un;omega
section
variable {P : Program} {w : World} {K : PySem.W.Frag} {mg : Str->Option Value} {base : Heap}
variable {X : Cx} {x : Str} {k j : Nat} {ps : List Str} {sp : Sp} {e : Expr} {es : List Expr} {p pos : Pos} {t : TA}
end
end L2
end

section
set_option Elab.async false
set_option linter.all false
set_option maxRecDepth 100000
namespace L2
open PySem PySem.Spec PyProof.Rows
section
variable {prog : Program} {w : World} {A : Around} {E : Value->Shared->Prop} {s : Shared} {z TI TO i j : Addr} {fp gp : List Addr} {n m k : Nat} {P R : Nat->Value->Prop} {St Su : Nat->Heap->Prop} {a b : Value}
theorem zip_ends2 {Q : Option Value->Shared->Prop} (Z : ZA z TI TO i j fp gp) (D : Draws prog w A.in1 i fp n P St) (G : Draws prog w A.in1 j gp m R Su) (hz : IsZip s.heap z TI TO .none) (hI : IsPair s.heap TI (.ref i) (.ref j)) (hO : IsPair s.heap TO a b) (hk : k < n) (h1 : St k s.heap) (hm : k = m) (h2 : Su k s.heap)
  (hQ : ∀ h' tk,(∀ c o,c ∉ [z,TO,i,j]->s.heap.get? c = some o->h'.get? c = some o)->Q none { s with heap:=h',toks:=tk }) : wpAny (model prog w) A (pyNext (.ref z)) Q E s:=by
 have nd:=Z.nd
 simp only [List.nodup_cons,List.mem_cons,List.not_mem_nil,or_false,not_or,List.nodup_nil,and_true,not_false_eq_true] at nd
 obtain ⟨⟨nzI,nzO,nzi,nzj⟩,⟨nIO,nIi,nIj⟩,⟨nOi,nOj⟩,nij⟩:=nd
 have hT : s.TypeIs (.ref z) "zip" := ⟨_,hz,rfl⟩
 obtain ⟨hp,g,d,t0,os⟩:=s
 unfold pyNext
 refine wpAny_bind (wpAny_attempt (wpAny_callSpecial?_slot (name:=Str.ofString "__next__") hT F.slot_zip_next (wpAny_call_entry F.slot_zip_next hT F.entry_zip_next ?_ (F.args_zip_next_1 _))))
 show wpAny _ _ (field (.ref z) 2 >>= _) _ _ _
 refine wpAny_bind (wpAny_field hz rfl (x:=.bool false) rfl ?_)
 show wpAny _ _ (field (.ref z) 3 >>= _) _ _ _
 refine wpAny_bind (wpAny_field hz rfl (x:=.ref TI) rfl (wpAny_bind (wpAny_seqItems hI rfl ?_)))
 show wpAny _ _ (Builtin.SmallTypes.ownedTupleIsFree (.ref z) >>= _) _ _ _
 refine wpAny_bind ?_
 unfold Builtin.SmallTypes.ownedTupleIsFree
 refine wpAny_bind (wpAny_field hz rfl (x:=.none) rfl (wpAny_pure ?_))
 simp only [if_true]
 refine wpAny_bind (wpAny_rule (wpAny_bind (wpAny_field hz rfl (x:=.ref TO) rfl (wpAny_bind (wpAny_setField_rec hz (by simp) fun hA zA sA=>wpAny_bind ?_)))))
 replace zA : IsZip hA z TI TO .ellipsis:=zA
 replace sA : Heap.SameBut z hp hA:=sA
 simp only [List.zipIdx_cons,List.zipIdx_nil,List.forIn_cons,List.forIn_nil]
 refine wpAny_bind (wpAny_bind (wpAny_onRaise ?_))
 show wpAny _ _ (Builtin.SmallTypes.nextOf (.ref i) >>= _) _ _ _
 have h1A : St k hA:=D.frame _ _ _ h1 fun b hb o q=>(sA.2 b (Z.f b hb).1).trans q
 refine wpAny_bind (D.item k ⟨hA,g,d,t0,os⟩ _ _ hk h1A fun x hB tB px h1B sB=>wpAny_pure ?_)
 replace sB : Heap.SameBut i hA hB:=sB
 have OB : IsPair hB TO a b:=(sB.2 _ nOi).trans ((sA.2 _ (Ne.symm nzO)).trans hO)
 refine wpAny_bind (wpAny_seqItems OB rfl (wpAny_bind (wpAny_updateSeq_pair (s:=⟨hB,g,d,tB,os⟩) OB fun hC OC sC=>wpAny_bind (wpAny_letGo (wpAny_pure ?_)))))
 replace sC : Heap.SameBut TO hB hC:=sC
 refine wpAny_bind (wpAny_bind (wpAny_onRaise ?_))
 show wpAny _ _ (Builtin.SmallTypes.nextOf (.ref j) >>= _) _ _ _
 have h2C : Su k hC:=G.frame _ _ _ h2 fun b hb o q=>(sC.2 b (Z.g b hb).2.1).trans ((sB.2 b (Z.g b hb).2.2.1).trans ((sA.2 b (Z.g b hb).1).trans q))
 rw [hm] at h2C
 refine wpAny_bind (G.done ⟨hC,g,d,tB,os⟩ _ _ h2C fun hD e sD ⟨oe,he,hce⟩=>?_)
 have zD : IsZip hD z TI TO .ellipsis:=sD _ _ nzj ((sC.2 _ nzO).trans ((sB.2 _ nzi).trans zA))
 have nez : e ≠ z:=fun x=>by subst x;rw [zD] at he;cases he;simp at hce
 refine wpAny_setField_rec zD (by simp) fun hE _ sE=>?_
 replace sE : Heap.SameBut z hD hE:=sE
 refine wpAny_bind (wpAny_isInstance (T := "StopIteration") (b:=true) ⟨oe,(sE.2 _ nez).trans he,hce⟩ isSubtype_stop (wpAny_pure (hQ _ tB fun c o hc q=>?_)))
 simp only [List.mem_cons,List.not_mem_nil,or_false,not_or] at hc
 exact (sE.2 _ hc.1).trans (sD _ _ hc.2.2.2 ((sC.2 _ hc.2.1).trans ((sB.2 _ hc.2.2.1).trans ((sA.2 _ hc.1).trans q))))
end
theorem fp_neL {X : Cx} {pins : List (Addr × Obj)} {σ : St} {H : Hp} {s : Shared} {a b : Addr} {xs : List V} (I : Inv X pins σ H s) (hf : FpOk X pins H b) (hq : SqL X.K H a xs) : a ≠ b:=by
 intro e
 subst e
 obtain ⟨f0,_,_,f3,_,_⟩:=hf
 rcases hq with (h | ⟨o,h⟩) | ⟨o,_,_,hk,_⟩
 ·rw [f0] at h;cases h
 ·rw [f0] at h;cases h
 ·have hb:=I.ok.mod.kin _ _ hk
  rcases f3 with z | z
  ·exact I.ok.noex _ _ hb z
  ·exact absurd (Nat.lt_of_lt_of_le (Heap.lt_size (I.ok.bs _ _ hb).1) z) (Nat.lt_irrefl _)
section
variable {prog : Program} {w : World} {A : Around} {E : Value->Shared->Prop} {s : Shared}
end
section
variable {X : Cx} {elts : List Expr} {q : Nat} {tpos : Pos}
end
section
variable {prog : Program} {w : World} {A : Around} {E : Value->Shared->Prop} {s : Shared}
abbrev tiOL (l : Addr) : Obj:={ cls:=.type "list_iterator",data:=.fields #[.ref l,.int 0 0] }
abbrev zaLx (h : Heap) (l : Addr) : Heap:=h.push (tiOL l)
abbrev zbLx (h : Heap) (l c : Addr) : Heap:=(zaLx h l).push (tiOL c)
abbrev zcLx (h : Heap) (l c : Addr) : Heap:=(zbLx h l c).push (tpO (.ref h.objs.size) (.ref (zaLx h l).objs.size))
abbrev zdLx (h : Heap) (l c : Addr) : Heap:=(zcLx h l c).push (tpO .none .none)
abbrev zeLx (h : Heap) (l c : Addr) : Heap:=(zdLx h l c).push (zpO (.ref (zbLx h l c).objs.size) (.ref (zcLx h l c).objs.size))
theorem new_zipXL (l c : Addr) (xs ys : Array Value) : Meets (Builtin.«zip.__new__» ⟨[.type "zip",.ref l,.ref c],[]⟩) (fun _ R s=>(s.heap.IsList l xs/\s.heap.IsList c ys)/\R (.ok (.ret (.ref (zdLx s.heap l c).objs.size))) { s with heap:=zeLx s.heap l c }) :=
 .of_wp fun prog w A R s h=>by
  obtain ⟨hp,g,d,tk,os⟩:=s;obtain ⟨⟨hl1,hl2⟩,h⟩:=h
  have hsub:=sub_zip
  have hL1 : Heap.IsList (Shared.heap ⟨hp,g,d,tk,os⟩) l xs:=hl1
  have hL2 : Heap.IsList (Shared.heap ⟨zaLx hp l,g,d,tk,os⟩) c ys:=hl2.at fun o e=>Heap.get?_push_of_some _ e
  wp_walk using wpAny_pyIter_list hL1,wpAny_pyIter_list hL2
  exact ⟨_,rfl,h⟩
theorem call_zipXL {l c : Addr} {xs ys : Array Value} {Q : Value->Shared->Prop} (h1 : s.heap.IsList l xs) (h2 : s.heap.IsList c ys)
  (h : ∀ h',IsZip h' (s.heap.objs.size + 4) (s.heap.objs.size + 2) (s.heap.objs.size + 3) .none->IsPair h' (s.heap.objs.size + 2) (.ref s.heap.objs.size) (.ref (s.heap.objs.size + 1))->IsPair h' (s.heap.objs.size + 3) .none .none ->
   h'.IsListIter s.heap.objs.size l 0->h'.IsListIter (s.heap.objs.size + 1) c 0->(∀ b o,s.heap.get? b = some o->h'.get? b = some o)->Q (.ref (s.heap.objs.size + 4)) { s with heap:=h' }) : wpAny (model prog w) A (call (.type "zip") [.ref l,.ref c]) Q E s:=by
 refine callType_new F.called_zip (by decide) (F.typeCall_zip_2 _ _) (F.newCall_zip_2 _ _) (fun obj=>F.args_object_init_3 obj _ _) F.entry_zip_new (new_zipXL l c xs ys) ⟨⟨h1,h2⟩,?_⟩
 have z1 : (zaLx s.heap l).objs.size = s.heap.objs.size + 1:=Heap.size_push ..
 have z2 : (zbLx s.heap l c).objs.size = s.heap.objs.size + 2:=(Heap.size_push ..).trans (congrArg (· + 1) z1)
 have z3 : (zcLx s.heap l c).objs.size = s.heap.objs.size + 3:=(Heap.size_push ..).trans (congrArg (· + 1) z2)
 have z4 : (zdLx s.heap l c).objs.size = s.heap.objs.size + 4:=(Heap.size_push ..).trans (congrArg (· + 1) z3)
 have up : ∀ {hh : Heap} {o o' : Obj} {b : Addr},hh.get? b = some o->(hh.push o').get? b = some o:=fun e=>Heap.get?_push_of_some _ e
 have p1 : (zeLx s.heap l c).get? s.heap.objs.size = some (tiOL l):=up (up (up (up (Heap.get?_push_size _ rfl))))
 have p2 : (zeLx s.heap l c).get? (zaLx s.heap l).objs.size = some (tiOL c):=up (up (up (Heap.get?_push_size _ rfl)))
 have p3 : (zeLx s.heap l c).get? (zbLx s.heap l c).objs.size = some (tpO (.ref s.heap.objs.size) (.ref (zaLx s.heap l).objs.size)):=up (up (Heap.get?_push_size _ rfl))
 have p4 : (zeLx s.heap l c).get? (zcLx s.heap l c).objs.size = some (tpO .none .none):=up (Heap.get?_push_size _ rfl)
 have p5 : (zeLx s.heap l c).get? (zdLx s.heap l c).objs.size = some (zpO (.ref (zbLx s.heap l c).objs.size) (.ref (zcLx s.heap l c).objs.size)):=Heap.get?_push_size _ rfl
 have pp:=fun b o (e : s.heap.get? b = some o)=>show (zeLx s.heap l c).get? b = some o from up (up (up (up (up e))))
 show _/\_
 generalize zeLx s.heap l c = hh at p1 p2 p3 p4 p5 pp ⊢
 rw [z1] at p2 p3
 rw [z2] at p3 p5
 rw [z3] at p4 p5
 rw [z4] at p5 ⊢
 exact ⟨⟨_,p5,rfl⟩,h _ p5 p3 p4 ⟨_,p1,rfl,rfl⟩ ⟨_,p2,rfl,rfl⟩ pp⟩
end
def ItzxL (K : PySem.W.Frag) (a c : Addr) : It :=
  ⟨fun k H => ∃ xs ys x y, SqL K H a xs ∧ SqL K H c ys ∧ xs[k]? = some x ∧ ys[k]? = some y,
   fun k H v H' => ∃ T x y, v = .ref T ∧ H T = none ∧ H' = upd H T (.tup [x, y]) ∧ (∀ xs, SqL K H a xs → xs[k]? = some x) ∧ (∀ ys, SqL K H c ys → ys[k]? = some y),
   fun k H => ∃ xs ys, SqL K H a xs ∧ SqL K H c ys ∧ (xs.length = k ∨ (k < xs.length ∧ ys.length = k))⟩
theorem turn_zipXL {P : Program} {w : World} {K : PySem.W.Frag} {elts : List Expr} {q} {pos : Pos} (a c z TI TO i j : Addr) (nd : [z,TI,TO,i,j].Nodup) :
  Turn P w K (.Tuple elts q pos) (ItzxL K a c) [z,TI,TO,i,j] z (fun k h=>IsZip h z TI TO .none/\IsPair h TI (.ref i) (.ref j)/\(∃ u v,IsPair h TO u v)/\h.IsListIter i a k/\h.IsListIter j c k) where
 mem:=by simp
 obj:=fun k h st b hb=>by
  obtain ⟨h1,h2,⟨u,v,h3⟩,⟨o4,h4,_,d4⟩,⟨o5,h5,_,d5⟩⟩:=st
  simp only [List.mem_cons,List.not_mem_nil,or_false] at hb
  rcases hb with rfl | rfl | rfl | rfl | rfl
  ·exact ⟨_,h1,fun v z=>by cases z⟩
  ·exact ⟨_,h2,fun v z=>by cases z⟩
  ·exact ⟨_,h3,fun v z=>by cases z⟩
  ·exact ⟨_,h4,fun v z=>by rw [d4] at z;cases z⟩
  ·exact ⟨_,h5,fun v z=>by rw [d5] at z;cases z⟩
 keep:=fun k h h' st kk=>by
  obtain ⟨h1,h2,⟨u,v,h3⟩,h4,h5⟩:=st
  exact ⟨kk _ (by simp) _ h1,kk _ (by simp) _ h2,⟨u,v,kk _ (by simp) _ h3⟩,h4.at fun o e=>kk i (by simp) o e,h5.at fun o e=>kk j (by simp) o e⟩
 item:=by
  intro X hP hw hK hc k pins s σ H E I hf st hg
  subst hP hw hK
  obtain ⟨xs,ys,x,y,hq1,hq2,hx,hy⟩:=hg
  obtain ⟨h1,h2,⟨u,v,h3⟩,h4,h5⟩:=st
  obtain ⟨its1,rv1,p1,_⟩:=I.list hq1
  obtain ⟨its2,rv2,p2,_⟩:=I.list hq2
  obtain ⟨u1,hu1,ru1⟩:=rv1.get hx
  obtain ⟨u2,hu2,ru2⟩:=rv2.get hy
  have na : ∀ b ∈ [z,TI,TO,i,j],a ≠ b:=fun b hb=>fp_neL I (hf b hb) hq1
  have nc : ∀ b ∈ [z,TI,TO,i,j],c ≠ b:=fun b hb=>fp_neL I (hf b hb) hq2
  have nd':=nd
  simp only [List.nodup_cons,List.mem_cons,List.not_mem_nil,or_false,not_or,List.nodup_nil,and_true,not_false_eq_true] at nd'
  obtain ⟨⟨nzI,nzO,nzi,nzj⟩,⟨nIO,nIi,nIj⟩,⟨nOi,nOj⟩,nij⟩:=nd'
  have Z : ZA z TI TO i j [i,a] [j,c]:=⟨nd,fun b hb=>by
   rcases List.mem_cons.mp hb with rfl | hb
   ·exact ⟨Ne.symm nzi,Ne.symm nOi,nij,Ne.symm nIi⟩
   ·rw [show b = a by simpa using hb];exact ⟨na z (by simp),na TO (by simp),na j (by simp),na TI (by simp)⟩,fun b hb=>by
   rcases List.mem_cons.mp hb with rfl | hb
   ·exact ⟨Ne.symm nzj,Ne.symm nOj,Ne.symm nij,Ne.symm nIj⟩
   ·rw [show b = c by simpa using hb];exact ⟨nc z (by simp),nc TO (by simp),nc i (by simp),nc TI (by simp)⟩⟩
  have D1:=Draws.list (prog:=X.prog) (w:=X.w) (A:=X.A.in1) (I.ok.hd hc) i a (na i (by simp)) its1.toArray
  have D2:=Draws.list (prog:=X.prog) (w:=X.w) (A:=X.A.in1) (I.ok.hd hc) j c (nc j (by simp)) its2.toArray
  refine pyNext_zip Z D1 D2 h1 h2 h3 ⟨h4,p1.isList⟩ ⟨h5,p2.isList⟩ (by rw [List.size_toArray];exact (List.getElem?_eq_some_iff.mp hu1).1) (by rw [List.size_toArray];exact (List.getElem?_eq_some_iff.mp hu2).1) fun v1 v2 h' tk e1 e2 a1 a2 a3 a4 a5 a6 a7=>?_
  have e1' : its1[k]? = some v1:=by simpa using e1
  have e2' : its2[k]? = some v2:=by simpa using e2
  rw [hu1] at e1'
  rw [hu2] at e2'
  cases e1'
  cases e2'
  refine ⟨_,rfl,wpAny_letOwnedTupleGo_zip (s:={ s with heap:=h',toks:=tk }) a1 fun h3' b1 sb=>?_⟩
  replace sb : Heap.SameBut z h' h3':=sb
  have lt : ∀ b ∈ [z,TI,TO,i,j],b < s.heap.objs.size:=fun b hb=>by
   obtain ⟨_,q4,_⟩:=id h4
   obtain ⟨_,q5,_⟩:=id h5
   simp only [List.mem_cons,List.not_mem_nil,or_false] at hb
   rcases hb with rfl | rfl | rfl | rfl | rfl
   ·exact Heap.lt_size h1
   ·exact Heap.lt_size h2
   ·exact Heap.lt_size h3
   ·exact Heap.lt_size q4
   ·exact Heap.lt_size q5
  have stn : IsZip h3' z TI TO .none/\IsPair h3' TI (.ref i) (.ref j)/\(∃ u v,IsPair h3' TO u v)/\h3'.IsListIter i a (k + 1)/\h3'.IsListIter j c (k + 1) :=
   ⟨b1,(sb.2 _ (Ne.symm nzI)).trans a2,⟨_,_,(sb.2 _ (Ne.symm nzO)).trans a3⟩,a4.1.at fun o e=>(sb.2 i (Ne.symm nzi)).trans e,a5.1.at fun o e=>(sb.2 j (Ne.symm nzj)).trans e⟩
  have J : Inv X pins σ (upd H s.heap.objs.size (.tup [x,y])) { s with heap:=h3',toks:=tk }:=by
   refine I.turnedNew (fp:=[z,TI,TO,i,j]) (its:=[u1,u2]) hf (fun b o hb q=>(sb.2 b (fun e=>hb (by simp [e]))).trans (a7 b o (fun e=>hb (by simp only [List.mem_cons,List.not_mem_nil,or_false] at e ⊢;rcases e with e | e | e | e <;> simp [e])) q)) (fun b hb=>?_) (Nat.le_refl _) ⟨⟨_,(sb.2 _ (Nat.ne_of_gt (lt z (by simp)))).trans a6,rfl,0,rfl⟩,_,(sb.2 _ (Nat.ne_of_gt (lt z (by simp)))).trans a6,rfl⟩ (.cons ru1 (.cons ru2 .nil)) (by show 2 <= sizeLine;decide)
   obtain ⟨t1,t2,⟨_,_,t3⟩,⟨_,t4,_⟩,⟨_,t5,_⟩⟩:=id stn
   simp only [List.mem_cons,List.not_mem_nil,or_false] at hb
   rcases hb with rfl | rfl | rfl | rfl | rfl
   ·exact ⟨_,t1⟩
   ·exact ⟨_,t2⟩
   ·exact ⟨_,t3⟩
   ·exact ⟨_,t4⟩
   ·exact ⟨_,t5⟩
  refine ⟨.ref s.heap.objs.size,upd H s.heap.objs.size (.tup [x,y]),J,rfl,⟨_,x,y,rfl,I.hok.fresh (Nat.le_refl _),rfl,fun zs hz=>by rw [I.list_inj hz hq1];exact hx,fun zs hz=>by rw [I.list_inj hz hq2];exact hy⟩,stn,fun b hb=>?_⟩
  rw [upd_ne (Nat.ne_of_lt (lt b hb))]
  exact (hf b hb).1
 done:=by
  intro X hP hw hK hc k pins s σ H E I hf st hg
  subst hP hw hK
  obtain ⟨xs,ys,hq1,hq2,hl⟩:=hg
  obtain ⟨h1,h2,⟨u,v,h3⟩,h4,h5⟩:=st
  obtain ⟨its1,rv1,p1,_⟩:=I.list hq1
  have na : ∀ b ∈ [z,TI,TO,i,j],a ≠ b:=fun b hb=>fp_neL I (hf b hb) hq1
  have nd':=nd
  simp only [List.nodup_cons,List.mem_cons,List.not_mem_nil,or_false,not_or,List.nodup_nil,and_true,not_false_eq_true] at nd'
  obtain ⟨⟨nzI,nzO,nzi,nzj⟩,⟨nIO,nIi,nIj⟩,⟨nOi,nOj⟩,nij⟩:=nd'
  obtain ⟨its2,rv2,p2,_⟩:=I.list hq2
  have nc : ∀ b ∈ [z,TI,TO,i,j],c ≠ b:=fun b hb=>fp_neL I (hf b hb) hq2
  have Z : ZA z TI TO i j [i,a] [j,c]:=⟨nd,fun b hb=>by
   rcases List.mem_cons.mp hb with rfl | hb
   ·exact ⟨Ne.symm nzi,Ne.symm nOi,nij,Ne.symm nIi⟩
   ·rw [show b = a by simpa using hb];exact ⟨na z (by simp),na TO (by simp),na j (by simp),na TI (by simp)⟩,fun b hb=>by
   rcases List.mem_cons.mp hb with rfl | hb
   ·exact ⟨Ne.symm nzj,Ne.symm nOj,Ne.symm nij,Ne.symm nIj⟩
   ·rw [show b = c by simpa using hb];exact ⟨nc z (by simp),nc TO (by simp),nc i (by simp),nc TI (by simp)⟩⟩
  have D1:=Draws.list (prog:=X.prog) (w:=X.w) (A:=X.A.in1) (I.ok.hd hc) i a (na i (by simp)) its1.toArray
  have D2:=Draws.list (prog:=X.prog) (w:=X.w) (A:=X.A.in1) (I.ok.hd hc) j c (nc j (by simp)) its2.toArray
  have stepped : ∀ (h' : Heap) (tk : Nat),(∀ c o,c ∉ [z,TO,i,j]->s.heap.get? c = some o->h'.get? c = some o)->Inv X pins σ H { s with heap:=h',toks:=tk }:=by
   intro h' tk kk
   refine I.step (g':=s.gens) (d':=s.drawn) (t':=tk) (ch:=[z,TO,i,j]) (fun b hb=>?_) (fun b o _ _ hb q _=>kk b o hb q) (fun b o _ _ hb q _=>⟨o.slots,kk b o hb q⟩) (fun _ _ _ _ n=>n) (fun b o hb q=>⟨o,kk b o hb q⟩) (fun _ _ e=>e) (fun _ _ _ e=>e) (fun b ps e=>⟨#[],by rw [e];simp⟩) (fun m hn=>?_) (fun b u q=>?_) ⟨I.bare.1,Nat.le_refl _⟩
   ·have hb' : b ∈ [z,TI,TO,i,j]:=by simp only [List.mem_cons,List.not_mem_nil,or_false] at hb ⊢;rcases hb with e | e | e | e <;> simp [e]
    obtain ⟨f0,f1,f2,f3,f4,f5⟩:=hf b hb'
    exact ⟨f3,f1,f4,f5⟩
   ·obtain ⟨o,es,ep,ho,r⟩:=hn
    refine ⟨o,es,ep,kk _ o (fun hb=>?_) ho,r⟩
    have hb' : X.env.locals ∈ [z,TI,TO,i,j]:=by simp only [List.mem_cons,List.not_mem_nil,or_false] at hb ⊢;rcases hb with e | e | e | e <;> simp [e]
    exact (hf _ hb').2.1 rfl
   ·refine (I.hok b u q).stay (fun c' v' hc' y=>kk c' v' (fun hb=>?_) y) (fun _ y=>y) fun _ _ y=>y
    have hb' : c' ∈ [z,TI,TO,i,j]:=by simp only [List.mem_cons,List.not_mem_nil,or_false] at hb ⊢;rcases hb with e | e | e | e <;> simp [e]
    have:=(hf _ hb').1
    rcases hc' with e | e
    ·rw [e] at this;rw [this] at q;cases q
    ·rw [this] at e;cases e
  rcases hl with hl | ⟨hl,hl2⟩
  ·have hk : its1.toArray.size = k:=by rw [List.size_toArray,<- rv1.length];exact hl
   exact zip_ends Z D1 h1 h2 ⟨by rw [hk];exact h4,p1.isList⟩ fun h' kk=>⟨rfl,stepped h' s.toks kk⟩
  ·have hk : k < its1.toArray.size:=by rw [List.size_toArray,<- rv1.length];exact hl
   have hk2 : k = its2.toArray.size:=by rw [List.size_toArray,<- rv2.length];exact hl2.symm
   exact zip_ends2 Z D1 D2 h1 h2 h3 hk ⟨h4,p1.isList⟩ hk2 ⟨h5,p2.isList⟩ fun h' tk kk=>⟨rfl,stepped h' tk kk⟩
 self:=fun _ _ _ _ _ st h=>wpAny_pyIter_zip st.1 h
section
variable {X : Cx} {elts : List Expr} {q : Nat} {tpos : Pos}
def iZipXL (K : PySem.W.Frag) (ta : TA) : TI:=fun σ H R=>ta σ H fun vs H1=>∃ a c,vs = [.ref a,.ref c]/\(∃ xs,SqL K H1 a xs)/\(∃ ys,SqL K H1 c ys)/\R (ItzxL K a c) H1
theorem pi_zipXL {l m : Expr} {ta : TA} {p pos : Pos} (hg : Gl X "zip") (hm : X.mg "zip" = none) (ha : PA X [l,m] ta) (hs : starEach [l,m] X.env = (false,eval l X.env) :: starEach [m] X.env:=by rfl) (hs2 : (backTo pos (starEach [m] X.env)).any (·.1) = false:=by rfl) : PI X (.Tuple elts q tpos) (.Call (.Name "zip" p) [l,m] [] pos) (iZipXL X.K ta):=by
 intro pins s σ H R I h
 refine Call_ (ld_blt I hg hm boot_zip (PyProof.Rows.callWith_type1 (thn (ha pos pins s σ H _ I h) fun us s1 ⟨vs,H1,I1,r1,q1⟩=>?_) hs hs2))
 obtain ⟨a,c,e,⟨xs,hq1⟩,⟨ys,hq2⟩,qq⟩:=q1
 subst e
 cases r1 with
 | cons r rr =>
  cases rr with
  | cons r' rr' =>
   cases rr'
   cases r
   cases r'
   obtain ⟨its1,rv1,p1,_⟩:=I1.list hq1
   obtain ⟨its2,rv2,p2,_⟩:=I1.list hq2
   refine call_zipXL (s:=s1) (show s1.heap.IsList a its1.toArray from p1.isList) (show s1.heap.IsList c its2.toArray from p2.isList) fun h' h1 h2 h3 h4 h5 kp=>wpAny_pyIter_zip (s:={ s1 with heap:=h' }) h1 ?_
   refine ⟨s1.heap.objs.size + 4,[s1.heap.objs.size + 4,s1.heap.objs.size + 2,s1.heap.objs.size + 3,s1.heap.objs.size,s1.heap.objs.size + 1],_,_,H1,rfl,I1.kept (t':=s1.toks) kp,turn_zipXL a c _ _ _ _ _ (by simp <;> omega),⟨h1,h2,⟨_,_,h3⟩,h4,h5⟩,fun b hb=>?_,qq⟩
   have : s1.heap.objs.size <= b:=by
    simp only [List.mem_cons,List.not_mem_nil,or_false] at hb
    rcases hb with rfl | rfl | rfl | rfl | rfl <;> omega
   exact I1.fpOk this (I1.hok.fresh this)
end
end L2
end

section
set_option Elab.async false
set_option linter.all false
set_option maxRecDepth 100000
namespace L2
open PySem PySem.Spec PyProof.Rows
end L2
end

section
set_option Elab.async false
set_option linter.all false
set_option maxRecDepth 100000
namespace L2
open PySem PySem.SetTable
theorem cover_le : ∀ (m : Nat) (l : List Nat),(∀ j < m,j ∈ l)->m <= l.length
 | 0,_,_=>Nat.zero_le _
 | m + 1,l,h=>by
  have hm:=h m (Nat.lt_succ_self m)
  have:=cover_le m (l.erase m) fun j hj=>(List.mem_erase_of_ne (Nat.ne_of_lt hj)).mpr (h j (Nat.lt_succ_of_lt hj))
  rw [List.length_erase_of_mem hm] at this
  have:=List.length_pos_of_mem hm
  omega
theorem tgap (m : Nat) (l : List Nat) (h : l.length < m) : ∃ j < m,j ∉ l:=by
 refine Classical.byContradiction fun hc=>?_
 have:=cover_le m l fun j hj=>Classical.byContradiction fun hn=>hc ⟨j,hj,hn⟩
 omega
def TSz (mask : Nat) : Prop:=mask = 7\/mask = 31\/mask = 127\/mask = 511
def lcg (m i : Nat) : Nat:=(i * 5 + 1) % m
def titer (f : Nat->Nat) : Nat->Nat->Nat
 | 0,i=>i
 | k + 1,i=>titer f k (f i)
theorem titer_add (f : Nat->Nat) : ∀ a b i,titer f (a + b) i = titer f b (titer f a i)
 | 0,b,i=>by rw [Nat.zero_add];rfl
 | a + 1,b,i=>by rw [Nat.succ_add];exact titer_add f a b (f i)
def torbit (m : Nat) : Nat->Nat->List Nat
 | 0,_=>[]
 | k + 1,i=>i :: torbit m k (lcg m i)
theorem mem_orbit {m : Nat} : ∀ {k i j : Nat},j ∈ torbit m k i->∃ b < k,titer (lcg m) b i = j
 | 0,_,_,h=>nomatch h
 | k + 1,i,j,h=>by
  rcases List.mem_cons.mp h with e | h
  ·exact ⟨0,Nat.succ_pos _,e.symm⟩
  ·obtain ⟨b,hb,e⟩:=mem_orbit h
   exact ⟨b + 1,Nat.succ_lt_succ hb,e⟩
def goodM (m : Nat) : Bool:=((List.range m).all fun j=>(torbit m m 0).contains j) && titer (lcg m) m 0 == 0
theorem good_all {mask : Nat} (h : TSz mask) : goodM (mask + 1) = true:=by
 rcases h with rfl | rfl | rfl | rfl <;> decide +kernel
theorem treach {mask : Nat} (h : TSz mask) {i j : Nat} (hi : i < mask + 1) (hj : j < mask + 1) : ∃ k < mask + 1,titer (lcg (mask + 1)) k i = j:=by
 have hg:=good_all h
 generalize mask + 1 = m at *
 unfold goodM at hg
 rw [Bool.and_eq_true,List.all_eq_true] at hg
 obtain ⟨hall,hz⟩:=hg
 have hz:=eq_of_beq hz
 obtain ⟨a,ha,ea⟩:=mem_orbit (List.contains_iff_mem.mp (hall i (List.mem_range.mpr hi)))
 obtain ⟨b,hb,eb⟩:=mem_orbit (List.contains_iff_mem.mp (hall j (List.mem_range.mpr hj)))
 by_cases hab : a <= b
 ·refine ⟨b - a,by omega,?_⟩
  rw [<- ea,<- titer_add,show a + (b - a) = b by omega,eb]
 ·refine ⟨m - a + b,by omega,?_⟩
  rw [<- ea,<- titer_add,show a + (m - a + b) = m + b by omega,titer_add,hz,eb]
def tleaps (mask : Nat) : Nat->Nat × Nat->Nat × Nat
 | 0,x=>x
 | k + 1,x=>tleaps mask k (leap mask x.1 x.2)
theorem leaps_add (mask : Nat) : ∀ a b x,tleaps mask (a + b) x = tleaps mask b (tleaps mask a x)
 | 0,b,x=>by rw [Nat.zero_add];rfl
 | a + 1,b,x=>by rw [Nat.succ_add];exact leaps_add mask a b _
theorem leaps_perturb (mask : Nat) : ∀ k x,(tleaps mask k x).2 = x.2 / 32 ^ k
 | 0,x=>by simp [tleaps]
 | k + 1,x=>by
  show (tleaps mask k (leap mask x.1 x.2)).2 = _
  rw [leaps_perturb mask k]
  show x.2 / 32 / 32 ^ k = _
  rw [Nat.div_div_eq_div_mul,Nat.pow_succ,Nat.mul_comm 32]
theorem leaps_lt (mask : Nat) : ∀ k x,x.1 < mask + 1->(tleaps mask k x).1 < mask + 1
 | 0,x,h=>h
 | k + 1,x,h=>leaps_lt mask k _ (Nat.mod_lt _ (Nat.succ_pos _))
theorem leaps_lcg (mask : Nat) : ∀ k i,tleaps mask k (i,0) = (titer (lcg (mask + 1)) k i,0)
 | 0,i=>rfl
 | k + 1,i=>by
  show tleaps mask k ((i * 5 + 1 + 0 / 32) % (mask + 1),0 / 32) = _
  rw [Nat.zero_div,Nat.add_zero]
  exact leaps_lcg mask k _
theorem bits_lt (h : Int) : bits h < 2 ^ 64:=by
 unfold bits
 have h1:=Int.emod_nonneg h (show (2 ^ 64 : Int) ≠ 0 by decide)
 have h2:=Int.emod_lt_of_pos h (show (0 : Int) < 2 ^ 64 by decide)
 omega
theorem leaps_reach {mask : Nat} (hs : TSz mask) {i p j : Nat} (hi : i < mask + 1) (hp : p < 2 ^ 64) (hj : j < mask + 1) : ∃ k < mask + 14,(tleaps mask k (i,p)).1 = j:=by
 obtain ⟨k,hk,e⟩:=treach hs (leaps_lt mask 13 (i,p) hi) hj
 refine ⟨13 + k,by omega,?_⟩
 rw [leaps_add]
 have hz : (tleaps mask 13 (i,p)).2 = 0:=by
  rw [leaps_perturb]
  exact Nat.div_eq_of_lt (Nat.lt_of_lt_of_le hp (by decide))
 rw [show tleaps mask 13 (i,p) = ((tleaps mask 13 (i,p)).1,0) from Prod.ext rfl hz,leaps_lcg]
 exact e
def advs (t : SetTable) : Nat->Probe->Probe
 | 0,p=>p
 | k + 1,p=>advs t k (t.advance p)
theorem advs_add (t : SetTable) : ∀ a b p,advs t (a + b) p = advs t b (advs t a p)
 | 0,b,p=>by rw [Nat.zero_add];rfl
 | a + 1,b,p=>by rw [Nat.succ_add];exact advs_add t a b _
theorem adv_dummy (t : SetTable) (p : Probe) : (t.advance p).dummy = p.dummy:=by
 unfold advance;split <;> rfl
def AtR (t : SetTable) (p : Probe) : Prop:=p.j = p.i/\p.more = runEnd t.mask p.i - p.i
theorem run_le (mask i : Nat) : runEnd mask i - i <= 9:=by unfold runEnd;split <;> omega
theorem round_in (t : SetTable) : ∀ (k : Nat) (p : Probe),p.more = k->∃ p',advs t (k + 1) p = p'/\AtR t p'/\(p'.i,p'.perturb) = leap t.mask p.i p.perturb
 | 0,p,h=>by
  refine ⟨_,rfl,?_⟩
  show AtR t (t.advance p)/\((t.advance p).i,(t.advance p).perturb) = _
  unfold advance
  rw [if_neg (by omega)]
  exact ⟨⟨rfl,rfl⟩,rfl⟩
 | k + 1,p,h=>by
  have e : t.advance p = { p with j:=p.j + 1,more:=p.more - 1 }:=by unfold advance;rw [if_pos (by omega)]
  obtain ⟨p',e1,a1,l1⟩:=round_in t k (t.advance p) (by rw [e];show p.more - 1 = k;omega)
  refine ⟨p',e1,a1,?_⟩
  rw [l1,e]
theorem trounds (t : SetTable) : ∀ (r : Nat) (p : Probe),AtR t p->∃ c,c <= 10 * r/\AtR t (advs t c p)/\((advs t c p).i,(advs t c p).perturb) = tleaps t.mask r (p.i,p.perturb)
 | 0,p,h=>⟨0,Nat.le_refl _,h,rfl⟩
 | r + 1,p,h=>by
  obtain ⟨p',e1,a1,l1⟩:=round_in t _ p rfl
  obtain ⟨c,hc,a2,l2⟩:=trounds t r p' a1
  have hm : p.more <= 9:=by rw [h.2];exact run_le _ _
  refine ⟨p.more + 1 + c,by omega,?_⟩
  rw [advs_add,e1]
  refine ⟨a2,l2.trans ?_⟩
  rw [l1];rfl
theorem slot_empty {t : SetTable} (hd : t.dummies = #[]) {j : Nat} (h : j ∉ t.place.toList) : t.slot j = .empty:=by
 unfold slot
 dsimp only
 rw [if_neg,if_neg]
 ·unfold has;rw [hd];simp
 ·intro e
  have e:=eq_of_beq e
  exact h (by rw [Array.mem_toList_iff];exact Array.mem_of_getElem? e)
theorem slot_not_dummy {t : SetTable} (hd : t.dummies = #[]) {j : Nat} : t.slot j ≠ .dummy:=by
 unfold slot
 dsimp only
 split
 ·exact fun e=>nomatch e
 ·rw [if_neg]
  ·exact fun e=>nomatch e
  ·unfold has;rw [hd];simp
theorem slot_live {t : SetTable} {j i : Nat} (h : t.slot j = .live i) : i < t.place.size:=by
 unfold slot at h
 dsimp only at h
 split at h
 ·rename_i e
  injection h with h
  subst h
  have e:=eq_of_beq e
  exact (Array.getElem?_eq_some_iff.mp e).1
 ·split at h <;> exact nomatch h
def TEnds (t : SetTable) (p : Probe) (k : Nat) : Prop:=p.dummy = none/\t.slot (advs t k p).j = .empty
theorem start_ends {t : SetTable} (hs : TSz t.mask) (hd : t.dummies = #[]) (hp : t.place.size <= t.mask) (h : Int) : ∃ k < 10 * turns t.mask,TEnds t (t.probeStart h) k:=by
 obtain ⟨j,hj,hn⟩:=tgap (t.mask + 1) t.place.toList (by rw [Array.length_toList];omega)
 obtain ⟨r,hr,e⟩:=leaps_reach hs (i:=bits h % (t.mask + 1)) (p:=bits h) (j:=j) (Nat.mod_lt _ (Nat.succ_pos _)) (bits_lt h) hj
 obtain ⟨c,hc,a,l⟩:=trounds t r (t.probeStart h) ⟨rfl,rfl⟩
 refine ⟨c,by unfold turns;omega,rfl,?_⟩
 have : (advs t c (t.probeStart h)).j = j:=by
  rw [a.1]
  exact (congrArg Prod.fst l).trans e
 rw [this]
 exact slot_empty hd hn
theorem TEnds.next {t : SetTable} {p : Probe} {k : Nat} (e : TEnds t p (k + 1)) : TEnds t (t.advance p) k:=⟨(adv_dummy t p).trans e.1,e.2⟩
theorem go_some {t : SetTable} (hd : t.dummies = #[]) (hashAt : Nat->Int) (h : Int) : ∀ (k fuel : Nat) (p : Probe),k < fuel->TEnds t p k ->
  (∃ j,probe.go t hashAt h fuel p = some (.empty j none))\/∃ j i p' k',probe.go t hashAt h fuel p = some (.candidate j i p')/\t.slot j = .live i/\k' < k/\TEnds t p' k'
 | k,0,p,hk,_=>absurd hk (Nat.not_lt_zero _)
 | 0,fuel + 1,p,hk,e=>by
  have e2 : t.slot p.j = .empty:=e.2
  refine .inl ⟨p.j,?_⟩
  unfold probe.go
  rw [e2,e.1]
 | k + 1,fuel + 1,p,hk,e=>by
  unfold probe.go
  cases hsl : t.slot p.j with
  | empty=>exact .inl ⟨p.j,by rw [e.1]⟩
  | dummy=>exact absurd hsl (slot_not_dummy hd)
  | live i =>
   dsimp only
   split
   ·exact .inr ⟨p.j,i,t.advance p,k,rfl,hsl,Nat.lt_succ_self _,e.next⟩
   ·rcases go_some hd hashAt h k fuel (t.advance p) (Nat.lt_of_succ_lt_succ hk) e.next with hl | ⟨j,i',p',k',a,b,c,d⟩
    ·exact .inl hl
    ·exact .inr ⟨j,i',p',k',a,b,Nat.lt_succ_of_lt c,d⟩
end L2
end

section
set_option Elab.async false
set_option linter.all false
set_option maxRecDepth 100000
namespace L2
open PySem PySem.SetTable
theorem free_some {mask : Nat} (owner : Array (Option Nat)) {j : Nat} (hn : owner.getD j (some 0) = none) :
  ∀ (k fuel i p : Nat),k < fuel->(tleaps mask k (i,p)).1 = j->∃ j',layClean.free mask owner fuel i p = some j'/\owner.getD j' (some 0) = none
 | k,0,i,p,hk,_=>absurd hk (Nat.not_lt_zero _)
 | k,fuel + 1,i,p,hk,e=>by
  unfold layClean.free
  cases hf : (List.range (runEnd mask i + 1 - i)).find? fun k=>(owner.getD (i + k) (some 0)).isNone with
  | some k' =>
   refine ⟨i + k',rfl,?_⟩
   have:=List.find?_some hf
   simpa using this
  | none =>
   dsimp only
   cases k with
   | zero =>
    have e : i = j:=e
    subst e
    have h1:=List.find?_eq_none.mp hf 0 (List.mem_range.mpr (by unfold runEnd;split <;> omega))
    rw [Nat.add_zero,hn] at h1
    exact absurd rfl h1
   | succ k=>exact free_some owner hn k fuel _ _ (Nat.lt_of_succ_lt_succ hk) e
theorem count_one {f g : Nat->Bool} {j : Nat} (hf : f j = false) (hg : g j = true) (ho : ∀ i,i ≠ j->g i = f i) : ∀ m,(List.range m).countP g = (List.range m).countP f + if j < m then 1 else 0
 | 0=>rfl
 | m + 1=>by
  rw [List.range_succ,List.countP_append,List.countP_append,count_one hf hg ho m,List.countP_singleton,List.countP_singleton]
  by_cases e : m = j
  ·subst e
   rw [hf,hg];simp
  ·rw [ho m e]
   by_cases hlt : j < m
   ·have h2 : j < m + 1:=Nat.lt_succ_of_lt hlt
    simp only [hlt,h2,if_true]
    omega
   ·have h2 : ¬ j < m + 1:=by omega
    simp only [hlt,h2,if_false]
    omega
structure TOwn (mask : Nat) (owner : Array (Option Nat)) (k : Nat) : Prop where
 size : owner.size = mask + 1
 cnt : (List.range (mask + 1)).countP (fun j=>(owner.getD j none).isSome) = k
 small : ∀ j v,owner.getD j none = some v->v < k
theorem getD_swap {owner : Array (Option Nat)} {j : Nat} (h : owner.getD j (some 0) = none) : j < owner.size/\owner.getD j none = none:=by
 unfold Array.getD at h ⊢
 split at h
 ·rename_i hlt
  rw [dif_pos hlt]
  exact ⟨hlt,h⟩
 ·exact nomatch h
theorem getD_back {owner : Array (Option Nat)} {j : Nat} (hlt : j < owner.size) (h : owner.getD j none = none) : owner.getD j (some 0) = none:=by
 unfold Array.getD at h ⊢
 rw [dif_pos hlt] at h ⊢
 exact h
theorem TOwn.put {mask : Nat} {owner : Array (Option Nat)} {k j : Nat} (o : TOwn mask owner k) (h : owner.getD j (some 0) = none) : TOwn mask (owner.setIfInBounds j (some k)) (k + 1):=by
 obtain ⟨hlt,hn⟩:=getD_swap h
 have hself : (owner.setIfInBounds j (some k)).getD j none = some k:=by
  unfold Array.getD
  rw [dif_pos (by rw [Array.size_setIfInBounds];exact hlt)]
  simp
 have hoth : ∀ i,i ≠ j->(owner.setIfInBounds j (some k)).getD i none = owner.getD i none:=fun i hi=>by
  unfold Array.getD
  by_cases hl : i < owner.size
  ·rw [dif_pos (by rw [Array.size_setIfInBounds];exact hl),dif_pos hl]
   exact Array.getElem_setIfInBounds_ne hl (Ne.symm hi)
  ·rw [dif_neg (by rw [Array.size_setIfInBounds];exact hl),dif_neg hl]
 refine ⟨by rw [Array.size_setIfInBounds,o.size],?_,fun i v e=>?_⟩
 ·rw [count_one (f:=fun i=>(owner.getD i none).isSome) (j:=j) (by rw [hn];rfl) (by rw [hself];rfl) (fun i hi=>by rw [hoth i hi]),o.cnt,if_pos (by rw [<- o.size];exact hlt)]
 ·by_cases hi : i = j
  ·subst hi
   rw [hself] at e
   injection e with e
   omega
  ·rw [hoth i hi] at e
   exact Nat.lt_succ_of_lt (o.small i v e)
theorem TOwn.free {mask : Nat} (hs : TSz mask) {owner : Array (Option Nat)} {k : Nat} (o : TOwn mask owner k) (hk : k <= mask) (h : Int) :
  ∃ j',layClean.free mask owner (turns mask) (bits h % (mask + 1)) (bits h) = some j'/\owner.getD j' (some 0) = none:=by
 have : ∃ j < mask + 1,owner.getD j none = none:=by
  refine Classical.byContradiction fun hc=>?_
  have : (List.range (mask + 1)).countP (fun j=>(owner.getD j none).isSome) = (List.range (mask + 1)).length:=List.countP_eq_length.mpr fun j hj=>by
   cases q : owner.getD j none with
   | some v=>rfl
   | none=>exact absurd ⟨j,List.mem_range.mp hj,q⟩ hc
  rw [o.cnt,List.length_range] at this
  omega
 obtain ⟨j,hj,hn⟩:=this
 obtain ⟨r,hr,e⟩:=leaps_reach hs (i:=bits h % (mask + 1)) (p:=bits h) (j:=j) (Nat.mod_lt _ (Nat.succ_pos _)) (bits_lt h) hj
 exact free_some owner (getD_back (by rw [o.size];exact hj) hn) r _ _ _ (by unfold turns;omega) e
def layStep (mask : Nat) (acc : Option (Array (Option Nat) × Nat)) (h : Int) : Option (Array (Option Nat) × Nat):=do
 let (owner,k) <- acc
 let j <- layClean.free mask owner (turns mask) (bits h % (mask + 1)) (bits h)
 pure (owner.setIfInBounds j (some k),k + 1)
theorem lay_all {mask : Nat} (hs : TSz mask) : ∀ (l : List Int) (owner : Array (Option Nat)) (k : Nat),TOwn mask owner k->k + l.length <= mask + 1 ->
  ∃ owner',l.foldl (layStep mask) (some (owner,k)) = some (owner',k + l.length)/\TOwn mask owner' (k + l.length)
 | [],owner,k,o,_=>⟨owner,rfl,o⟩
 | h :: r,owner,k,o,hl=>by
  rw [List.length_cons] at hl
  obtain ⟨j,e,hn⟩:=o.free hs (by omega) h
  obtain ⟨owner',e2,o2⟩:=lay_all hs r _ (k + 1) (o.put hn) (by omega)
  rw [List.length_cons,show k + (r.length + 1) = k + 1 + r.length by omega]
  refine ⟨owner',?_,o2⟩
  rw [List.foldl_cons,<- e2]
  congr 1
  show Option.bind (layClean.free mask owner (turns mask) (bits h % (mask + 1)) (bits h)) (fun j=>some (owner.setIfInBounds j (some k),k + 1)) = _
  rw [e];rfl
theorem own_nil (mask : Nat) : TOwn mask (Array.replicate (mask + 1) none) 0:=by
 have hg : ∀ j,(Array.replicate (mask + 1) (none : Option Nat)).getD j none = none:=fun j=>by
  unfold Array.getD;split <;> simp
 refine ⟨by simp,?_,fun j v e=>?_⟩
 ·rw [List.countP_eq_zero]
  intro j _
  rw [hg];simp
 ·rw [hg] at e;exact nomatch e
theorem layClean_eq (mask : Nat) (hashes : Array Int) : layClean mask hashes = (hashes.toList.foldl (layStep mask) (some (Array.replicate (mask + 1) none,0))).map (·.1):=by
 unfold layClean
 rw [<- Array.foldl_toList]
 rfl
theorem laid_some {mask : Nat} (hs : TSz mask) (hashes : Array Int) (hn : hashes.size <= mask) (finger moves : Nat) (led plain : Bool) :
  ∃ t order,SetTable.laid mask finger moves led plain hashes = some (t,order)/\t.mask = mask/\t.place.size = hashes.size/\t.dummies = #[]/\t.led = led/\t.plain = plain /\
   order.size = hashes.size/\∀ i ∈ order.toList,i < hashes.size:=by
 obtain ⟨owner,e,o⟩:=lay_all hs hashes.toList _ 0 (own_nil mask) (by rw [Array.length_toList];omega)
 rw [Nat.zero_add,Array.length_toList] at o
 have hlen : ((List.range (mask + 1)).filterMap fun j=>(owner.getD j none).map (j,·)).length = hashes.size:=by
  rw [<- o.cnt]
  generalize List.range (mask + 1) = l
  induction l with
  | nil=>rfl
  | cons j r ih =>
   rw [List.filterMap_cons,List.countP_cons]
   cases q : owner.getD j none with
   | none=>simpa using ih
   | some v=>simpa using ih
 refine ⟨{ mask,place:=(((List.range (mask + 1)).filterMap fun j=>(owner.getD j none).map (j,·)).map (·.1)).toArray,dummies := #[],finger,led,moves,plain },
  (((List.range (mask + 1)).filterMap fun j=>(owner.getD j none).map (j,·)).map (·.2)).toArray,?_,rfl,?_,rfl,rfl,rfl,?_,?_⟩
 ·unfold SetTable.laid
  rw [layClean_eq,e]
  rfl
 ·simpa using hlen
 ·simpa using hlen
 ·intro i hi
  rw [List.toList_toArray] at hi
  obtain ⟨x,hx,rfl⟩:=List.mem_map.mp hi
  obtain ⟨j,_,e⟩:=List.mem_filterMap.mp hx
  obtain ⟨v,e1,e2⟩:=Option.map_eq_some_iff.mp e
  subst e2
  exact o.small j v e1
theorem tgrows {mask n : Nat} (hs : TSz mask) (h1 : n * 5 < mask * 3) (h2 : (n + 1) * 5 ≥ mask * 3) (h3 : n < 200) : TSz (sizeAbove (grown (n + 1)) - 1)/\(n + 1) * 5 < (sizeAbove (grown (n + 1)) - 1) * 3/\sizeAbove (grown (n + 1)) <= 512:=by
 rcases hs with rfl | rfl | rfl | rfl
 ·obtain rfl : n = 4:=by omega
  have : sizeAbove (grown 5) = 32:=by decide +kernel
  rw [this];exact ⟨.inr (.inl rfl),by omega,by omega⟩
 ·obtain rfl : n = 18:=by omega
  have : sizeAbove (grown 19) = 128:=by decide +kernel
  rw [this];exact ⟨.inr (.inr (.inl rfl)),by omega,by omega⟩
 ·obtain rfl : n = 76:=by omega
  have : sizeAbove (grown 77) = 512:=by decide +kernel
  rw [this];exact ⟨.inr (.inr (.inr rfl)),by omega,by omega⟩
 ·omega
end L2
end

section
set_option Elab.async false
set_option linter.all false
set_option maxHeartbeats 1000000
namespace L2
open PySem PyProof.Rows
def Cmp (prog : Program) (w : World) (A : Around) (s : Shared) (κ : SortKind) (a₀ : Array Keyed) : Prop :=
 ∀ (E : Value->Shared->Prop) (p q : Keyed) (Q : Bool->Shared->Prop),p ∈ a₀->q ∈ a₀->(∀ b,Q b s)->wpAny (model prog w) A (keyLt' κ p.1 q.1) Q E s
structure Safe (κ : SortKind) (a₀ : Array Keyed) (st : SortSt) : Prop where
 perm : (arrOf st).Perm a₀
 kind : kindOf st = κ
 failed : failedOf st = none
theorem Safe.size {κ : SortKind} {a₀ : Array Keyed} {st : SortSt} (h : Safe κ a₀ st) : (arrOf st).size = a₀.size:=h.perm.size_eq
theorem Safe.set {κ : SortKind} {a₀ : Array Keyed} {st : SortSt} (h : Safe κ a₀ st) {xs : Array Keyed} (hp : xs.Perm (arrOf st)) : Safe κ a₀ (setArr st xs):=⟨hp.trans h.perm,h.kind,h.failed⟩
theorem Safe.at {κ : SortKind} {a₀ : Array Keyed} {st : SortSt} (h : Safe κ a₀ st) {i : Nat} (hi : i < a₀.size) : ∃ p,(arrOf st)[i]? = some p/\p ∈ a₀:=by
 have hi' : i < (arrOf st).size:=h.size ▸ hi
 exact ⟨(arrOf st)[i],Array.getElem?_eq_getElem hi',h.perm.mem_iff.mp (Array.getElem_mem hi')⟩
def gallop' : Bool->Keyed->Array Keyed->Nat->Nat->Nat->StateT SortSt Sem (Option Nat):=sortPriv% PySem.Builtin.gallop
def beyond' (left : Bool) (key : Keyed) (arr : Array Keyed) (base i : Nat) : StateT SortSt Sem (Option Bool) :=
 elem' arr (base + i) >>= fun mid=>if left = true then lt' mid key else lt' key mid >>= fun told=>pure (told.map (!·))
section
variable {prog : Program} {w : World} {A : Around} {E : Value->Shared->Prop} {s : Shared} {a₀ : Array Keyed} {κ : SortKind}
theorem wpS_ltC (C : Cmp prog w A s κ a₀) {st : SortSt} (hk : kindOf st = κ) {p q : Keyed} (hp : p ∈ a₀) (hq : q ∈ a₀) {Q : Option Bool->SortSt->Prop} (h : ∀ b,Q (some b) st) : wpS (model prog w) A E s (lt' p q) Q st:=by
 rw [lt'_eq]
 refine wpS_bind (wpS_get ?_)
 rw [hk]
 refine wpS_bind (wpS_lift (wpAny_attempt (C _ p q _ hp hq fun b=>⟨rfl,?_⟩)))
 exact wpS_pure (h b)
theorem wpS_ltAtC (C : Cmp prog w A s κ a₀) {st : SortSt} (B : Safe κ a₀ st) {i j : Nat} (hi : i < a₀.size) (hj : j < a₀.size) {Q : Option Bool->SortSt->Prop} (h : ∀ b,Q (some b) st) : wpS (model prog w) A E s (ltAt' i j) Q st:=by
 obtain ⟨p,ep,hp⟩:=B.at hi
 obtain ⟨q,eq,hq⟩:=B.at hj
 rw [ltAt'_eq]
 refine wpS_bind (wpS_get ?_)
 change wpS (model prog w) A E s (elem' (arrOf st) i >>= fun x=>elem' (arrOf st) j >>= fun y=>lt' x y) Q st
 rw [elem'_eq,elem'_eq,ep,eq]
 exact wpS_bind (wpS_pure (wpS_bind (wpS_pure (wpS_ltC C B.kind hp hq h))))
theorem wpS_beyond (C : Cmp prog w A s κ a₀) {st : SortSt} (hk : kindOf st = κ) {left : Bool} {key : Keyed} {arr : Array Keyed} {base i n : Nat} (hkey : key ∈ a₀) (harr : ∀ p,p ∈ arr->p ∈ a₀) (hb : base + n <= arr.size) (hi : i < n) {Q : Option Bool->SortSt->Prop} (h : ∀ b,Q (some b) st) :
  wpS (model prog w) A E s (beyond' left key arr base i) Q st:=by
 have hlt : base + i < arr.size:=by omega
 unfold beyond'
 rw [elem'_eq,Array.getElem?_eq_getElem hlt]
 refine wpS_bind (wpS_pure ?_)
 have hm:=harr _ (Array.getElem_mem hlt)
 cases left
 ·simp only [Bool.false_eq_true,if_false]
  exact wpS_bind (wpS_ltC C hk hkey hm fun b=>wpS_pure (h _))
 ·simp only [if_true]
  exact wpS_ltC C hk hm hkey h
theorem wpS_gallop (C : Cmp prog w A s κ a₀) {st : SortSt} (hk : kindOf st = κ) {left : Bool} {key : Keyed} {arr : Array Keyed} {base n hint : Nat} (hkey : key ∈ a₀) (harr : ∀ p,p ∈ arr->p ∈ a₀) (hb : base + n <= arr.size) (hh : hint < n) {Q : Option Nat->SortSt->Prop} (h : ∀ k,k <= n->Q (some k) st) :
  wpS (model prog w) A E s (gallop' left key arr base n hint) Q st:=by
 unfold gallop'
 refine wpS_bind (wpS_beyond C hk hkey harr hb hh fun b=>?_)
 dsimp only
 cases b
 ·simp only [Bool.false_eq_true,if_false]
  refine wpS_bind (wpS_mono (wpS_forRange (I:=fun _ c st'=>st = st'/\∃ l o,c = (none,l,o)/\1 <= o) (Q:=fun c st'=>st = st'/\∃ l o,c = (none,l,o)/\1 <= o) ?_ (fun _ _ z=>z) ⟨rfl,0,1,rfl,by omega⟩) ?_)
  ·rintro i c st' _ _ ⟨rfl,l,o,rfl,ho⟩
   dsimp only
   by_cases hc : o ≥ hint + 1
   ·rw [if_pos hc]
    exact wpS_pure ⟨rfl,l,o,rfl,ho⟩
   ·rw [if_neg hc]
    refine wpS_bind (wpS_beyond C hk hkey harr hb (by omega) fun b=>?_)
    cases b
    ·exact wpS_pure ⟨rfl,_,_,rfl,by omega⟩
    ·exact wpS_pure ⟨rfl,_,_,rfl,by omega⟩
  ·rintro c st' ⟨rfl,l,o,rfl,ho⟩
   dsimp only
   refine wpS_bind (wpS_mono (wpS_forRange (I:=fun _ c st'=>st = st'/\∃ lo hi,c = (none,lo,hi)/\hi <= n) (Q:=fun c st'=>st = st'/\∃ lo hi,c = (none,lo,hi)/\hi <= n) ?_ (fun _ _ z=>z) ⟨rfl,_,_,rfl,by omega⟩) ?_)
   ·rintro i c st' _ _ ⟨rfl,lo,hi,rfl,hhi⟩
    dsimp only
    by_cases hc : lo ≥ hi
    ·rw [if_pos hc]
     exact wpS_pure ⟨rfl,lo,hi,rfl,hhi⟩
    ·rw [if_neg hc]
     refine wpS_bind (wpS_beyond C hk hkey harr hb (by omega) fun b=>?_)
     cases b
     ·exact wpS_pure ⟨rfl,_,_,rfl,by omega⟩
     ·exact wpS_pure ⟨rfl,_,_,rfl,by omega⟩
   ·rintro c st' ⟨rfl,lo,hi,rfl,hhi⟩
    exact wpS_pure (h hi hhi)
 ·simp only [if_true]
  refine wpS_bind (wpS_mono (wpS_forRange (I:=fun _ c st'=>st = st'/\∃ l o,c = (none,l,o)/\1 <= o) (Q:=fun c st'=>st = st'/\∃ l o,c = (none,l,o)/\1 <= o) ?_ (fun _ _ z=>z) ⟨rfl,0,1,rfl,by omega⟩) ?_)
  ·rintro i c st' _ _ ⟨rfl,l,o,rfl,ho⟩
   dsimp only
   by_cases hc : o ≥ n - hint
   ·rw [if_pos hc]
    exact wpS_pure ⟨rfl,l,o,rfl,ho⟩
   ·rw [if_neg hc]
    refine wpS_bind (wpS_beyond C hk hkey harr hb (by omega) fun b=>?_)
    cases b
    ·exact wpS_pure ⟨rfl,_,_,rfl,by omega⟩
    ·exact wpS_pure ⟨rfl,_,_,rfl,by omega⟩
  ·rintro c st' ⟨rfl,l,o,rfl,ho⟩
   dsimp only
   refine wpS_bind (wpS_mono (wpS_forRange (I:=fun _ c st'=>st = st'/\∃ lo hi,c = (none,lo,hi)/\hi <= n) (Q:=fun c st'=>st = st'/\∃ lo hi,c = (none,lo,hi)/\hi <= n) ?_ (fun _ _ z=>z) ⟨rfl,_,_,rfl,by omega⟩) ?_)
   ·rintro i c st' _ _ ⟨rfl,lo,hi,rfl,hhi⟩
    dsimp only
    by_cases hc : lo ≥ hi
    ·rw [if_pos hc]
     exact wpS_pure ⟨rfl,lo,hi,rfl,hhi⟩
    ·rw [if_neg hc]
     refine wpS_bind (wpS_beyond C hk hkey harr hb (by omega) fun b=>?_)
     cases b
     ·exact wpS_pure ⟨rfl,_,_,rfl,by omega⟩
     ·exact wpS_pure ⟨rfl,_,_,rfl,by omega⟩
   ·rintro c st' ⟨rfl,lo,hi,rfl,hhi⟩
    exact wpS_pure (h hi hhi)
end
abbrev setGallop (st : SortSt) (g : Nat) : SortSt:=SortSt.mk' (kindOf st) (arrOf st) (pendingOf st) g (failedOf st)
def mergeLo' : Array Keyed->Array Keyed->StateT SortSt Sem (Array Keyed):=sortPriv% PySem.Builtin.mergeLo
def mergeHi' : Array Keyed->Array Keyed->StateT SortSt Sem (Array Keyed):=sortPriv% PySem.Builtin.mergeHi
section
variable {prog : Program} {w : World} {A : Around} {E : Value->Shared->Prop} {s : Shared} {a₀ : Array Keyed} {κ : SortKind}
theorem wpS_elemI {st : SortSt} {arr : Array Keyed} {i : Nat} {Q : Keyed->SortSt->Prop} (hi : i < arr.size) (h : ∀ p,arr[i]? = some p->p ∈ arr->Q p st) : wpS (model prog w) A E s (elem' arr i) Q st:=by
 rw [elem'_eq,Array.getElem?_eq_getElem hi]
 exact wpS_pure (h _ (Array.getElem?_eq_getElem hi) (Array.getElem_mem hi))
def MIv (a b out : Array Keyed) (ia ib : Nat) : Prop:=out.toList.Perm (a.toList.take ia ++ b.toList.take ib)
theorem MIv.addB {a b out : Array Keyed} {ia ib k : Nat} {y : List Keyed} (h : MIv a b out ia ib) (e : b.toList.take (ib + k) = b.toList.take ib ++ y) : (out.toList ++ y).Perm (a.toList.take ia ++ b.toList.take (ib + k)):=by
 rw [e,<- List.append_assoc]
 exact List.Perm.append_right _ h
theorem MIv.addA {a b out : Array Keyed} {ia ib k : Nat} {y : List Keyed} (h : MIv a b out ia ib) (e : a.toList.take (ia + k) = a.toList.take ia ++ y) : (out.toList ++ y).Perm (a.toList.take (ia + k) ++ b.toList.take ib):=by
 rw [e,List.append_assoc]
 refine (List.Perm.append_right _ h).trans ?_
 rw [List.append_assoc]
 exact List.Perm.append_left _ List.perm_append_comm
theorem take_one {a : Array Keyed} {i : Nat} {x : Keyed} (e : a[i]? = some x) : a.toList.take (i + 1) = a.toList.take i ++ [x]:=by
 rw [List.take_add_one]
 have : a.toList[i]? = some x:=by rw [Array.getElem?_toList];exact e
 rw [this]
 rfl
theorem take_ext (a : Array Keyed) (i k : Nat) : a.toList.take (i + k) = a.toList.take i ++ (a.extract i (i + k)).toList:=by
 rw [Array.toList_extract,List.take_add,List.extract_eq_drop_take]
 congr 1
 rw [Nat.add_sub_cancel_left]
theorem MIv.pushB {a b out : Array Keyed} {ia ib : Nat} {x : Keyed} (h : MIv a b out ia ib) (e : b[ib]? = some x) : MIv a b (out.push x) ia (ib + 1):=by
 unfold MIv
 rw [Array.toList_push]
 exact h.addB (take_one e)
theorem MIv.pushA {a b out : Array Keyed} {ia ib : Nat} {x : Keyed} (h : MIv a b out ia ib) (e : a[ia]? = some x) : MIv a b (out.push x) (ia + 1) ib:=by
 unfold MIv
 rw [Array.toList_push]
 exact h.addA (take_one e)
theorem MIv.extB {a b out : Array Keyed} {ia ib : Nat} (k : Nat) (h : MIv a b out ia ib) : MIv a b (out ++ b.extract ib (ib + k)) ia (ib + k):=by
 unfold MIv
 rw [Array.toList_append]
 exact h.addB (take_ext b ib k)
theorem MIv.extA {a b out : Array Keyed} {ia ib : Nat} (k : Nat) (h : MIv a b out ia ib) : MIv a b (out ++ a.extract ia (ia + k)) (ia + k) ib:=by
 unfold MIv
 rw [Array.toList_append]
 exact h.addA (take_ext a ia k)
theorem MIv.all {a b out : Array Keyed} (h : MIv a b out a.size b.size) : out.Perm (a ++ b):=by
 unfold MIv at h
 rw [List.take_of_length_le (by simp),List.take_of_length_le (by simp)] at h
 rw [Array.perm_iff_toList_perm,Array.toList_append]
 exact h
theorem MIv.done {a b out : Array Keyed} {ia ib : Nat} (h : MIv a b out ia ib) (ha : ia <= a.size) (hb : ib <= b.size) : (out ++ a.extract ia a.size ++ b.extract ib b.size).Perm (a ++ b):=by
 have h1:=h.extA (a.size - ia)
 rw [Nat.add_sub_cancel' ha] at h1
 have h2:=h1.extB (b.size - ib)
 rw [Nat.add_sub_cancel' hb] at h2
 exact h2.all
theorem MIv.last {a b out : Array Keyed} {ia ib : Nat} (h : MIv a b out ia ib) (ha : ia <= a.size) (hb : ib <= b.size) : (out ++ b.extract ib b.size ++ a.extract ia a.size).Perm (a ++ b):=by
 have h1:=h.extB (b.size - ib)
 rw [Nat.add_sub_cancel' hb] at h1
 have h2:=h1.extA (a.size - ia)
 rw [Nat.add_sub_cancel' ha] at h2
 exact h2.all
theorem wpS_mergeLo (C : Cmp prog w A s κ a₀) {st : SortSt} (hk : kindOf st = κ) {a b : Array Keyed} (ha : ∀ p,p ∈ a->p ∈ a₀) (hb : ∀ p,p ∈ b->p ∈ a₀) (na : 1 <= a.size) (nb : 1 <= b.size) {Q : Array Keyed->SortSt->Prop} (h : ∀ out g,out.Perm (a ++ b)->Q out (setGallop st g)) :
  wpS (model prog w) A E s (mergeLo' a b) Q st:=by
 unfold mergeLo'
 have hkg : ∀ g,kindOf (setGallop st g) = κ:=fun _=>hk
 refine wpS_bind (wpS_lift (wpAny_rule ⟨rfl,?_⟩))
 try dsimp only
 refine wpS_bind (wpS_elemI nb fun p0 e0 _=>?_)
 have v0 : MIv a b #[p0] 0 1:=by
  unfold MIv
  rw [show 1 = 0 + 1 from rfl,take_one e0]
  exact List.Perm.refl _
 by_cases c1 : (1 == b.size) = true
 ·rw [if_pos c1]
  exact wpS_pure (h _ (gallopOf st) (v0.done (by omega) nb))
 rw [if_neg c1]
 by_cases c2 : (0 + 1 == a.size) = true
 ·rw [if_pos c2]
  exact wpS_pure (h _ (gallopOf st) (v0.last (by omega) nb))
 rw [if_neg c2]
 simp only [beq_iff_eq] at c1 c2
 refine wpS_bind (wpS_get ?_)
 refine wpS_bind (wpS_mono (wpS_forRange (I:=fun i c st'=>∃ out ia ib mg g,c = (none,out,ia,ib,mg)/\st' = setGallop st g/\MIv a b out ia ib/\ia + 1 < a.size/\ib < b.size/\i + 1 <= ia + ib)
  (Q:=fun c st'=>∃ r out ia ib mg g,c = (some r,out,ia,ib,mg)/\st' = setGallop st g/\r.Perm (a ++ b)) ?_ ?_ ⟨_,0,1,_,gallopOf st,rfl,rfl,v0,by omega,by omega,by omega⟩) ?_)
 ·rintro i c st' _ hi ⟨out,ia,ib,mg,g,rfl,rfl,v,la,lb,hp⟩
  try dsimp only
  refine wpS_bind (wpS_mono (wpS_forRange (I:=fun j c st'=>∃ out ia ib ac bc,c = (none,out,ia,ib,ac,bc)/\st' = setGallop st g/\MIv a b out ia ib/\ia + 1 < a.size/\ib < b.size/\i + 1 + j <= ia + ib)
   (Q:=fun c st'=>st' = setGallop st g/\((∃ r out ia ib ac bc,c = (some r,out,ia,ib,ac,bc)/\r.Perm (a ++ b))\/∃ out ia ib ac bc,c = (none,out,ia,ib,ac,bc)/\MIv a b out ia ib/\ia + 1 < a.size/\ib < b.size/\i + 1 <= ia + ib)) ?_ ?_ ⟨_,_,_,_,_,rfl,rfl,v,la,lb,by omega⟩) ?_)
  ·skip
   rintro j c st' _ _ ⟨out,ia,ib,ac,bc,rfl,rfl,v,la,lb,hp⟩
   try dsimp only
   refine wpS_bind (wpS_elemI lb fun p ep hpm=>?_)
   refine wpS_bind (wpS_elemI (by omega) fun q eq hqm=>?_)
   refine wpS_bind (wpS_ltC C (hkg _) (hb p hpm) (ha q hqm) fun bw=>?_)
   try dsimp only
   cases bw
   ·simp only [Bool.false_eq_true,if_false]
    refine wpS_bind (wpS_elemI (by omega) fun q eq _=>?_)
    have v2:=v.pushA eq
    by_cases d1 : (ia + 1 + 1 == a.size) = true
    ·rw [if_pos d1]
     exact wpS_pure ⟨rfl,.inl ⟨_,_,_,_,_,_,rfl,v2.last (by omega) (by omega)⟩⟩
    ·rw [if_neg d1]
     simp only [beq_iff_eq] at d1
     split
     ·exact wpS_pure ⟨rfl,.inr ⟨_,_,_,_,_,rfl,v2,by omega,by omega,by omega⟩⟩
     ·exact wpS_pure ⟨_,_,_,_,_,rfl,rfl,v2,by omega,by omega,by omega⟩
   ·simp only [if_true]
    refine wpS_bind (wpS_elemI lb fun q eq _=>?_)
    have v2:=v.pushB eq
    by_cases d1 : (ib + 1 == b.size) = true
    ·rw [if_pos d1]
     exact wpS_pure ⟨rfl,.inl ⟨_,_,_,_,_,_,rfl,v2.done (by omega) (by omega)⟩⟩
    ·rw [if_neg d1]
     simp only [beq_iff_eq] at d1
     split
     ·exact wpS_pure ⟨rfl,.inr ⟨_,_,_,_,_,rfl,v2,by omega,by omega,by omega⟩⟩
     ·exact wpS_pure ⟨_,_,_,_,_,rfl,rfl,v2,by omega,by omega,by omega⟩
  ·rintro c st' ⟨out,ia,ib,ac,bc,rfl,rfl,v,la,lb,hp⟩
   exact ⟨rfl,.inr ⟨_,_,_,_,_,rfl,v,la,lb,by omega⟩⟩
  ·skip
   rintro c st' ⟨rfl,⟨r,out,ia,ib,ac,bc,rfl,hr⟩ | ⟨out,ia,ib,ac,bc,rfl,v,la,lb,hp⟩⟩
   ·exact wpS_pure ⟨_,_,_,_,_,_,rfl,rfl,hr⟩
   try dsimp only
   refine wpS_bind (wpS_lift (wpAny_rule ⟨rfl,?_⟩))
   try dsimp only
   refine wpS_bind (wpS_mono (wpS_forRange (I:=fun j c st'=>∃ out ia ib mg ac bc g,c = (none,out,ia,ib,mg,ac,bc)/\st' = setGallop st g/\MIv a b out ia ib/\ia + 1 < a.size/\ib < b.size/\i + 1 + j <= ia + ib)
    (Q:=fun c st'=>∃ g,st' = setGallop st g/\((∃ r out ia ib mg ac bc,c = (some r,out,ia,ib,mg,ac,bc)/\r.Perm (a ++ b))\/∃ out ia ib mg ac bc,c = (none,out,ia,ib,mg,ac,bc)/\MIv a b out ia ib/\ia + 1 < a.size/\ib < b.size/\i + 2 <= ia + ib)) ?_ ?_ ⟨_,_,_,_,_,_,g,rfl,rfl,v,la,lb,by omega⟩) ?_)
   ·skip
    rintro j c st' _ _ ⟨out,ia,ib,mg,ac,bc,g,rfl,rfl,v,la,lb,hp⟩
    try dsimp only
    by_cases m1 : mg > 1
    ·rw [if_pos m1]
     refine wpS_bind (wpS_modify ?_)
     refine wpS_bind (wpS_elemI lb fun q1 eq1 hq1=>?_)
     refine wpS_bind (wpS_gallop (base:=ia) (n:=a.size - ia) (hint:=0) C (hkg _) (hb q1 hq1) ha (by omega) (by omega) fun k1 hk1=>?_)
     try dsimp only
     by_cases k10 : k1 > 0
     ·rw [if_pos k10]
      have v1:=v.extA k1
      by_cases g1 : (ia + k1 + 1 == a.size) = true
      ·rw [if_pos g1]
       simp only [beq_iff_eq] at g1
       exact wpS_pure ⟨_,rfl,.inl ⟨_,_,_,_,_,_,_,rfl,v1.last (by omega) (by omega)⟩⟩
      rw [if_neg g1]
      simp only [beq_iff_eq] at g1
      by_cases g2 : (ia + k1 == a.size) = true
      ·rw [if_pos g2]
       simp only [beq_iff_eq] at g2
       exact wpS_pure ⟨_,rfl,.inl ⟨_,_,_,_,_,_,_,rfl,v1.done (by omega) (by omega)⟩⟩
      rw [if_neg g2]
      simp only [beq_iff_eq] at g2
      refine wpS_bind (wpS_elemI (by omega) fun q2 eq2 _=>?_)
      have v2:=v1.pushB eq2
      by_cases d1 : (ib + 1 == b.size) = true
      ·rw [if_pos d1]
       simp only [beq_iff_eq] at d1
       exact wpS_pure ⟨_,rfl,.inl ⟨_,_,_,_,_,_,_,rfl,v2.done (by omega) (by omega)⟩⟩
      rw [if_neg d1]
      simp only [beq_iff_eq] at d1
      refine wpS_bind (wpS_elemI (by omega) fun q3 eq3 hq3=>?_)
      refine wpS_bind (wpS_gallop (base:=ib + 1) (n:=b.size - (ib + 1)) (hint:=0) C (hkg _) (ha q3 hq3) hb (by omega) (by omega) fun k2 hk2=>?_)
      try dsimp only
      by_cases k20 : k2 > 0
      ·rw [if_pos k20]
       have v3:=v2.extB k2
       by_cases e1 : (ib + 1 + k2 == b.size) = true
       ·rw [if_pos e1]
        simp only [beq_iff_eq] at e1
        exact wpS_pure ⟨_,rfl,.inl ⟨_,_,_,_,_,_,_,rfl,v3.done (by omega) (by omega)⟩⟩
       rw [if_neg e1]
       simp only [beq_iff_eq] at e1
       refine wpS_bind (wpS_elemI (by omega) fun q4 eq4 _=>?_)
       have v4:=v3.pushA eq4
       by_cases f1 : (ia + k1 + 1 + 1 == a.size) = true
       ·rw [if_pos f1]
        simp only [beq_iff_eq] at f1
        exact wpS_pure ⟨_,rfl,.inl ⟨_,_,_,_,_,_,_,rfl,v4.last (by omega) (by omega)⟩⟩
       ·rw [if_neg f1]
        simp only [beq_iff_eq] at f1
        split
        ·exact wpS_pure ⟨_,rfl,.inr ⟨_,_,_,_,_,_,rfl,v4,by omega,by omega,by omega⟩⟩
        ·exact wpS_pure ⟨_,_,_,_,_,_,_,rfl,rfl,v4,by omega,by omega,by omega⟩
      ·rw [if_neg k20]
       refine wpS_bind (wpS_elemI (by omega) fun q4 eq4 _=>?_)
       have v4:=v2.pushA eq4
       by_cases f1 : (ia + k1 + 1 + 1 == a.size) = true
       ·rw [if_pos f1]
        simp only [beq_iff_eq] at f1
        exact wpS_pure ⟨_,rfl,.inl ⟨_,_,_,_,_,_,_,rfl,v4.last (by omega) (by omega)⟩⟩
       ·rw [if_neg f1]
        simp only [beq_iff_eq] at f1
        split
        ·exact wpS_pure ⟨_,rfl,.inr ⟨_,_,_,_,_,_,rfl,v4,by omega,by omega,by omega⟩⟩
        ·exact wpS_pure ⟨_,_,_,_,_,_,_,rfl,rfl,v4,by omega,by omega,by omega⟩
     ·rw [if_neg k10]
      refine wpS_bind (wpS_elemI (by omega) fun q2 eq2 _=>?_)
      have v2:=v.pushB eq2
      by_cases d1 : (ib + 1 == b.size) = true
      ·rw [if_pos d1]
       simp only [beq_iff_eq] at d1
       exact wpS_pure ⟨_,rfl,.inl ⟨_,_,_,_,_,_,_,rfl,v2.done (by omega) (by omega)⟩⟩
      rw [if_neg d1]
      simp only [beq_iff_eq] at d1
      refine wpS_bind (wpS_elemI (by omega) fun q3 eq3 hq3=>?_)
      refine wpS_bind (wpS_gallop (base:=ib + 1) (n:=b.size - (ib + 1)) (hint:=0) C (hkg _) (ha q3 hq3) hb (by omega) (by omega) fun k2 hk2=>?_)
      try dsimp only
      by_cases k20 : k2 > 0
      ·rw [if_pos k20]
       have v3:=v2.extB k2
       by_cases e1 : (ib + 1 + k2 == b.size) = true
       ·rw [if_pos e1]
        simp only [beq_iff_eq] at e1
        exact wpS_pure ⟨_,rfl,.inl ⟨_,_,_,_,_,_,_,rfl,v3.done (by omega) (by omega)⟩⟩
       rw [if_neg e1]
       simp only [beq_iff_eq] at e1
       refine wpS_bind (wpS_elemI (by omega) fun q4 eq4 _=>?_)
       have v4:=v3.pushA eq4
       by_cases f1 : (ia + 1 + 1 == a.size) = true
       ·rw [if_pos f1]
        simp only [beq_iff_eq] at f1
        exact wpS_pure ⟨_,rfl,.inl ⟨_,_,_,_,_,_,_,rfl,v4.last (by omega) (by omega)⟩⟩
       ·rw [if_neg f1]
        simp only [beq_iff_eq] at f1
        split
        ·exact wpS_pure ⟨_,rfl,.inr ⟨_,_,_,_,_,_,rfl,v4,by omega,by omega,by omega⟩⟩
        ·exact wpS_pure ⟨_,_,_,_,_,_,_,rfl,rfl,v4,by omega,by omega,by omega⟩
      ·rw [if_neg k20]
       refine wpS_bind (wpS_elemI (by omega) fun q4 eq4 _=>?_)
       have v4:=v2.pushA eq4
       by_cases f1 : (ia + 1 + 1 == a.size) = true
       ·rw [if_pos f1]
        simp only [beq_iff_eq] at f1
        exact wpS_pure ⟨_,rfl,.inl ⟨_,_,_,_,_,_,_,rfl,v4.last (by omega) (by omega)⟩⟩
       ·rw [if_neg f1]
        simp only [beq_iff_eq] at f1
        split
        ·exact wpS_pure ⟨_,rfl,.inr ⟨_,_,_,_,_,_,rfl,v4,by omega,by omega,by omega⟩⟩
        ·exact wpS_pure ⟨_,_,_,_,_,_,_,rfl,rfl,v4,by omega,by omega,by omega⟩
    ·rw [if_neg m1]
     refine wpS_bind (wpS_modify ?_)
     refine wpS_bind (wpS_elemI lb fun q1 eq1 hq1=>?_)
     refine wpS_bind (wpS_gallop (base:=ia) (n:=a.size - ia) (hint:=0) C (hkg _) (hb q1 hq1) ha (by omega) (by omega) fun k1 hk1=>?_)
     try dsimp only
     by_cases k10 : k1 > 0
     ·rw [if_pos k10]
      have v1:=v.extA k1
      by_cases g1 : (ia + k1 + 1 == a.size) = true
      ·rw [if_pos g1]
       simp only [beq_iff_eq] at g1
       exact wpS_pure ⟨_,rfl,.inl ⟨_,_,_,_,_,_,_,rfl,v1.last (by omega) (by omega)⟩⟩
      rw [if_neg g1]
      simp only [beq_iff_eq] at g1
      by_cases g2 : (ia + k1 == a.size) = true
      ·rw [if_pos g2]
       simp only [beq_iff_eq] at g2
       exact wpS_pure ⟨_,rfl,.inl ⟨_,_,_,_,_,_,_,rfl,v1.done (by omega) (by omega)⟩⟩
      rw [if_neg g2]
      simp only [beq_iff_eq] at g2
      refine wpS_bind (wpS_elemI (by omega) fun q2 eq2 _=>?_)
      have v2:=v1.pushB eq2
      by_cases d1 : (ib + 1 == b.size) = true
      ·rw [if_pos d1]
       simp only [beq_iff_eq] at d1
       exact wpS_pure ⟨_,rfl,.inl ⟨_,_,_,_,_,_,_,rfl,v2.done (by omega) (by omega)⟩⟩
      rw [if_neg d1]
      simp only [beq_iff_eq] at d1
      refine wpS_bind (wpS_elemI (by omega) fun q3 eq3 hq3=>?_)
      refine wpS_bind (wpS_gallop (base:=ib + 1) (n:=b.size - (ib + 1)) (hint:=0) C (hkg _) (ha q3 hq3) hb (by omega) (by omega) fun k2 hk2=>?_)
      try dsimp only
      by_cases k20 : k2 > 0
      ·rw [if_pos k20]
       have v3:=v2.extB k2
       by_cases e1 : (ib + 1 + k2 == b.size) = true
       ·rw [if_pos e1]
        simp only [beq_iff_eq] at e1
        exact wpS_pure ⟨_,rfl,.inl ⟨_,_,_,_,_,_,_,rfl,v3.done (by omega) (by omega)⟩⟩
       rw [if_neg e1]
       simp only [beq_iff_eq] at e1
       refine wpS_bind (wpS_elemI (by omega) fun q4 eq4 _=>?_)
       have v4:=v3.pushA eq4
       by_cases f1 : (ia + k1 + 1 + 1 == a.size) = true
       ·rw [if_pos f1]
        simp only [beq_iff_eq] at f1
        exact wpS_pure ⟨_,rfl,.inl ⟨_,_,_,_,_,_,_,rfl,v4.last (by omega) (by omega)⟩⟩
       ·rw [if_neg f1]
        simp only [beq_iff_eq] at f1
        split
        ·exact wpS_pure ⟨_,rfl,.inr ⟨_,_,_,_,_,_,rfl,v4,by omega,by omega,by omega⟩⟩
        ·exact wpS_pure ⟨_,_,_,_,_,_,_,rfl,rfl,v4,by omega,by omega,by omega⟩
      ·rw [if_neg k20]
       refine wpS_bind (wpS_elemI (by omega) fun q4 eq4 _=>?_)
       have v4:=v2.pushA eq4
       by_cases f1 : (ia + k1 + 1 + 1 == a.size) = true
       ·rw [if_pos f1]
        simp only [beq_iff_eq] at f1
        exact wpS_pure ⟨_,rfl,.inl ⟨_,_,_,_,_,_,_,rfl,v4.last (by omega) (by omega)⟩⟩
       ·rw [if_neg f1]
        simp only [beq_iff_eq] at f1
        split
        ·exact wpS_pure ⟨_,rfl,.inr ⟨_,_,_,_,_,_,rfl,v4,by omega,by omega,by omega⟩⟩
        ·exact wpS_pure ⟨_,_,_,_,_,_,_,rfl,rfl,v4,by omega,by omega,by omega⟩
     ·rw [if_neg k10]
      refine wpS_bind (wpS_elemI (by omega) fun q2 eq2 _=>?_)
      have v2:=v.pushB eq2
      by_cases d1 : (ib + 1 == b.size) = true
      ·rw [if_pos d1]
       simp only [beq_iff_eq] at d1
       exact wpS_pure ⟨_,rfl,.inl ⟨_,_,_,_,_,_,_,rfl,v2.done (by omega) (by omega)⟩⟩
      rw [if_neg d1]
      simp only [beq_iff_eq] at d1
      refine wpS_bind (wpS_elemI (by omega) fun q3 eq3 hq3=>?_)
      refine wpS_bind (wpS_gallop (base:=ib + 1) (n:=b.size - (ib + 1)) (hint:=0) C (hkg _) (ha q3 hq3) hb (by omega) (by omega) fun k2 hk2=>?_)
      try dsimp only
      by_cases k20 : k2 > 0
      ·rw [if_pos k20]
       have v3:=v2.extB k2
       by_cases e1 : (ib + 1 + k2 == b.size) = true
       ·rw [if_pos e1]
        simp only [beq_iff_eq] at e1
        exact wpS_pure ⟨_,rfl,.inl ⟨_,_,_,_,_,_,_,rfl,v3.done (by omega) (by omega)⟩⟩
       rw [if_neg e1]
       simp only [beq_iff_eq] at e1
       refine wpS_bind (wpS_elemI (by omega) fun q4 eq4 _=>?_)
       have v4:=v3.pushA eq4
       by_cases f1 : (ia + 1 + 1 == a.size) = true
       ·rw [if_pos f1]
        simp only [beq_iff_eq] at f1
        exact wpS_pure ⟨_,rfl,.inl ⟨_,_,_,_,_,_,_,rfl,v4.last (by omega) (by omega)⟩⟩
       ·rw [if_neg f1]
        simp only [beq_iff_eq] at f1
        split
        ·exact wpS_pure ⟨_,rfl,.inr ⟨_,_,_,_,_,_,rfl,v4,by omega,by omega,by omega⟩⟩
        ·exact wpS_pure ⟨_,_,_,_,_,_,_,rfl,rfl,v4,by omega,by omega,by omega⟩
      ·rw [if_neg k20]
       refine wpS_bind (wpS_elemI (by omega) fun q4 eq4 _=>?_)
       have v4:=v2.pushA eq4
       by_cases f1 : (ia + 1 + 1 == a.size) = true
       ·rw [if_pos f1]
        simp only [beq_iff_eq] at f1
        exact wpS_pure ⟨_,rfl,.inl ⟨_,_,_,_,_,_,_,rfl,v4.last (by omega) (by omega)⟩⟩
       ·rw [if_neg f1]
        simp only [beq_iff_eq] at f1
        split
        ·exact wpS_pure ⟨_,rfl,.inr ⟨_,_,_,_,_,_,rfl,v4,by omega,by omega,by omega⟩⟩
        ·exact wpS_pure ⟨_,_,_,_,_,_,_,rfl,rfl,v4,by omega,by omega,by omega⟩
   ·rintro c st' ⟨out,ia,ib,mg,ac,bc,g,rfl,rfl,v,la,lb,hp⟩
    exact absurd hp (by omega)
   ·skip
    rintro c st' ⟨g,rfl,⟨r,out,ia,ib,mg,ac,bc,rfl,hr⟩ | ⟨out,ia,ib,mg,ac,bc,rfl,v,la,lb,hp⟩⟩
    ·exact wpS_pure ⟨_,_,_,_,_,_,rfl,rfl,hr⟩
    ·exact wpS_bind (wpS_modify (wpS_pure ⟨_,_,_,_,_,rfl,rfl,v,la,lb,by omega⟩))
 ·rintro c st' ⟨out,ia,ib,mg,g,rfl,rfl,v,la,lb,hp⟩
  exact absurd hp (by omega)
 ·rintro c st' ⟨r,out,ia,ib,mg,g,rfl,rfl,hr⟩
  exact wpS_pure (h r g hr)
end
end L2
end

section
set_option Elab.async false
set_option linter.all false
set_option maxHeartbeats 1000000
namespace L2
open PySem PyProof.Rows
section
variable {prog : Program} {w : World} {A : Around} {E : Value->Shared->Prop} {s : Shared} {a₀ : Array Keyed} {κ : SortKind}
def MHv (a b out : Array Keyed) (na nb : Nat) : Prop:=out.toList.Perm (a.toList.drop na ++ b.toList.drop nb)
theorem MHv.addA {a b out : Array Keyed} {na nb m : Nat} {y z : List Keyed} (h : MHv a b out na nb) (e : a.toList.drop m = y ++ a.toList.drop na) (hz : z.Perm y) : (out.toList ++ z).Perm (a.toList.drop m ++ b.toList.drop nb):=by
 rw [e,List.append_assoc]
 exact List.perm_append_comm.trans (hz.append h)
theorem MHv.addB {a b out : Array Keyed} {na nb m : Nat} {y z : List Keyed} (h : MHv a b out na nb) (e : b.toList.drop m = y ++ b.toList.drop nb) (hz : z.Perm y) : (out.toList ++ z).Perm (a.toList.drop na ++ b.toList.drop m):=by
 rw [e]
 refine List.perm_append_comm.trans ((hz.append h).trans ?_)
 rw [<- List.append_assoc,<- List.append_assoc]
 exact List.Perm.append_right _ List.perm_append_comm
theorem drop_one {a : Array Keyed} {n : Nat} {x : Keyed} (h1 : 1 <= n) (e : a[n - 1]? = some x) : a.toList.drop (n - 1) = [x] ++ a.toList.drop n:=by
 have h2 : a.toList[n - 1]? = some x:=by rw [Array.getElem?_toList];exact e
 obtain ⟨hl,hx⟩:=List.getElem?_eq_some_iff.mp h2
 rw [List.drop_eq_getElem_cons hl,hx,Nat.sub_add_cancel h1]
 rfl
theorem drop_ext (a : Array Keyed) {m n : Nat} (h : m <= n) : a.toList.drop m = (a.extract m n).toList ++ a.toList.drop n:=by
 rw [Array.toList_extract,List.extract_eq_drop_take]
 conv=>lhs;rw [<- List.take_append_drop (n - m) (a.toList.drop m),List.drop_drop,Nat.add_sub_cancel' h]
theorem MHv.pushA {a b out : Array Keyed} {na nb : Nat} {x : Keyed} (h : MHv a b out na nb) (h1 : 1 <= na) (e : a[na - 1]? = some x) : MHv a b (out.push x) (na - 1) nb:=by
 unfold MHv
 rw [Array.toList_push]
 exact h.addA (drop_one h1 e) (List.Perm.refl _)
theorem MHv.pushB {a b out : Array Keyed} {na nb : Nat} {x : Keyed} (h : MHv a b out na nb) (h1 : 1 <= nb) (e : b[nb - 1]? = some x) : MHv a b (out.push x) na (nb - 1):=by
 unfold MHv
 rw [Array.toList_push]
 exact h.addB (drop_one h1 e) (List.Perm.refl _)
theorem MHv.extA {a b out : Array Keyed} {na nb : Nat} (m : Nat) (h : MHv a b out na nb) (hm : m <= na) : MHv a b (out ++ (a.extract m na).reverse) m nb:=by
 unfold MHv
 rw [Array.toList_append,Array.toList_reverse]
 exact h.addA (drop_ext a hm) (List.reverse_perm _)
theorem MHv.extB {a b out : Array Keyed} {na nb : Nat} (m : Nat) (h : MHv a b out na nb) (hm : m <= nb) : MHv a b (out ++ (b.extract m nb).reverse) na m:=by
 unfold MHv
 rw [Array.toList_append,Array.toList_reverse]
 exact h.addB (drop_ext b hm) (List.reverse_perm _)
theorem ext0 (a : Array Keyed) (n : Nat) : (a.extract 0 n).toList ++ a.toList.drop n = a.toList:=by
 have:=drop_ext a (Nat.zero_le n)
 rw [List.drop_zero] at this
 exact this.symm
theorem MHv.done {a b out : Array Keyed} {na nb : Nat} (h : MHv a b out na nb) : (a.extract 0 na ++ b.extract 0 nb ++ out.reverse).Perm (a ++ b):=by
 rw [Array.perm_iff_toList_perm,Array.toList_append,Array.toList_append,Array.toList_append,Array.toList_reverse]
 refine (List.Perm.append_left _ ((List.reverse_perm _).trans h)).trans ?_
 conv=>rhs;rw [<- ext0 a na,<- ext0 b nb]
 simp only [List.append_assoc]
 refine List.Perm.append_left _ ?_
 rw [<- List.append_assoc,<- List.append_assoc]
 exact List.Perm.append_right _ List.perm_append_comm
theorem MHv.first {a b out : Array Keyed} {na nb : Nat} (h : MHv a b out na nb) : (b.extract 0 nb ++ a.extract 0 na ++ out.reverse).Perm (a ++ b):=by
 refine Array.Perm.trans ?_ h.done
 rw [Array.perm_iff_toList_perm,Array.toList_append,Array.toList_append,Array.toList_append,Array.toList_append]
 exact List.Perm.append_right _ List.perm_append_comm
theorem wpS_mergeHi (C : Cmp prog w A s κ a₀) {st : SortSt} (hk : kindOf st = κ) {a b : Array Keyed} (ha : ∀ p,p ∈ a->p ∈ a₀) (hb : ∀ p,p ∈ b->p ∈ a₀) (na1 : 1 <= a.size) (nb1 : 1 <= b.size) {Q : Array Keyed->SortSt->Prop} (h : ∀ out g,out.Perm (a ++ b)->Q out (setGallop st g)) :
  wpS (model prog w) A E s (mergeHi' a b) Q st:=by
 unfold mergeHi'
 have hkg : ∀ g,kindOf (setGallop st g) = κ:=fun _=>hk
 refine wpS_bind (wpS_lift (wpAny_rule ⟨rfl,?_⟩))
 try dsimp only
 refine wpS_bind (wpS_elemI (by omega) fun p0 e0 _=>?_)
 have v0 : MHv a b #[p0] (a.size - 1) b.size:=by
  unfold MHv
  rw [drop_one na1 e0,List.drop_of_length_le (by simp),List.drop_of_length_le (by simp)]
  exact List.Perm.refl _
 by_cases c1 : (a.size - 1 == 0) = true
 ·rw [if_pos c1]
  exact wpS_pure (h _ (gallopOf st) v0.done)
 rw [if_neg c1]
 by_cases c2 : (b.size == 1) = true
 ·rw [if_pos c2]
  exact wpS_pure (h _ (gallopOf st) v0.first)
 rw [if_neg c2]
 simp only [beq_iff_eq] at c1 c2
 refine wpS_bind (wpS_get ?_)
 refine wpS_bind (wpS_mono (wpS_forRange (I:=fun i c st'=>∃ na nb out mg g,c = (none,na,nb,out,mg)/\st' = setGallop st g/\MHv a b out na nb/\1 <= na/\2 <= nb/\na <= a.size/\nb <= b.size/\i + na + nb + 1 <= a.size + b.size)
  (Q:=fun c st'=>∃ r na nb out mg g,c = (some r,na,nb,out,mg)/\st' = setGallop st g/\r.Perm (a ++ b)) ?_ ?_ ⟨_,_,_,_,gallopOf st,rfl,rfl,v0,by omega,by omega,by omega,by omega,by omega⟩) ?_)
 ·rintro i c st' _ hi ⟨na,nb,out,mg,g,rfl,rfl,v,la,lb,za,zb,hp⟩
  try dsimp only
  refine wpS_bind (wpS_mono (wpS_forRange (I:=fun j c st'=>∃ na nb out ac bc,c = (none,na,nb,out,ac,bc)/\st' = setGallop st g/\MHv a b out na nb/\1 <= na/\2 <= nb/\na <= a.size/\nb <= b.size/\i + j + na + nb + 1 <= a.size + b.size)
   (Q:=fun c st'=>st' = setGallop st g/\((∃ r na nb out ac bc,c = (some r,na,nb,out,ac,bc)/\r.Perm (a ++ b))\/∃ na nb out ac bc,c = (none,na,nb,out,ac,bc)/\MHv a b out na nb/\1 <= na/\2 <= nb/\na <= a.size/\nb <= b.size/\i + na + nb + 1 <= a.size + b.size)) ?_ ?_ ⟨_,_,_,_,_,rfl,rfl,v,la,lb,za,zb,by omega⟩) ?_)
  ·rintro j c st' _ _ ⟨na,nb,out,ac,bc,rfl,rfl,v,la,lb,za,zb,hp⟩
   try dsimp only
   refine wpS_bind (wpS_elemI (by omega) fun p ep hpm=>?_)
   refine wpS_bind (wpS_elemI (by omega) fun q eq hqm=>?_)
   refine wpS_bind (wpS_ltC C (hkg _) (hb p hpm) (ha q hqm) fun bw=>?_)
   try dsimp only
   cases bw
   ·simp only [Bool.false_eq_true,if_false]
    refine wpS_bind (wpS_elemI (by omega) fun q eq _=>?_)
    have v2:=v.pushB (by omega) eq
    by_cases d1 : (nb - 1 == 1) = true
    ·rw [if_pos d1]
     exact wpS_pure ⟨rfl,.inl ⟨_,_,_,_,_,_,rfl,v2.first⟩⟩
    ·rw [if_neg d1]
     simp only [beq_iff_eq] at d1
     split
     ·exact wpS_pure ⟨rfl,.inr ⟨_,_,_,_,_,rfl,v2,by omega,by omega,by omega,by omega,by omega⟩⟩
     ·exact wpS_pure ⟨_,_,_,_,_,rfl,rfl,v2,by omega,by omega,by omega,by omega,by omega⟩
   ·simp only [if_true]
    refine wpS_bind (wpS_elemI (by omega) fun q eq _=>?_)
    have v2:=v.pushA (by omega) eq
    by_cases d1 : (na - 1 == 0) = true
    ·rw [if_pos d1]
     exact wpS_pure ⟨rfl,.inl ⟨_,_,_,_,_,_,rfl,v2.done⟩⟩
    ·rw [if_neg d1]
     simp only [beq_iff_eq] at d1
     split
     ·exact wpS_pure ⟨rfl,.inr ⟨_,_,_,_,_,rfl,v2,by omega,by omega,by omega,by omega,by omega⟩⟩
     ·exact wpS_pure ⟨_,_,_,_,_,rfl,rfl,v2,by omega,by omega,by omega,by omega,by omega⟩
  ·rintro c st' ⟨na,nb,out,ac,bc,rfl,rfl,v,la,lb,za,zb,hp⟩
   exact ⟨rfl,.inr ⟨_,_,_,_,_,rfl,v,la,lb,za,zb,by omega⟩⟩
  ·rintro c st' ⟨rfl,⟨r,na,nb,out,ac,bc,rfl,hr⟩ | ⟨na,nb,out,ac,bc,rfl,v,la,lb,za,zb,hp⟩⟩
   ·exact wpS_pure ⟨_,_,_,_,_,_,rfl,rfl,hr⟩
   try dsimp only
   refine wpS_bind (wpS_lift (wpAny_rule ⟨rfl,?_⟩))
   try dsimp only
   refine wpS_bind (wpS_mono (wpS_forRange (I:=fun j c st'=>∃ na nb out mg ac bc g,c = (none,na,nb,out,mg,ac,bc)/\st' = setGallop st g/\MHv a b out na nb/\1 <= na/\2 <= nb/\na <= a.size/\nb <= b.size/\i + j + na + nb + 1 <= a.size + b.size)
    (Q:=fun c st'=>∃ g,st' = setGallop st g/\((∃ r na nb out mg ac bc,c = (some r,na,nb,out,mg,ac,bc)/\r.Perm (a ++ b))\/∃ na nb out mg ac bc,c = (none,na,nb,out,mg,ac,bc)/\MHv a b out na nb/\1 <= na/\2 <= nb/\na <= a.size/\nb <= b.size/\i + na + nb + 2 <= a.size + b.size)) ?_ ?_ ⟨_,_,_,_,_,_,g,rfl,rfl,v,la,lb,za,zb,by omega⟩) ?_)
   ·rintro j c st' _ _ ⟨na,nb,out,mg,ac,bc,g,rfl,rfl,v,la,lb,za,zb,hp⟩
    try dsimp only
    by_cases m1 : mg > 1
    ·rw [if_pos m1]
     refine wpS_bind (wpS_modify ?_)
     refine wpS_bind (wpS_elemI (by omega) fun q1 eq1 hq1=>?_)
     refine wpS_bind (wpS_gallop (base:=0) (n:=na) (hint:=na - 1) C (hkg _) (hb q1 hq1) ha (by omega) (by omega) fun k1 hk1=>?_)
     try dsimp only
     by_cases k10 : na - k1 > 0
     ·rw [if_pos k10]
      have v1:=v.extA k1 hk1
      by_cases g1 : (k1 == 0) = true
      ·rw [if_pos g1]
       exact wpS_pure ⟨_,rfl,.inl ⟨_,_,_,_,_,_,_,rfl,v1.done⟩⟩
      rw [if_neg g1]
      simp only [beq_iff_eq] at g1
      refine wpS_bind (wpS_elemI (by omega) fun q2 eq2 _=>?_)
      have v2:=v1.pushB (by omega) eq2
      by_cases d1 : (nb - 1 == 1) = true
      ·rw [if_pos d1]
       exact wpS_pure ⟨_,rfl,.inl ⟨_,_,_,_,_,_,_,rfl,v2.first⟩⟩
      rw [if_neg d1]
      simp only [beq_iff_eq] at d1
      refine wpS_bind (wpS_elemI (by omega) fun q3 eq3 hq3=>?_)
      refine wpS_bind (wpS_gallop (base:=0) (n:=nb - 1) (hint:=nb - 1 - 1) C (hkg _) (ha q3 hq3) hb (by omega) (by omega) fun k2 hk2=>?_)
      try dsimp only
      by_cases k20 : nb - 1 - k2 > 0
      ·rw [if_pos k20]
       have v3:=v2.extB k2 hk2
       by_cases e1 : (k2 == 1) = true
       ·rw [if_pos e1]
        exact wpS_pure ⟨_,rfl,.inl ⟨_,_,_,_,_,_,_,rfl,v3.first⟩⟩
       rw [if_neg e1]
       simp only [beq_iff_eq] at e1
       by_cases e2 : (k2 == 0) = true
       ·rw [if_pos e2]
        exact wpS_pure ⟨_,rfl,.inl ⟨_,_,_,_,_,_,_,rfl,v3.done⟩⟩
       rw [if_neg e2]
       simp only [beq_iff_eq] at e2
       refine wpS_bind (wpS_elemI (by omega) fun q4 eq4 _=>?_)
       have v4:=v3.pushA (by omega) eq4
       by_cases f1 : (k1 - 1 == 0) = true
       ·rw [if_pos f1]
        exact wpS_pure ⟨_,rfl,.inl ⟨_,_,_,_,_,_,_,rfl,v4.done⟩⟩
       ·rw [if_neg f1]
        simp only [beq_iff_eq] at f1
        split
        ·exact wpS_pure ⟨_,rfl,.inr ⟨_,_,_,_,_,_,rfl,v4,by omega,by omega,by omega,by omega,by omega⟩⟩
        ·exact wpS_pure ⟨_,_,_,_,_,_,_,rfl,rfl,v4,by omega,by omega,by omega,by omega,by omega⟩
      ·rw [if_neg k20]
       refine wpS_bind (wpS_elemI (by omega) fun q4 eq4 _=>?_)
       have v4:=v2.pushA (by omega) eq4
       by_cases f1 : (k1 - 1 == 0) = true
       ·rw [if_pos f1]
        exact wpS_pure ⟨_,rfl,.inl ⟨_,_,_,_,_,_,_,rfl,v4.done⟩⟩
       ·rw [if_neg f1]
        simp only [beq_iff_eq] at f1
        split
        ·exact wpS_pure ⟨_,rfl,.inr ⟨_,_,_,_,_,_,rfl,v4,by omega,by omega,by omega,by omega,by omega⟩⟩
        ·exact wpS_pure ⟨_,_,_,_,_,_,_,rfl,rfl,v4,by omega,by omega,by omega,by omega,by omega⟩
     ·rw [if_neg k10]
      refine wpS_bind (wpS_elemI (by omega) fun q2 eq2 _=>?_)
      have v2:=v.pushB (by omega) eq2
      by_cases d1 : (nb - 1 == 1) = true
      ·rw [if_pos d1]
       exact wpS_pure ⟨_,rfl,.inl ⟨_,_,_,_,_,_,_,rfl,v2.first⟩⟩
      rw [if_neg d1]
      simp only [beq_iff_eq] at d1
      refine wpS_bind (wpS_elemI (by omega) fun q3 eq3 hq3=>?_)
      refine wpS_bind (wpS_gallop (base:=0) (n:=nb - 1) (hint:=nb - 1 - 1) C (hkg _) (ha q3 hq3) hb (by omega) (by omega) fun k2 hk2=>?_)
      try dsimp only
      by_cases k20 : nb - 1 - k2 > 0
      ·rw [if_pos k20]
       have v3:=v2.extB k2 hk2
       by_cases e1 : (k2 == 1) = true
       ·rw [if_pos e1]
        exact wpS_pure ⟨_,rfl,.inl ⟨_,_,_,_,_,_,_,rfl,v3.first⟩⟩
       rw [if_neg e1]
       simp only [beq_iff_eq] at e1
       by_cases e2 : (k2 == 0) = true
       ·rw [if_pos e2]
        exact wpS_pure ⟨_,rfl,.inl ⟨_,_,_,_,_,_,_,rfl,v3.done⟩⟩
       rw [if_neg e2]
       simp only [beq_iff_eq] at e2
       refine wpS_bind (wpS_elemI (by omega) fun q4 eq4 _=>?_)
       have v4:=v3.pushA (by omega) eq4
       by_cases f1 : (na - 1 == 0) = true
       ·rw [if_pos f1]
        exact wpS_pure ⟨_,rfl,.inl ⟨_,_,_,_,_,_,_,rfl,v4.done⟩⟩
       ·rw [if_neg f1]
        simp only [beq_iff_eq] at f1
        split
        ·exact wpS_pure ⟨_,rfl,.inr ⟨_,_,_,_,_,_,rfl,v4,by omega,by omega,by omega,by omega,by omega⟩⟩
        ·exact wpS_pure ⟨_,_,_,_,_,_,_,rfl,rfl,v4,by omega,by omega,by omega,by omega,by omega⟩
      ·rw [if_neg k20]
       refine wpS_bind (wpS_elemI (by omega) fun q4 eq4 _=>?_)
       have v4:=v2.pushA (by omega) eq4
       by_cases f1 : (na - 1 == 0) = true
       ·rw [if_pos f1]
        exact wpS_pure ⟨_,rfl,.inl ⟨_,_,_,_,_,_,_,rfl,v4.done⟩⟩
       ·rw [if_neg f1]
        simp only [beq_iff_eq] at f1
        split
        ·exact wpS_pure ⟨_,rfl,.inr ⟨_,_,_,_,_,_,rfl,v4,by omega,by omega,by omega,by omega,by omega⟩⟩
        ·exact wpS_pure ⟨_,_,_,_,_,_,_,rfl,rfl,v4,by omega,by omega,by omega,by omega,by omega⟩
    ·rw [if_neg m1]
     refine wpS_bind (wpS_modify ?_)
     refine wpS_bind (wpS_elemI (by omega) fun q1 eq1 hq1=>?_)
     refine wpS_bind (wpS_gallop (base:=0) (n:=na) (hint:=na - 1) C (hkg _) (hb q1 hq1) ha (by omega) (by omega) fun k1 hk1=>?_)
     try dsimp only
     by_cases k10 : na - k1 > 0
     ·rw [if_pos k10]
      have v1:=v.extA k1 hk1
      by_cases g1 : (k1 == 0) = true
      ·rw [if_pos g1]
       exact wpS_pure ⟨_,rfl,.inl ⟨_,_,_,_,_,_,_,rfl,v1.done⟩⟩
      rw [if_neg g1]
      simp only [beq_iff_eq] at g1
      refine wpS_bind (wpS_elemI (by omega) fun q2 eq2 _=>?_)
      have v2:=v1.pushB (by omega) eq2
      by_cases d1 : (nb - 1 == 1) = true
      ·rw [if_pos d1]
       exact wpS_pure ⟨_,rfl,.inl ⟨_,_,_,_,_,_,_,rfl,v2.first⟩⟩
      rw [if_neg d1]
      simp only [beq_iff_eq] at d1
      refine wpS_bind (wpS_elemI (by omega) fun q3 eq3 hq3=>?_)
      refine wpS_bind (wpS_gallop (base:=0) (n:=nb - 1) (hint:=nb - 1 - 1) C (hkg _) (ha q3 hq3) hb (by omega) (by omega) fun k2 hk2=>?_)
      try dsimp only
      by_cases k20 : nb - 1 - k2 > 0
      ·rw [if_pos k20]
       have v3:=v2.extB k2 hk2
       by_cases e1 : (k2 == 1) = true
       ·rw [if_pos e1]
        exact wpS_pure ⟨_,rfl,.inl ⟨_,_,_,_,_,_,_,rfl,v3.first⟩⟩
       rw [if_neg e1]
       simp only [beq_iff_eq] at e1
       by_cases e2 : (k2 == 0) = true
       ·rw [if_pos e2]
        exact wpS_pure ⟨_,rfl,.inl ⟨_,_,_,_,_,_,_,rfl,v3.done⟩⟩
       rw [if_neg e2]
       simp only [beq_iff_eq] at e2
       refine wpS_bind (wpS_elemI (by omega) fun q4 eq4 _=>?_)
       have v4:=v3.pushA (by omega) eq4
       by_cases f1 : (k1 - 1 == 0) = true
       ·rw [if_pos f1]
        exact wpS_pure ⟨_,rfl,.inl ⟨_,_,_,_,_,_,_,rfl,v4.done⟩⟩
       ·rw [if_neg f1]
        simp only [beq_iff_eq] at f1
        split
        ·exact wpS_pure ⟨_,rfl,.inr ⟨_,_,_,_,_,_,rfl,v4,by omega,by omega,by omega,by omega,by omega⟩⟩
        ·exact wpS_pure ⟨_,_,_,_,_,_,_,rfl,rfl,v4,by omega,by omega,by omega,by omega,by omega⟩
      ·rw [if_neg k20]
       refine wpS_bind (wpS_elemI (by omega) fun q4 eq4 _=>?_)
       have v4:=v2.pushA (by omega) eq4
       by_cases f1 : (k1 - 1 == 0) = true
       ·rw [if_pos f1]
        exact wpS_pure ⟨_,rfl,.inl ⟨_,_,_,_,_,_,_,rfl,v4.done⟩⟩
       ·rw [if_neg f1]
        simp only [beq_iff_eq] at f1
        split
        ·exact wpS_pure ⟨_,rfl,.inr ⟨_,_,_,_,_,_,rfl,v4,by omega,by omega,by omega,by omega,by omega⟩⟩
        ·exact wpS_pure ⟨_,_,_,_,_,_,_,rfl,rfl,v4,by omega,by omega,by omega,by omega,by omega⟩
     ·rw [if_neg k10]
      refine wpS_bind (wpS_elemI (by omega) fun q2 eq2 _=>?_)
      have v2:=v.pushB (by omega) eq2
      by_cases d1 : (nb - 1 == 1) = true
      ·rw [if_pos d1]
       exact wpS_pure ⟨_,rfl,.inl ⟨_,_,_,_,_,_,_,rfl,v2.first⟩⟩
      rw [if_neg d1]
      simp only [beq_iff_eq] at d1
      refine wpS_bind (wpS_elemI (by omega) fun q3 eq3 hq3=>?_)
      refine wpS_bind (wpS_gallop (base:=0) (n:=nb - 1) (hint:=nb - 1 - 1) C (hkg _) (ha q3 hq3) hb (by omega) (by omega) fun k2 hk2=>?_)
      try dsimp only
      by_cases k20 : nb - 1 - k2 > 0
      ·rw [if_pos k20]
       have v3:=v2.extB k2 hk2
       by_cases e1 : (k2 == 1) = true
       ·rw [if_pos e1]
        exact wpS_pure ⟨_,rfl,.inl ⟨_,_,_,_,_,_,_,rfl,v3.first⟩⟩
       rw [if_neg e1]
       simp only [beq_iff_eq] at e1
       by_cases e2 : (k2 == 0) = true
       ·rw [if_pos e2]
        exact wpS_pure ⟨_,rfl,.inl ⟨_,_,_,_,_,_,_,rfl,v3.done⟩⟩
       rw [if_neg e2]
       simp only [beq_iff_eq] at e2
       refine wpS_bind (wpS_elemI (by omega) fun q4 eq4 _=>?_)
       have v4:=v3.pushA (by omega) eq4
       by_cases f1 : (na - 1 == 0) = true
       ·rw [if_pos f1]
        exact wpS_pure ⟨_,rfl,.inl ⟨_,_,_,_,_,_,_,rfl,v4.done⟩⟩
       ·rw [if_neg f1]
        simp only [beq_iff_eq] at f1
        split
        ·exact wpS_pure ⟨_,rfl,.inr ⟨_,_,_,_,_,_,rfl,v4,by omega,by omega,by omega,by omega,by omega⟩⟩
        ·exact wpS_pure ⟨_,_,_,_,_,_,_,rfl,rfl,v4,by omega,by omega,by omega,by omega,by omega⟩
      ·rw [if_neg k20]
       refine wpS_bind (wpS_elemI (by omega) fun q4 eq4 _=>?_)
       have v4:=v2.pushA (by omega) eq4
       by_cases f1 : (na - 1 == 0) = true
       ·rw [if_pos f1]
        exact wpS_pure ⟨_,rfl,.inl ⟨_,_,_,_,_,_,_,rfl,v4.done⟩⟩
       ·rw [if_neg f1]
        simp only [beq_iff_eq] at f1
        split
        ·exact wpS_pure ⟨_,rfl,.inr ⟨_,_,_,_,_,_,rfl,v4,by omega,by omega,by omega,by omega,by omega⟩⟩
        ·exact wpS_pure ⟨_,_,_,_,_,_,_,rfl,rfl,v4,by omega,by omega,by omega,by omega,by omega⟩
   ·rintro c st' ⟨na,nb,out,mg,ac,bc,g,rfl,rfl,v,la,lb,za,zb,hp⟩
    exact absurd hp (by omega)
   ·rintro c st' ⟨g,rfl,⟨r,na,nb,out,mg,ac,bc,rfl,hr⟩ | ⟨na,nb,out,mg,ac,bc,rfl,v,la,lb,za,zb,hp⟩⟩
    ·exact wpS_pure ⟨_,_,_,_,_,_,rfl,rfl,hr⟩
    ·exact wpS_bind (wpS_modify (wpS_pure ⟨na,nb,out,_,_,rfl,rfl,v,la,lb,za,zb,by omega⟩))
 ·rintro c st' ⟨na,nb,out,mg,g,rfl,rfl,v,la,lb,za,zb,hp⟩
  exact absurd hp (by omega)
 ·rintro c st' ⟨r,na,nb,out,mg,g,rfl,rfl,hr⟩
  exact wpS_pure (h r g hr)
end
end L2
end

section
set_option Elab.async false
set_option linter.all false
set_option maxHeartbeats 1000000
namespace L2
open PySem PyProof.Rows
abbrev setPend (st : SortSt) (p : Array (Nat × Nat × Nat)) : SortSt:=SortSt.mk' (kindOf st) (arrOf st) p (gallopOf st) (failedOf st)
theorem foldl_set {sa : Nat} : ∀ (l : List Keyed) (n : Nat) (arr : Array Keyed),sa + n + l.length <= arr.size->((l.zipIdx n).foldl (fun (a : Array Keyed) (x : Keyed × Nat)=>a.setIfInBounds (sa + x.2) x.1) arr).toList = arr.toList.take (sa + n) ++ l ++ arr.toList.drop (sa + n + l.length)
 | [],n,arr,_=>by simp
 | x :: l,n,arr,h=>by
  rw [List.zipIdx_cons,List.foldl_cons]
  have hl : sa + n + (l.length + 1) <= arr.size:=h
  have h1 : sa + n < arr.toList.length:=by rw [Array.length_toList];omega
  rw [foldl_set l (n + 1) (arr.setIfInBounds (sa + n) x) (by rw [Array.size_setIfInBounds];omega)]
  rw [Array.toList_setIfInBounds]
  have e1 : (arr.toList.set (sa + n) x).take (sa + (n + 1)) = arr.toList.take (sa + n) ++ [x]:=by
   rw [show sa + (n + 1) = (sa + n) + 1 by omega,List.take_add_one,List.take_set_of_le (Nat.le_refl _),List.getElem?_set_self h1]
   rfl
  have e2 : (arr.toList.set (sa + n) x).drop (sa + (n + 1) + l.length) = arr.toList.drop (sa + n + (l.length + 1)):=by
   rw [List.drop_set_of_lt (by omega)]
   congr 1
   omega
  rw [e1,e2]
  simp
theorem write_perm {arr m : Array Keyed} {sa k : Nat} (hs : sa + k <= arr.size) (hm : m.Perm (arr.extract sa (sa + k))) : (m.toList.zipIdx.foldl (fun (a : Array Keyed) (x : Keyed × Nat)=>a.setIfInBounds (sa + x.2) x.1) arr).Perm arr:=by
 have hl : m.toList.length = k:=by
  have:=hm.size_eq
  rw [Array.length_toList,this,Array.size_extract]
  omega
 rw [Array.perm_iff_toList_perm,foldl_set m.toList 0 arr (by omega)]
 have e : arr.toList = arr.toList.take sa ++ (arr.extract sa (sa + k)).toList ++ arr.toList.drop (sa + k):=by
  rw [<- take_ext,List.take_append_drop]
 conv=>rhs;rw [e]
 rw [hl,Nat.add_zero]
 exact List.Perm.append_right _ (List.Perm.append_left _ (Array.perm_iff_toList_perm.mp hm))
section
variable {prog : Program} {w : World} {A : Around} {E : Value->Shared->Prop} {s : Shared} {a₀ : Array Keyed} {κ : SortKind}
theorem wpS_set {st st' : SortSt} {Q : PUnit->SortSt->Prop} (h : Q ⟨⟩ st') : wpS (model prog w) A E s (set st' : StateT SortSt Sem PUnit) Q st:=by
 unfold wpS
 rw [StateT.run_set]
 exact wpAny_pure ⟨rfl,h⟩
theorem ext_mem {arr : Array Keyed} {i j : Nat} {p : Keyed} (h : p ∈ arr.extract i j) : p ∈ arr:=by
 rw [<- Array.mem_toList_iff,Array.toList_extract] at h
 rw [<- Array.mem_toList_iff]
 rw [List.extract_eq_drop_take] at h
 exact List.mem_of_mem_drop (List.mem_of_mem_take h)
theorem wpS_mergeAt (C : Cmp prog w A s κ a₀) {st : SortSt} (B : Safe κ a₀ st) {i sa na pw sb nb pw2 : Nat} (e1 : (pendingOf st)[i]? = some (sa,na,pw)) (e2 : (pendingOf st)[i + 1]? = some (sb,nb,pw2)) (hsb : sb = sa + na) (h1 : 1 <= na) (h2 : 1 <= nb) (hz : sb + nb <= a₀.size)
  {Q : Bool->SortSt->Prop} (h : ∀ st',Safe κ a₀ st'->pendingOf st' = ((pendingOf st).setIfInBounds i (sa,na + nb,pw)).eraseIdxIfInBounds (i + 1)->Q true st') : wpS (model prog w) A E s (mergeAt' i) Q st:=by
 have hsz:=B.size
 have hin : ∀ p,p ∈ arrOf st->p ∈ a₀:=fun p hp=>B.perm.mem_iff.mp hp
 unfold mergeAt'
 refine wpS_bind (wpS_get ?_)
 rw [e1,e2]
 try dsimp only
 refine wpS_bind (wpS_set ?_)
 obtain ⟨st1,es⟩ : ∃ st1,st1 = setPend st (((pendingOf st).setIfInBounds i (sa,na + nb,pw)).eraseIdxIfInBounds (i + 1)):=⟨_,rfl⟩
 have B1 : Safe κ a₀ st1:=by rw [es];exact ⟨B.perm,B.kind,B.failed⟩
 have ep1 : pendingOf st1 = ((pendingOf st).setIfInBounds i (sa,na + nb,pw)).eraseIdxIfInBounds (i + 1):=by rw [es]
 have ea1 : arrOf st1 = arrOf st:=by rw [es]
 change wpS (model prog w) A E s _ Q (setPend st (((pendingOf st).setIfInBounds i (sa,na + nb,pw)).eraseIdxIfInBounds (i + 1)))
 rw [<- es]
 refine wpS_bind (wpS_elemI (arr:=arrOf st) (by omega) fun p _ hp=>?_)
 refine wpS_bind (wpS_gallop (base:=sa) (n:=na) (hint:=0) C B1.kind (hin p hp) hin (by omega) (by omega) fun k hk=>?_)
 try dsimp only
 by_cases c1 : (na - k == 0) = true
 ·rw [if_pos c1]
  exact wpS_pure (h _ B1 ep1)
 rw [if_neg c1]
 simp only [beq_iff_eq] at c1
 refine wpS_bind (wpS_elemI (arr:=arrOf st) (by omega) fun q _ hq=>?_)
 refine wpS_bind (wpS_gallop (base:=sb) (n:=nb) (hint:=nb - 1) C B1.kind (hin q hq) hin (by omega) (by omega) fun m hm=>?_)
 try dsimp only
 by_cases c2 : (m == 0) = true
 ·rw [if_pos c2]
  exact wpS_pure (h _ B1 ep1)
 rw [if_neg c2]
 simp only [beq_iff_eq] at c2
 have zx : ((arrOf st).extract (sa + k) sb).size = na - k:=by rw [Array.size_extract];omega
 have zy : ((arrOf st).extract sb (sb + m)).size = m:=by rw [Array.size_extract];omega
 have fin : ∀ (out : Array Keyed) (g : Nat),out.Perm ((arrOf st).extract (sa + k) sb ++ (arrOf st).extract sb (sb + m))->wpS (model prog w) A E s (do
   modify fun s=>setArr s (out.toList.zipIdx.foldl (fun a (x : Keyed × Nat)=>a.setIfInBounds (sa + k + x.2) x.1) (arrOf s))
   let s' <- get
   return (failedOf s').isNone) Q (setGallop st1 g):=by
  intro out g ho
  have he : (arrOf st).extract (sa + k) sb ++ (arrOf st).extract sb (sb + m) = (arrOf st).extract (sa + k) (sa + k + (na - k + m)):=by
   rw [Array.extract_append_extract]
   congr 1 <;> omega
  rw [he] at ho
  have wp : (out.toList.zipIdx.foldl (fun a (x : Keyed × Nat)=>a.setIfInBounds (sa + k + x.2) x.1) (arrOf st1)).Perm (arrOf st1):=write_perm (sa:=sa + k) (k:=na - k + m) (by rw [ea1];omega) (by rw [ea1];exact ho)
  refine wpS_bind (wpS_modify (wpS_bind (wpS_get ?_)))
  have B2 : Safe κ a₀ (setArr (setGallop st1 g) (out.toList.zipIdx.foldl (fun a (x : Keyed × Nat)=>a.setIfInBounds (sa + k + x.2) x.1) (arrOf st1))):=⟨wp.trans B1.perm,B1.kind,B1.failed⟩
  have hf : (failedOf st1).isNone = true:=by rw [B1.failed];rfl
  show wpS _ _ _ _ (pure (failedOf st1).isNone) _ _
  rw [hf]
  exact wpS_pure (h _ B2 ep1)
 by_cases c3 : na - k <= m
 ·rw [if_pos c3]
  exact wpS_bind (wpS_mergeLo C B1.kind (fun p hp=>hin p (ext_mem hp)) (fun p hp=>hin p (ext_mem hp)) (by omega) (by omega) fin)
 ·rw [if_neg c3]
  exact wpS_bind (wpS_mergeHi C B1.kind (fun p hp=>hin p (ext_mem hp)) (fun p hp=>hin p (ext_mem hp)) (by omega) (by omega) fin)
end
end L2
end

section
set_option Elab.async false
set_option linter.all false
set_option maxHeartbeats 1000000
namespace L2
open PySem PyProof.Rows
def SafeP (κ : SortKind) (a₀ : Array Keyed) (p : Array (Nat × Nat × Nat)) (st : SortSt) : Prop:=Safe κ a₀ st/\pendingOf st = p
section
variable {prog : Program} {w : World} {A : Around} {E : Value->Shared->Prop} {s : Shared} {a₀ : Array Keyed} {κ : SortKind} {pd : Array (Nat × Nat × Nat)}
theorem SafeP.set {st : SortSt} (h : SafeP κ a₀ pd st) {xs : Array Keyed} (hp : xs.Perm (arrOf st)) : SafeP κ a₀ pd (setArr st xs):=⟨h.1.set hp,h.2⟩
theorem wpS_rev {st : SortSt} {i j : Nat} {Q : Unit->SortSt->Prop} (B : SafeP κ a₀ pd st) (h : ∀ st',SafeP κ a₀ pd st'->Q () st') : wpS (model prog w) A E s (reverseSlice' i j) Q st:=wpS_reverse (h _ (B.set (mirror_perm _ _ _ _)))
theorem wpS_move {st : SortSt} {i j : Nat} {Q : Unit->SortSt->Prop} (B : SafeP κ a₀ pd st) (h : ∀ st',SafeP κ a₀ pd st'->Q () st') : wpS (model prog w) A E s (moveDown' i j) Q st:=by
 rw [moveDown'_eq]
 exact wpS_modify (h _ (B.set (bubble_perm _ _ _)))
theorem wpS_binarySortC (C : Cmp prog w A s κ a₀) {st : SortSt} (B : SafeP κ a₀ pd st) {lo n ok : Nat} (hn : lo + n <= a₀.size) {Q : Bool->SortSt->Prop} (h : ∀ st',SafeP κ a₀ pd st'->Q true st') : wpS (model prog w) A E s (binarySort' lo n ok) Q st:=by
 rw [binarySort'_eq]
 refine wpS_bind (wpS_mono (wpS_forRange (I:=fun _ c st'=>c = (none,())/\SafeP κ a₀ pd st') (Q:=fun c st'=>c = (none,())/\SafeP κ a₀ pd st') ?_ (fun _ _ z=>z) ⟨rfl,B⟩) ?_)
 ·rintro k c st' _ hk ⟨rfl,B⟩
  try dsimp only
  refine wpS_bind (wpS_mono (wpS_forRange (I:=fun _ c st2=>∃ l r,c = (none,l,r)/\r <= k/\SafeP κ a₀ pd st2) (Q:=fun c st2=>∃ l r,c = (none,l,r)/\r <= k/\SafeP κ a₀ pd st2) ?_ (fun _ _ z=>z) ⟨_,_,rfl,Nat.le_refl _,B⟩) ?_)
  ·rintro j c st2 _ _ ⟨l,r,rfl,hr,B⟩
   try dsimp only
   by_cases d : l ≥ r
   ·rw [if_pos d]
    exact wpS_pure ⟨_,_,rfl,hr,B⟩
   ·rw [if_neg d]
    refine wpS_bind (wpS_ltAtC C B.1 (by omega) (by omega) fun b=>?_)
    cases b
    ·exact wpS_pure ⟨_,_,rfl,hr,B⟩
    ·exact wpS_pure ⟨_,_,rfl,by omega,B⟩
  ·rintro c st2 ⟨l,r,rfl,hr,B⟩
   exact wpS_bind (wpS_move B fun st3 B=>wpS_pure ⟨rfl,B⟩)
 ·rintro c st' ⟨rfl,B⟩
  exact wpS_pure (h _ B)
theorem wpS_countRunC (C : Cmp prog w A s κ a₀) {st : SortSt} (B : SafeP κ a₀ pd st) {lo nrem : Nat} (h1 : 1 <= nrem) (hn : lo + nrem <= a₀.size) {Q : Option Nat->SortSt->Prop} (h : ∀ n st',SafeP κ a₀ pd st'->1 <= n->n <= nrem->Q (some n) st') : wpS (model prog w) A E s (countRun' lo nrem) Q st:=by
 rw [countRun'_eq]
 refine wpS_bind (wpS_mono (wpS_forRange (I:=fun i c st'=>∃ n,c = (none,n)/\1 <= n/\n <= i/\SafeP κ a₀ pd st') (Q:=fun c st'=>∃ n,c = (none,n)/\1 <= n/\n <= nrem/\SafeP κ a₀ pd st') ?_ ?_ ⟨1,rfl,by omega,by omega,B⟩) ?_)
 ·rintro i c st' _ hi ⟨n,rfl,n1,n2,B⟩
  try dsimp only
  refine wpS_bind (wpS_ltAtC C B.1 (by omega) (by omega) fun b=>?_)
  cases b
  ·exact wpS_pure ⟨_,rfl,by omega,by omega,B⟩
  ·exact wpS_pure ⟨_,rfl,by omega,by omega,B⟩
 ·rintro c st' ⟨n,rfl,n1,n2,B⟩
  exact ⟨n,rfl,n1,by omega,B⟩
 ·rintro c st' ⟨n,rfl,n1,n2,B⟩
  try dsimp only
  by_cases c1 : (n == nrem) = true
  ·rw [if_pos c1]
   exact wpS_pure (h _ _ B n1 n2)
  rw [if_neg c1]
  simp only [beq_iff_eq] at c1
  by_cases c2 : n > 1
  ·rw [if_pos c2]
   refine wpS_bind (wpS_ltAtC C B.1 (by omega) (by omega) fun b=>?_)
   cases b
   ·simp only [Bool.false_eq_true,if_false]
    refine wpS_bind (wpS_rev B fun st' B=>?_)
    refine wpS_bind (wpS_lift (wpAny_rule ⟨rfl,?_⟩))
    try dsimp only
    refine wpS_bind (wpS_mono (wpS_forRange (I:=fun i c st'=>∃ m q,c = (none,m,q)/\1 <= m/\m <= i/\SafeP κ a₀ pd st') (Q:=fun c st'=>∃ m q,c = (none,m,q)/\1 <= m/\m <= nrem/\SafeP κ a₀ pd st') ?_ ?_ ⟨_,_,rfl,by omega,by omega,B⟩) ?_)
    ·rintro i c st2 _ hi ⟨m,q,rfl,m1,m2,B⟩
     try dsimp only
     refine wpS_bind (wpS_ltAtC C B.1 (by omega) (by omega) fun b=>?_)
     cases b
     ·simp only [Bool.false_eq_true,if_false]
      refine wpS_bind (wpS_ltAtC C B.1 (by omega) (by omega) fun b=>?_)
      cases b
      ·exact wpS_pure ⟨_,_,rfl,by omega,by omega,B⟩
      ·exact wpS_pure ⟨_,_,rfl,by omega,by omega,B⟩
     ·simp only [if_true]
      split
      ·exact wpS_bind (wpS_rev B fun st3 B=>wpS_pure ⟨_,_,rfl,by omega,by omega,B⟩)
      ·exact wpS_pure ⟨_,_,rfl,by omega,by omega,B⟩
    ·rintro c st2 ⟨m,q,rfl,m1,m2,B⟩
     exact ⟨m,q,rfl,m1,by omega,B⟩
    ·rintro c st2 ⟨m,q,rfl,m1,m2,B⟩
     try dsimp only
     by_cases c3 : q > 0
     ·rw [if_pos c3]
      refine wpS_bind (wpS_rev B fun st3 B=>?_)
      refine wpS_bind (wpS_rev B fun st4 B=>?_)
      refine wpS_bind (wpS_mono (wpS_forRange (I:=fun i c st'=>∃ k,c = (none,k)/\1 <= k/\k <= i/\k <= nrem/\SafeP κ a₀ pd st') (Q:=fun c st'=>∃ k,c = (none,k)/\1 <= k/\k <= nrem/\SafeP κ a₀ pd st') ?_ ?_ ⟨_,rfl,by omega,by omega,by omega,B⟩) ?_)
      ·rintro i c st5 _ hi ⟨k,rfl,k1,k2,k3,B⟩
       try dsimp only
       refine wpS_bind (wpS_ltAtC C B.1 (by omega) (by omega) fun b=>?_)
       cases b
       ·exact wpS_pure ⟨_,rfl,by omega,by omega,by omega,B⟩
       ·exact wpS_pure ⟨_,rfl,by omega,by omega,B⟩
      ·rintro c st5 ⟨k,rfl,k1,k2,k3,B⟩
       exact ⟨_,rfl,k1,k3,B⟩
      ·rintro c st5 ⟨k,rfl,k1,k2,B⟩
       exact wpS_pure (h _ _ B k1 k2)
     ·rw [if_neg c3]
      refine wpS_bind (wpS_rev B fun st4 B=>?_)
      refine wpS_bind (wpS_mono (wpS_forRange (I:=fun i c st'=>∃ k,c = (none,k)/\1 <= k/\k <= i/\k <= nrem/\SafeP κ a₀ pd st') (Q:=fun c st'=>∃ k,c = (none,k)/\1 <= k/\k <= nrem/\SafeP κ a₀ pd st') ?_ ?_ ⟨_,rfl,by omega,by omega,by omega,B⟩) ?_)
      ·rintro i c st5 _ hi ⟨k,rfl,k1,k2,k3,B⟩
       try dsimp only
       refine wpS_bind (wpS_ltAtC C B.1 (by omega) (by omega) fun b=>?_)
       cases b
       ·exact wpS_pure ⟨_,rfl,by omega,by omega,by omega,B⟩
       ·exact wpS_pure ⟨_,rfl,by omega,by omega,B⟩
      ·rintro c st5 ⟨k,rfl,k1,k2,k3,B⟩
       exact ⟨_,rfl,k1,k3,B⟩
      ·rintro c st5 ⟨k,rfl,k1,k2,B⟩
       exact wpS_pure (h _ _ B k1 k2)
   ·simp only [if_true]
    exact wpS_pure (h _ _ B n1 n2)
  ·rw [if_neg c2]
   refine wpS_bind (wpS_lift (wpAny_rule ⟨rfl,?_⟩))
   try dsimp only
   refine wpS_bind (wpS_mono (wpS_forRange (I:=fun i c st'=>∃ m q,c = (none,m,q)/\1 <= m/\m <= i/\SafeP κ a₀ pd st') (Q:=fun c st'=>∃ m q,c = (none,m,q)/\1 <= m/\m <= nrem/\SafeP κ a₀ pd st') ?_ ?_ ⟨_,_,rfl,by omega,by omega,B⟩) ?_)
   ·rintro i c st2 _ hi ⟨m,q,rfl,m1,m2,B⟩
    try dsimp only
    refine wpS_bind (wpS_ltAtC C B.1 (by omega) (by omega) fun b=>?_)
    cases b
    ·simp only [Bool.false_eq_true,if_false]
     refine wpS_bind (wpS_ltAtC C B.1 (by omega) (by omega) fun b=>?_)
     cases b
     ·exact wpS_pure ⟨_,_,rfl,by omega,by omega,B⟩
     ·exact wpS_pure ⟨_,_,rfl,by omega,by omega,B⟩
    ·simp only [if_true]
     split
     ·exact wpS_bind (wpS_rev B fun st3 B=>wpS_pure ⟨_,_,rfl,by omega,by omega,B⟩)
     ·exact wpS_pure ⟨_,_,rfl,by omega,by omega,B⟩
   ·rintro c st2 ⟨m,q,rfl,m1,m2,B⟩
    exact ⟨m,q,rfl,m1,by omega,B⟩
   ·rintro c st2 ⟨m,q,rfl,m1,m2,B⟩
    try dsimp only
    by_cases c3 : q > 0
    ·rw [if_pos c3]
     refine wpS_bind (wpS_rev B fun st3 B=>?_)
     refine wpS_bind (wpS_rev B fun st4 B=>?_)
     refine wpS_bind (wpS_mono (wpS_forRange (I:=fun i c st'=>∃ k,c = (none,k)/\1 <= k/\k <= i/\k <= nrem/\SafeP κ a₀ pd st') (Q:=fun c st'=>∃ k,c = (none,k)/\1 <= k/\k <= nrem/\SafeP κ a₀ pd st') ?_ ?_ ⟨_,rfl,by omega,by omega,by omega,B⟩) ?_)
     ·rintro i c st5 _ hi ⟨k,rfl,k1,k2,k3,B⟩
      try dsimp only
      refine wpS_bind (wpS_ltAtC C B.1 (by omega) (by omega) fun b=>?_)
      cases b
      ·exact wpS_pure ⟨_,rfl,by omega,by omega,by omega,B⟩
      ·exact wpS_pure ⟨_,rfl,by omega,by omega,B⟩
     ·rintro c st5 ⟨k,rfl,k1,k2,k3,B⟩
      exact ⟨_,rfl,k1,k3,B⟩
     ·rintro c st5 ⟨k,rfl,k1,k2,B⟩
      exact wpS_pure (h _ _ B k1 k2)
    ·rw [if_neg c3]
     refine wpS_bind (wpS_rev B fun st4 B=>?_)
     refine wpS_bind (wpS_mono (wpS_forRange (I:=fun i c st'=>∃ k,c = (none,k)/\1 <= k/\k <= i/\k <= nrem/\SafeP κ a₀ pd st') (Q:=fun c st'=>∃ k,c = (none,k)/\1 <= k/\k <= nrem/\SafeP κ a₀ pd st') ?_ ?_ ⟨_,rfl,by omega,by omega,by omega,B⟩) ?_)
     ·rintro i c st5 _ hi ⟨k,rfl,k1,k2,k3,B⟩
      try dsimp only
      refine wpS_bind (wpS_ltAtC C B.1 (by omega) (by omega) fun b=>?_)
      cases b
      ·exact wpS_pure ⟨_,rfl,by omega,by omega,by omega,B⟩
      ·exact wpS_pure ⟨_,rfl,by omega,by omega,B⟩
     ·rintro c st5 ⟨k,rfl,k1,k2,k3,B⟩
      exact ⟨_,rfl,k1,k3,B⟩
     ·rintro c st5 ⟨k,rfl,k1,k2,B⟩
      exact wpS_pure (h _ _ B k1 k2)
end
end L2
end

section
set_option Elab.async false
set_option linter.all false
set_option maxHeartbeats 1000000
namespace L2
open PySem PyProof.Rows
def Runs : Nat->List (Nat × Nat × Nat)->Nat->Prop
 | lo,[],hi=>lo = hi
 | lo,x :: r,hi=>x.1 = lo/\1 <= x.2.1/\Runs (lo + x.2.1) r hi
theorem Runs.le : ∀ {p : List (Nat × Nat × Nat)} {lo hi : Nat},Runs lo p hi->lo <= hi
 | [],_,_,h=>Nat.le_of_eq h
 | x :: r,lo,hi,⟨_,h1,h2⟩=>by have:=Runs.le h2;omega
theorem Runs.two : ∀ {p : List (Nat × Nat × Nat)} {lo hi i : Nat} {x y : Nat × Nat × Nat},Runs lo p hi->p[i]? = some x->p[i + 1]? = some y->y.1 = x.1 + x.2.1/\1 <= x.2.1/\1 <= y.2.1/\y.1 + y.2.1 <= hi/\Runs lo ((p.set i (x.1,x.2.1 + y.2.1,x.2.2)).eraseIdx (i + 1)) hi
 | [],_,_,_,_,_,_,h,_=>by simp at h
 | [u],_,_,0,_,_,_,_,h=>by simp at h
 | u :: v :: r,lo,hi,0,x,y,⟨h1,h2,h3,h4,h5⟩,e1,e2=>by
  obtain rfl : u = x:=by simpa using e1
  obtain rfl : v = y:=by simpa using e2
  refine ⟨by omega,h2,h4,by have:=h5.le;omega,?_⟩
  show u.1 = lo/\1 <= u.2.1 + v.2.1/\Runs (lo + (u.2.1 + v.2.1)) r hi
  exact ⟨h1,by omega,by rw [<- Nat.add_assoc];exact h5⟩
 | u :: r,lo,hi,i + 1,x,y,⟨h1,h2,h3⟩,e1,e2=>by
  obtain ⟨a,b,c,d,e⟩:=Runs.two (i:=i) h3 (by simpa using e1) (by simpa using e2)
  exact ⟨a,b,c,d,h1,h2,e⟩
theorem Runs.push : ∀ {p : List (Nat × Nat × Nat)} {lo hi n k : Nat},Runs lo p hi->1 <= n->Runs lo (p ++ [(hi,n,k)]) (hi + n)
 | [],_,_,_,_,h,h1=>by cases h;exact ⟨rfl,h1,rfl⟩
 | _ :: _,_,_,_,_,⟨a,b,c⟩,h1=>⟨a,b,Runs.push c h1⟩
theorem Runs.modify {f : Nat × Nat × Nat->Nat × Nat × Nat} (hf : ∀ x,(f x).1 = x.1/\(f x).2.1 = x.2.1) : ∀ {p : List (Nat × Nat × Nat)} {lo hi i : Nat},Runs lo p hi->Runs lo (p.modify i f) hi
 | [],_,_,i,h=>by cases i <;> exact h
 | x :: r,lo,hi,0,⟨a,b,c⟩=>by
  rw [List.modify_zero_cons]
  exact ⟨(hf x).1.trans a,by rw [(hf x).2];exact b,by rw [(hf x).2];exact c⟩
 | x :: r,lo,hi,i + 1,⟨a,b,c⟩=>by
  rw [List.modify_succ_cons]
  exact ⟨a,b,Runs.modify hf c⟩
theorem ite_le1 {p : Prop} [Decidable p] {a : Nat} : (if p then a - 1 else a) <= a:=by split <;> omega
section
variable {prog : Program} {w : World} {A : Around} {E : Value->Shared->Prop} {s : Shared} {a₀ : Array Keyed} {κ : SortKind}
theorem wpS_mergeAtR (C : Cmp prog w A s κ a₀) {st : SortSt} (B : Safe κ a₀ st) {hi i : Nat} (R : Runs 0 (pendingOf st).toList hi) (hz : hi <= a₀.size) (hi2 : i + 1 < (pendingOf st).size) {Q : Bool->SortSt->Prop} (h : ∀ st',Safe κ a₀ st'->Runs 0 (pendingOf st').toList hi->Q true st') : wpS (model prog w) A E s (mergeAt' i) Q st:=by
 obtain ⟨⟨sa,na,pw⟩,e1⟩ : ∃ x,(pendingOf st)[i]? = some x:=⟨_,Array.getElem?_eq_getElem (by omega)⟩
 obtain ⟨⟨sb,nb,pw2⟩,e2⟩ : ∃ x,(pendingOf st)[i + 1]? = some x:=⟨_,Array.getElem?_eq_getElem hi2⟩
 obtain ⟨a,b,c,d,e⟩:=R.two (i:=i) (by rw [Array.getElem?_toList];exact e1) (by rw [Array.getElem?_toList];exact e2)
 refine wpS_mergeAt C B e1 e2 a b c (Nat.le_trans d hz) fun st' B' ep=>h st' B' ?_
 rw [ep]
 have : (((pendingOf st).setIfInBounds i (sa,na + nb,pw)).eraseIdxIfInBounds (i + 1)).toList = ((pendingOf st).toList.set i (sa,na + nb,pw)).eraseIdx (i + 1):=by
  simp
 rw [this]
 exact e
theorem wpS_sortRunsC (C : Cmp prog w A s κ a₀) {st : SortSt} (B : Safe κ a₀ st) (e0 : pendingOf st = #[]) {Q : Unit->SortSt->Prop} (h : ∀ st',Safe κ a₀ st'->Q () st') : wpS (model prog w) A E s sortRuns' Q st:=by
 rw [sortRuns'_eq]
 refine wpS_bind (wpS_get ?_)
 try dsimp only
 have hsz:=B.size
 rw [hsz]
 generalize minRun' a₀.size a₀.size 0 = mr
 refine wpS_bind (wpS_mono (wpS_forRange (I:=fun _ c st'=>∃ lo,c = (none,lo)/\lo <= a₀.size/\Safe κ a₀ st'/\Runs 0 (pendingOf st').toList lo) (Q:=fun c st'=>∃ lo,c = (none,lo)/\lo <= a₀.size/\Safe κ a₀ st'/\Runs 0 (pendingOf st').toList lo) ?_ (fun _ _ z=>z) ⟨0,rfl,by omega,B,by rw [e0];rfl⟩) ?_)
 ·rintro i c st' _ _ ⟨lo,rfl,hlo,B,R⟩
  try dsimp only
  by_cases c1 : lo ≥ a₀.size
  ·rw [if_pos c1]
   exact wpS_pure ⟨_,rfl,hlo,B,R⟩
  rw [if_neg c1]
  refine wpS_bind (wpS_countRunC C ⟨B,rfl⟩ (by omega) (by omega) fun n st1 B1 n1 n2=>?_)
  try dsimp only
  obtain ⟨B1,ep1⟩:=B1
  have R1 : Runs 0 (pendingOf st1).toList lo:=by rw [ep1];exact R
  by_cases c2 : n < mr
  ·rw [if_pos c2]
   refine wpS_bind (wpS_lift (wpAny_rule ⟨rfl,?_⟩))
   try dsimp only
   refine wpS_bind (wpS_binarySortC C ⟨B1,rfl⟩ (by omega) fun st2 B2=>?_)
   obtain ⟨B2,ep2⟩:=B2
   have R2 : Runs 0 (pendingOf st2).toList lo:=by rw [ep2];exact R1
   have hm1 : 1 <= min (a₀.size - lo) mr:=by omega
   simp only [Bool.not_true,Bool.false_eq_true,if_false]
   refine wpS_bind (wpS_get ?_)
   try dsimp only
   cases hbk : (pendingOf st2).back? with
   | none =>
    try dsimp only
    refine wpS_bind (wpS_modify (wpS_pure ⟨_,rfl,by omega,⟨B2.perm,B2.kind,B2.failed⟩,?_⟩))
    show Runs 0 ((pendingOf st2).push (lo,min (a₀.size - lo) mr,0)).toList (lo + min (a₀.size - lo) mr)
    rw [Array.toList_push]
    exact R2.push hm1
   | some x =>
    obtain ⟨s1,k1,z1⟩:=x
    try dsimp only
    refine wpS_bind (wpS_mono (wpS_forRange (I:=fun _ c st'=>c = (none,())/\Safe κ a₀ st'/\Runs 0 (pendingOf st').toList lo) (Q:=fun c st'=>c = (none,())/\Safe κ a₀ st'/\Runs 0 (pendingOf st').toList lo) ?_ (fun _ _ z=>z) ⟨rfl,B2,R2⟩) ?_)
    ·rintro j c st4 _ _ ⟨rfl,B4,R4⟩
     refine wpS_bind (wpS_get ?_)
     by_cases d : (pendingOf st4).size > 1
     ·rw [if_pos d]
      obtain ⟨⟨u1,u2,u3⟩,eu⟩ : ∃ x,(pendingOf st4)[(pendingOf st4).size - 2]? = some x:=⟨_,Array.getElem?_eq_getElem (by omega)⟩
      rw [eu]
      try dsimp only
      split
      ·exact wpS_pure ⟨rfl,B4,R4⟩
      ·refine wpS_bind (wpS_mergeAtR C B4 R4 hlo (by omega) fun st5 B5 R5=>?_)
       exact wpS_pure ⟨rfl,B5,R5⟩
     ·rw [if_neg d]
      exact wpS_pure ⟨rfl,B4,R4⟩
    ·rintro c st4 ⟨rfl,B4,R4⟩
     try dsimp only
     refine wpS_bind (wpS_modify (wpS_bind (wpS_modify (wpS_pure ⟨_,rfl,by omega,⟨B4.perm,B4.kind,B4.failed⟩,?_⟩))))
     show Runs 0 (((pendingOf st4).modify _ _).push (lo,min (a₀.size - lo) mr,0)).toList (lo + min (a₀.size - lo) mr)
     rw [Array.toList_push,Array.toList_modify]
     refine Runs.push (Runs.modify ?_ R4) hm1
     exact fun _=>⟨rfl,rfl⟩
  ·rw [if_neg c2]
   refine wpS_bind (wpS_get ?_)
   try dsimp only
   cases hbk : (pendingOf st1).back? with
   | none =>
    try dsimp only
    refine wpS_bind (wpS_modify (wpS_pure ⟨_,rfl,by omega,⟨B1.perm,B1.kind,B1.failed⟩,?_⟩))
    show Runs 0 ((pendingOf st1).push (lo,n,0)).toList (lo + n)
    rw [Array.toList_push]
    exact R1.push n1
   | some x =>
    obtain ⟨s1,k1,z1⟩:=x
    try dsimp only
    refine wpS_bind (wpS_mono (wpS_forRange (I:=fun _ c st'=>c = (none,())/\Safe κ a₀ st'/\Runs 0 (pendingOf st').toList lo) (Q:=fun c st'=>c = (none,())/\Safe κ a₀ st'/\Runs 0 (pendingOf st').toList lo) ?_ (fun _ _ z=>z) ⟨rfl,B1,R1⟩) ?_)
    ·rintro j c st4 _ _ ⟨rfl,B4,R4⟩
     refine wpS_bind (wpS_get ?_)
     by_cases d : (pendingOf st4).size > 1
     ·rw [if_pos d]
      obtain ⟨⟨u1,u2,u3⟩,eu⟩ : ∃ x,(pendingOf st4)[(pendingOf st4).size - 2]? = some x:=⟨_,Array.getElem?_eq_getElem (by omega)⟩
      rw [eu]
      try dsimp only
      split
      ·exact wpS_pure ⟨rfl,B4,R4⟩
      ·refine wpS_bind (wpS_mergeAtR C B4 R4 hlo (by omega) fun st5 B5 R5=>?_)
       exact wpS_pure ⟨rfl,B5,R5⟩
     ·rw [if_neg d]
      exact wpS_pure ⟨rfl,B4,R4⟩
    ·rintro c st4 ⟨rfl,B4,R4⟩
     try dsimp only
     refine wpS_bind (wpS_modify (wpS_bind (wpS_modify (wpS_pure ⟨_,rfl,by omega,⟨B4.perm,B4.kind,B4.failed⟩,?_⟩))))
     show Runs 0 (((pendingOf st4).modify _ _).push (lo,n,0)).toList (lo + n)
     rw [Array.toList_push,Array.toList_modify]
     refine Runs.push (Runs.modify ?_ R4) n1
     exact fun _=>⟨rfl,rfl⟩
 ·rintro c st' ⟨lo,rfl,hlo,B,R⟩
  try dsimp only
  refine wpS_bind (wpS_mono (wpS_forRange (I:=fun _ c st'=>c = (none,())/\Safe κ a₀ st'/\Runs 0 (pendingOf st').toList lo) (Q:=fun c st'=>c = (none,())/\Safe κ a₀ st') ?_ (fun _ _ z=>⟨z.1,z.2.1⟩) ⟨rfl,B,R⟩) ?_)
  ·rintro i c st2 _ _ ⟨rfl,B2,R2⟩
   refine wpS_bind (wpS_get ?_)
   by_cases d : (pendingOf st2).size <= 1
   ·rw [if_pos d]
    exact wpS_pure ⟨rfl,B2⟩
   ·rw [if_neg d]
    refine wpS_bind (wpS_mergeAtR C B2 R2 hlo (Nat.lt_of_le_of_lt (Nat.add_le_add_right ite_le1 1) (by omega)) fun st3 B3 R3=>?_)
    exact wpS_pure ⟨rfl,B3,R3⟩
  ·rintro c st2 ⟨rfl,B2⟩
   exact wpS_pure (h _ B2)
end
end L2
end

section
set_option Elab.async false
set_option linter.all false
set_option maxRecDepth 100000
set_option maxHeartbeats 1000000
namespace L2
open PySem PyProof.Rows
section
variable {prog : Program} {w : World} {A : Around} {E : Value->Shared->Prop} {s : Shared}
def Sortable (prog : Program) (w : World) (A : Around) (s : Shared) (a : Addr) (vs : List Value) : Prop :=
 ∀ sI : Shared,(∀ b o,b ≠ a->s.heap.get? b = some o->sI.heap.get? b = some o)->∃ κ : SortKind,(∀ (E : Value->Shared->Prop) (Q : SortKind->Shared->Prop),Q κ sI->wpAny (model prog w) A (keyKind' vs.toArray) Q E sI)/\Cmp prog w A sI κ (pairsOf vs)
def amid (h : Heap) (a : Addr) (vs : List Value) : Heap:=((h.update a (Obj.mapSeq fun _=>#[])).push (seqObj "tuple" vs.toArray 0)).push (seqObj "list" #[] 0)
theorem amid_other {h : Heap} {a b : Addr} {vs : List Value} (lt : b < h.objs.size) : (amid h a vs).get? b = (h.update a (Obj.mapSeq fun _=>#[])).get? b:=by
 unfold amid
 have l1 : b < (h.update a (Obj.mapSeq fun _=>#[])).objs.size:=by rw [Heap.size_update];exact lt
 rw [Heap.get?_push_ne _ _ _ (Nat.ne_of_lt (by rw [size_push'];exact Nat.lt_succ_of_lt l1))]
 exact Heap.get?_push_ne _ _ _ (Nat.ne_of_lt l1)
theorem list_sort_treeC {a : Addr} {vs : List Value} {n : Nat} {P : Fin->Shared->Prop} (hob : s.heap.get? a = some (seqObj "list" vs.toArray n)) (hS : 2 <= vs.length->Sortable prog w A s a vs) (hlen : vs.length <= 1000)
  (h : ∀ st' : SortSt,(arrOf st').Perm (pairsOf vs)->P (.done (.ret .none)) { s with heap:=sortedHeap s.heap a vs ((arrOf st').map (·.2)) }) : wpAny (model prog w) A (Builtin.«list.sort» ⟨[.ref a],[]⟩) P E s:=by
 rw [list_sort_plain]
 have few : vs.toArray.size = vs.length:=List.size_toArray
 have fit : vs.toArray.size <= sizeLine:=by rw [few];exact Nat.le_trans hlen size1000
 obtain ⟨ep,gone⟩ : ∃ ep,(s.heap.update a (Obj.mapSeq fun _=>#[])).get? a = some (seqObj "list" #[] ep):=⟨_,get?_update_seq hob _⟩
 have gone' : (amid s.heap a vs).get? a = some (seqObj "list" #[] ep):=(amid_other (Heap.lt_size hob)).trans gone
 refine wpAny_bind (listItems_at hob rfl (wpAny_bind (listUpdate_at hob rfl ?_ (hsz:=fit) (hsz2:=Nat.zero_le _))))
 refine wpAny_bind (seqEpoch_at gone rfl (wpAny_bind (wpAny_newTuple (wpAny_bind (wpAny_newList (wpAny_holding ?_))))))
 change wpAny (model prog w) A _ P E { s with heap:=amid s.heap a vs }
 dsimp only
 by_cases two : vs.toArray.size < 2
 ·rw [if_pos two,if_pos two]
  refine wpAny_bind (wpAny_pure ?_)
  rw [StateT.run_pure]
  refine wpAny_bind (wpAny_pure (wpAny_bind (seqEpoch_at gone' rfl (wpAny_bind (listUpdate_at gone' rfl ?_ (hsz2:=?_))))))
  ·rw [bne_self_eq_false,if_neg Bool.false_ne_true]
   exact wpAny_pure (h (SortSt.mk' general' (vs.toArray.zip vs.toArray) #[] 7 none) (Array.Perm.refl _))
  ·rw [Array.size_map]
   show (pairsOf vs).size <= _
   rw [pairsOf_size,<- few]
   omega
 ·rw [if_neg two,if_neg two]
  obtain ⟨κ,kk,cmp⟩:=hS (by omega) { s with heap:=amid s.heap a vs } fun b o ne get=>by
   show (amid s.heap a vs).get? b = some o
   rw [amid_other (Heap.lt_size get),Heap.get?_update_ne _ _ _ _ ne]
   exact get
  refine wpAny_bind (kk _ _ (wpAny_bind (wpAny_mono (wpS_sortRunsC (a₀:=pairsOf vs) cmp (st:=SortSt.mk' κ (vs.toArray.zip vs.toArray) #[] 7 none) ⟨Array.Perm.refl _,rfl,rfl⟩ rfl
   (Q:=fun _ st'=>(arrOf st').Perm (pairsOf vs)/\failedOf st' = none) fun _ B=>⟨B.perm,B.failed⟩) ?_ fun _ _ z=>z)))
  rintro ⟨_,st'⟩ _ ⟨rfl,perm,sound⟩
  refine wpAny_bind (seqEpoch_at gone' rfl (wpAny_bind (listUpdate_at gone' rfl ?_ (hsz2:=?_))))
  ·rw [bne_self_eq_false,if_neg Bool.false_ne_true]
   dsimp only
   rw [sound]
   exact wpAny_pure (h st' perm)
  ·have:=(Array.size_map (f:=fun x : Keyed=>x.2) (xs:=arrOf st')).trans (perm.size_eq.trans (pairsOf_size _))
   exact Nat.le_trans (Nat.le_of_eq this) (by omega)
end
end L2
end

section
set_option Elab.async false
set_option linter.all false
set_option maxRecDepth 100000
set_option maxHeartbeats 1000000
namespace L2
open PySem PySem.Spec PyProof.Rows PySem.W
def W3 (h : Heap) (v : Value) : Prop := ∃ a o n x t i u y k,v = .ref a/\h.get? a = some o/\o.cls = .type "tuple"/\o.data = .seq #[.str x t,.int i u,.str y k] n
section
variable {prog : Program} {w : World} {A : Around} {E : Value->Shared->Prop} {s : Shared}
theorem cmp3 {a₀ : Array Keyed} (h3 : ∀ p,p ∈ a₀->W3 s.heap p.1) : Cmp prog w A s (tuples' true) a₀:=by
 intro E p q Q hp hq hall
 obtain ⟨p1,p2⟩:=p
 obtain ⟨q1,q2⟩:=q
 obtain ⟨a,o,n,x,t,i,u,y,k,rfl,ho,_,hd⟩:=h3 _ hp
 obtain ⟨a',o',n',x',t',i',u',y',k',rfl,ho',_,hd'⟩:=h3 _ hq
 refine kat_lt ho hd ho' hd' ?_
 show KatLex prog w A true _ Q [(.str x t,.str x' t'),(.int i u,.int i' u'),(.str y k,.str y' k')] 0 s
 refine kat_cons (eqBool_str (kat_go (fun _=>kat_yes ?_) fun _=>kat_no (oneLt_str (hall _))))
 refine kat_cons (wpAny_eqBool_int (kat_go (fun _=>kat_yes ?_) fun _=>kat_no (kat_one _ _ (lt_int (hall _)))))
 refine kat_cons (eqBool_str (kat_go (fun _=>kat_yes (kat_nil (hall _))) fun _=>kat_no (kat_one _ _ (lt_str (hall _)))))
theorem kind3 {vs : List Value} (h3 : ∀ v ∈ vs,W3 s.heap v) (hne : 0 < vs.length) {Q : SortKind->Shared->Prop} (h : Q (tuples' true) s) : wpAny (model prog w) A (keyKind' vs.toArray) Q E s:=by
 have : ∀ {vs : List Value},(∀ v ∈ vs,W3 s.heap v)->∃ fs,KatTups s.heap vs fs/\fs.length = vs.length/\∀ v ∈ fs,∃ x t,v = .str x t:=by
  intro vs h3
  induction vs with
  | nil=>exact ⟨[],.nil,rfl,fun _ h=>nomatch h⟩
  | cons v r ih =>
   obtain ⟨fs,hk,hl,hs⟩:=ih fun v hv=>h3 v (List.mem_cons_of_mem _ hv)
   obtain ⟨a,o,n,x,t,i,u,y,k,rfl,ho,hc,hd⟩:=h3 v List.mem_cons_self
   refine ⟨.str x t :: fs,.cons ho hc hd rfl hk,by simp [hl],fun v hv=>?_⟩
   rcases List.mem_cons.mp hv with rfl | hv
   ·exact ⟨_,_,rfl⟩
   ·exact hs v hv
 obtain ⟨fs,hk,hl,hs⟩:=this h3
 refine kat_kind (T:=.type "str") hk (by omega) (fun v hv=>?_) (by decide) h
 obtain ⟨x,t,rfl⟩:=hs v hv
 exact .now
theorem sortable3 {a : Addr} {vs : List Value} (h3 : ∀ v ∈ vs,W3 s.heap v/\v ≠ .ref a) (hne : 0 < vs.length) : Sortable prog w A s a vs:=by
 intro sI hsI
 have h3' : ∀ v ∈ vs,W3 sI.heap v:=fun v hv=>by
  obtain ⟨⟨b,o,n,x,t,i,u,y,k,rfl,ho,hc,hd⟩,hne⟩:=h3 v hv
  exact ⟨b,o,n,x,t,i,u,y,k,rfl,hsI b o (fun e=>hne (by rw [e])) ho,hc,hd⟩
 refine ⟨tuples' true,fun E Q h=>kind3 h3' hne h,cmp3 fun p hp=>?_⟩
 have : p.1 ∈ vs:=by
  unfold pairsOf at hp
  rw [<- Array.mem_toList_iff,Array.toList_zip] at hp
  have:=(List.of_mem_zip (a:=p.1) (b:=p.2) (by simpa using hp)).1
  simpa using this
 exact h3' _ this
end
end L2
end

section
set_option Elab.async false
set_option linter.all false
set_option maxRecDepth 100000
set_option maxHeartbeats 1000000
namespace L2
open PySem PySem.Spec PyProof.Rows PySem.W PySem.SetTable
structure TOk (t : SetTable) (n : Nat) : Prop where
 place : t.place.size = n
 dum : t.dummies = #[]
 sz : TSz t.mask
 room : n * 5 < t.mask * 3
theorem TOk.le {t : SetTable} {n : Nat} (h : TOk t n) : n <= t.mask:=by have:=h.room;omega
theorem TOk.fits {t : SetTable} {n : Nat} (h : TOk t n) : t.fits n = true:=by
 unfold SetTable.fits SetTable.fill
 rw [h.dum,h.place]
 simpa using h.le
theorem TOk.gave {t : SetTable} {n : Nat} (h : TOk t n) : t.gaveWay = false:=by
 unfold SetTable.gaveWay
 rcases h.sz with e | e | e | e <;> rw [e] <;> rfl
section
variable {prog : Program} {w : World} {A : Around} {E : Value->Shared->Prop} {s : Shared}
theorem W3.key {h : Heap} {v : Value} (x : W3 h v) : ∃ a ks,v = .ref a/\IsTupleKey (mixKind prog w) h ks a:=by
 obtain ⟨a,o,n,x,t,i,u,y,k,rfl,ho,hc,hd⟩:=x
 exact ⟨a,[.inr x,.inl i,.inr y],rfl,o,_,n,ho,hc,hd,.cons (mixKind_str ..) (.cons (mixKind_int ..) (.cons (mixKind_str ..) .nil))⟩
theorem W3.eqB {u v : Value} (x : W3 s.heap u) (y : W3 s.heap v) (hu : A.units < cLine) {Q : Bool->Shared->Prop} (h : ∀ b,Q b s) : wpAny (model prog w) A (eqBool u v) Q E s:=by
 obtain ⟨a,ka,rfl,ha⟩:=x.key (prog:=prog) (w:=w)
 obtain ⟨b,kb,rfl,hb⟩:=y.key (prog:=prog) (w:=w)
 exact wpAny_eqBool_tuple hu ha hb (h _)
theorem W3.quiet {v : Value} (x : W3 s.heap v) {Q : Bool->Shared->Prop} (h : Q true s) : wpAny (model prog w) A (eqIsQuiet 8 v) Q E s:=by
 obtain ⟨a,ka,rfl,ha⟩:=x.key (prog:=prog) (w:=w)
 exact wpAny_eqIsQuiet_tuple ha h
theorem W3.noCls {v : Value} (x : W3 s.heap v) {Q : Bool->Shared->Prop} (h : Q false s) : wpAny (model prog w) A (ofAClassStatement 8 v) Q E s:=by
 obtain ⟨a,o,n,x,t,i,u,y,k,rfl,ho,hc,hd⟩:=x
 unfold ofAClassStatement
 refine wpAny_bind (wpAny_typeOf (T := "tuple") ⟨o,ho,hc⟩ ?_)
 refine wpAny_bind (wpAny_pure ?_)
 refine wpAny_bind (wpAny_seqItems ho hd ?_)
 refine wpAny_bind ?_
 rw [<- Array.forIn_toList]
 refine wpAny_forIn_list _ (fun rest r s'=>r.1 = none/\s' = s/\∀ v ∈ rest,carriedByValue v = true) _ ?_ ?_ _ _ ⟨rfl,rfl,?_⟩
 ·rintro v rest r s' ⟨hr,rfl,hall⟩
  have : ofAClassStatement 7 v = pure false:=by
   have:=hall v List.mem_cons_self
   cases v <;> first | rfl | (simp [carriedByValue] at this) | (unfold ofAClassStatement;rfl)
  rw [this]
  exact wpAny_bind (wpAny_pure (wpAny_pure ⟨rfl,rfl,fun u hu=>hall u (List.mem_cons_of_mem _ hu)⟩))
 ·rintro ⟨r1,r2⟩ s' ⟨hr,rfl,_⟩
  simp only at hr
  subst hr
  exact wpAny_pure h
 ·intro v hv
  simp only [List.mem_cons,List.not_mem_nil,or_false] at hv
  rcases hv with rfl | rfl | rfl <;> rfl
theorem W3.byVal {v : Value} (x : W3 s.heap v) {Q : Bool->Shared->Prop} (h : Q false s) : wpAny (model prog w) A (hashByValue 8 v) Q E s:=by
 obtain ⟨a,o,n,x,t,i,u,y,k,rfl,ho,hc,hd⟩:=x
 unfold hashByValue
 refine wpAny_bind (wpAny_specialOf (T := "tuple") ⟨o,ho,hc⟩ F.slot_tuple_hash.lookup ?_)
 dsimp only
 refine wpAny_bind (wpAny_seqItems ho hd ?_)
 refine wpAny_bind ?_
 show wpAny _ _ (forIn (#[.str x t,.int i u,.str y k] : Array Value) _ _) _ _ _
 rw [<- Array.forIn_toList]
 rw [List.forIn_cons]
 refine wpAny_bind ?_
 refine wpAny_bind (m:=hashByValue 7 (.str x t)) (wpAny_pure ?_)
 exact wpAny_pure (wpAny_pure (wpAny_pure h))
theorem seen3 {x : Value} (hx : W3 s.heap x) {ys : List Value} (hy : ∀ y ∈ ys,W3 s.heap y) {Q : Bool->Shared->Prop} (h : Q false s) : wpAny (model prog w) A (searchCouldBeSeen x ys) Q E s:=by
 unfold searchCouldBeSeen
 obtain ⟨ax,_,rfl,_⟩:=hx.key (prog:=prog) (w:=w)
 refine wpAny_bind ?_
 refine wpAny_forIn_list _ (fun rest r s'=>r.1 = none/\s' = s/\∀ v ∈ rest,W3 s.heap v) _ ?_ ?_ _ _ ⟨rfl,rfl,hy⟩
 ·rintro v rest r s' ⟨hr,rfl,hall⟩
  have hv:=hall v List.mem_cons_self
  have hend : r.1 = none/\s' = s'/\∀ v ∈ rest,W3 s'.heap v:=⟨hr,rfl,fun u hu=>hall u (List.mem_cons_of_mem _ hu)⟩
  obtain ⟨av,_,rfl,_⟩:=hv.key (prog:=prog) (w:=w)
  dsimp only
  by_cases hb : (ax == av || carriedByValue (.ref ax) && carriedByValue (.ref av)) = true
  ·rw [if_pos hb]
   exact wpAny_pure ⟨rfl,hend.2⟩
  ·rw [if_neg hb]
   refine wpAny_bind (hx.quiet ?_)
   simp only [Bool.not_true,Bool.false_eq_true,if_false]
   refine wpAny_bind (hv.quiet ?_)
   simp only [Bool.not_true,Bool.false_eq_true,if_false]
   refine wpAny_bind (hx.noCls ?_)
   simp only [Bool.false_eq_true,if_false]
   refine wpAny_bind (hv.noCls ?_)
   simp only [Bool.false_eq_true,if_false]
   exact wpAny_pure ⟨rfl,hend.2⟩
 ·rintro ⟨r1,r2⟩ s' ⟨hr,rfl,_⟩
  simp only at hr
  subst hr
  exact wpAny_pure h
end
end L2
end

section
set_option Elab.async false
set_option linter.all false
set_option maxRecDepth 100000
set_option maxHeartbeats 1000000
namespace L2
open PySem PySem.Spec PyProof.Rows PySem.W PySem.SetTable
section
variable {prog : Program} {w : World} {A : Around} {E : Value->Shared->Prop} {s : Shared}
theorem search3 {a : Addr} {o : Obj} {es : Array (Int × Value)} {ep : Nat} {t : SetTable} {x : Value} {h : Int} (ho : s.heap.get? a = some o) (hd : o.data = .set es ep t) (ht : TOk t es.size)
  (hx : W3 s.heap x) (hes : ∀ e ∈ es.toList,W3 s.heap e.2) (hu : A.units < cLine) {Q : SetFound->Shared->Prop} (hf : ∀ j,Q (.free j false) s) (hq : Q (.there none) s) :
  ∀ (fuel k : Nat) (stand : Option Probe),k < fuel->k < 10 * turns t.mask->TEnds t (stand.getD (t.probeStart h)) k->wpAny (model prog w) A (setSearchFrom a x h true fuel stand) Q E s
 | 0,k,_,hk,_,_=>absurd hk (Nat.not_lt_zero _)
 | fuel + 1,k,stand,hk,hk2,e=>by
  unfold setSearchFrom
  refine wpAny_bind (wpAny_setState_of ho hd ht.fits ?_)
  dsimp only
  rw [ht.gave]
  simp only [Bool.false_eq_true,if_false]
  generalize hg : t.probe _ h (stand.getD (t.probeStart h)) = pr
  rcases go_some ht.dum _ h k (10 * turns t.mask) _ hk2 e with ⟨j,e1⟩ | ⟨j,i,p',k',e1,e2,e3,e4⟩
  ·have e1 : pr = some (.empty j none):=hg.symm.trans e1
   subst e1
   exact wpAny_pure (hf j)
  ·have e1 : pr = some (.candidate j i p'):=hg.symm.trans e1
   subst e1
   dsimp only
   have hi : i < es.size:=by rw [<- ht.place];exact slot_live e2
   have hei : es[i]? = some (es[i].1,es[i].2):=by rw [Array.getElem?_eq_getElem hi]
   have hwi : W3 s.heap es[i].2:=hes _ (by rw [Array.mem_toList_iff];exact Array.getElem_mem hi)
   by_cases hl : (!t.led) = true
   rw [if_pos hl]
   refine wpAny_bind (seen3 hx (fun y hy=>?_) ?_)
   ·obtain ⟨e',he',rfl⟩:=List.mem_map.mp hy
    exact hes e' (Array.mem_toList_iff.mpr (Array.mem_filter.mp (Array.mem_toList_iff.mp he')).1)
   rw [if_neg Bool.false_ne_true]
   rotate_left
   rw [if_neg hl]
   all_goals
    rw [hei]
    dsimp only
    refine wpAny_bind (wpAny_holding (hwi.eqB hx hu fun b=>?_))
    refine wpAny_bind (wpAny_setState_of ho hd ht.fits ?_)
    dsimp only
    cases b with
    | true=>exact wpAny_pure hq
    | false =>
     simp only [Bool.and_false,Bool.false_eq_true,if_false]
     have hm : t.sameMemory t.moves t.mask = some true:=by unfold sameMemory;rw [if_pos (beq_self_eq_true _)]
     rw [hm]
     dsimp only
     rw [if_pos rfl,e2]
     dsimp only
     rw [hei]
     dsimp only
     obtain ⟨ai,_,hv,_⟩:=hwi.key (prog:=prog) (w:=w)
     rw [hv]
     refine wpAny_bind (wpAny_isSame_ref_self (wpAny_bind (wpAny_pure ?_)))
     exact search3 ho hd ht hx hes hu hf hq fuel k' (some p') (by omega) (by omega) e4
def SetR (w : World) (h : Heap) (a : Addr) (P : Value->Prop) (m : Nat) : Prop := ∃ o es ep t,h.get? a = some o/\o.ExactSet/\o.data = .set es ep t/\TOk t es.size /\
 t.led = (!w.params.followText "set-order")/\(es.size ≠ 0->t.plain = false)/\(∀ e ∈ es.toList,P e.2)/\es.size <= m
theorem SetR.mono {w : World} {h : Heap} {a : Addr} {P P' : Value->Prop} {m m' : Nat} (x : SetR w h a P m) (hp : ∀ v,P v->P' v) (hm : m <= m') : SetR w h a P' m':=by
 obtain ⟨o,es,ep,t,h1,h2,h3,h4,h5,h6,h7,h8⟩:=x
 exact ⟨o,es,ep,t,h1,h2,h3,h4,h5,h6,fun e he=>hp _ (h7 e he),Nat.le_trans h8 hm⟩
theorem SetR.stay {w : World} {h h' : Heap} {a : Addr} {P : Value->Prop} {m : Nat} (x : SetR w h a P m) (k : ∀ o,h.get? a = some o->h'.get? a = some o) : SetR w h' a P m:=by
 obtain ⟨o,es,ep,t,h1,r⟩:=x
 exact ⟨o,es,ep,t,k o h1,r⟩
theorem insertAt_size {α : Type} (xs : Array α) (p : Nat) (x : α) : (SetTable.insertAt xs p x).size = xs.size + 1:=by
 unfold SetTable.insertAt
 rw [Array.size_append,Array.size_push,Array.size_extract,Array.size_extract]
 omega
theorem mem_ext {α : Type} {xs : Array α} {a b : Nat} {y : α} (h : y ∈ xs.extract a b) : y ∈ xs:=by
 obtain ⟨i,hi,e⟩:=Array.mem_iff_getElem.mp h
 rw [<- e,Array.getElem_extract]
 exact Array.getElem_mem _
theorem insertAt_mem {α : Type} {xs : Array α} {p : Nat} {x y : α} (h : y ∈ SetTable.insertAt xs p x) : y ∈ xs\/y = x:=by
 unfold SetTable.insertAt at h
 rcases Array.mem_append.mp h with h | h
 ·rcases Array.mem_push.mp h with h | h
  ·exact .inl (mem_ext h)
  ·exact .inr h
 ·exact .inl (mem_ext h)
theorem put_ok {t : SetTable} {n : Nat} (ht : TOk t n) (j : Nat) : (t.put j).1.place.size = n + 1/\(t.put j).1.dummies = #[]/\(t.put j).1.mask = t.mask/\(t.put j).1.led = t.led/\(t.put j).1.plain = t.plain:=by
 unfold SetTable.put
 dsimp only
 refine ⟨by rw [insertAt_size,ht.place],?_,rfl,rfl,rfl⟩
 rw [if_neg]
 ·exact ht.dum
 ·unfold SetTable.has;rw [ht.dum];simp
theorem store_at {a : Addr} {o : Obj} {es es' : Array (Int × Value)} {ep : Nat} {t t' : SetTable} {h : Heap} (ho : h.get? a = some o) (hd : o.data = .set es ep t) :
  (h.update a (Obj.putSet es' t')).get? a = some { o with data:=.set es' (ep + 1) t' }:=by
 have:=Heap.get?_update_self (Obj.putSet es' t') ho (by rw [putSet_of es' t' hd];rfl)
 rw [putSet_of es' t' hd] at this
 exact this
theorem relay3 {a : Addr} {o : Obj} {es : Array (Int × Value)} {ep : Nat} {t : SetTable} {wanted : Nat} {P : Value->Prop} (ho : s.heap.get? a = some o) (hex : o.ExactSet) (hd : o.data = .set es ep t)
  (hf : t.fits es.size = true) (hl : t.led = (!w.params.followText "set-order")) (hp : es.size ≠ 0->t.plain = false) (hP : ∀ e ∈ es.toList,P e.2)
  (hs : TSz (sizeAbove wanted - 1)) (hr : es.size * 5 < (sizeAbove wanted - 1) * 3) (h5 : sizeAbove wanted <= 512) {Q : Unit->Shared->Prop}
  (h : ∀ h',Heap.SameBut a s.heap h'->SetR w h' a P es.size->Q () { s with heap:=h' }) : wpAny (model prog w) A (setRelay a wanted) Q E s:=by
 obtain ⟨t',order,e,m1,m2,m3,m4,m5,m6,m7⟩:=laid_some hs (es.map (·.1)) (by rw [Array.size_map];omega) t.finger (t.movedTo (sizeAbove wanted - 1)) t.led t.plain
 rw [Array.size_map] at m2 m6 m7
 unfold setRelay
 refine wpAny_bind (wpAny_setState_of ho hd hf ?_)
 dsimp only
 have hline : ¬ sizeAbove wanted > sizeLine:=by
  have : (512 : Nat) <= sizeLine:=by decide +kernel
  omega
 rw [if_neg hline]
 have hsz : (order.filterMap (es[·]?)).size = es.size:=by
  rw [<- m6]
  have : ∀ l : List Nat,(∀ i ∈ l,i < es.size)->(l.filterMap (es[·]?)).length = l.length:=by
   intro l
   induction l with
   | nil=>intro _;rfl
   | cons i r ih =>
    intro hl
    have hi:=hl i List.mem_cons_self
    rw [List.filterMap_cons,Array.getElem?_eq_getElem hi]
    simp [ih fun j hj=>hl j (List.mem_cons_of_mem _ hj)]
  rw [<- Array.length_toList,Array.toList_filterMap,this _ m7,Array.length_toList]
 have e' : t.relaid (es.map (·.1)) wanted = some (t',order):=e
 rw [e']
 refine wpAny_bind (wpAny_of_eq (a:=(order.filterMap (es[·]?),t')) ?_ ?_)
 ·show (if ((order.filterMap (es[·]?)).size != es.size) = true then _ else _) = _
  rw [hsz,bne_self_eq_false,if_neg Bool.false_ne_true]
 dsimp only
 refine wpAny_storeSet_of ho hd (h _ (Heap.SameBut.update s.heap a _) ?_) ?_
 ·refine ⟨_,_,_,t',store_at ho hd,hex,rfl,⟨by rw [hsz,m2],m3,by rw [m1];exact hs,by rw [hsz,m1];exact hr⟩,by rw [m4,hl],fun hz=>by rw [m5];exact hp (by rw [<- hsz];exact hz),fun e he=>?_,by rw [hsz];exact Nat.le_refl _⟩
  rw [Array.toList_filterMap] at he
  obtain ⟨i,_,hi⟩:=List.mem_filterMap.mp he
  exact hP e (Array.mem_toList_iff.mpr (Array.mem_of_getElem? hi))
 ·rw [hsz]
  have : (512 : Nat) <= sizeLine:=by decide +kernel
  omega
theorem setAdd3 {a : Addr} {x : Value} {P : Value->Prop} {m : Nat} (hS : SetR w s.heap a P m) (hm : m < 200) (hP : ∀ v,P v->W3 s.heap v) (hx : P x) (hu : A.units < cLine) {Q : Bool->Shared->Prop}
  (h : ∀ b h' tk,Heap.SameBut a s.heap h'->SetR w h' a P (m + 1)->s.toks <= tk->Q b { s with heap:=h',toks:=tk }) : wpAny (model prog w) A (setAdd a x) Q E s:=by
 have hx3:=hP x hx
 obtain ⟨ax,kx,rfl,hk⟩:=hx3.key (prog:=prog) (w:=w)
 unfold setAdd
 refine wpAny_holding (wpAny_bind (wpAny_pyHash_tuple hu hk ?_))
 generalize hs2 : ({ s with toks:=s.toks + (kx.length + 1) } : Shared) = s2
 have hh : s2.heap = s.heap:=by rw [<- hs2]
 have hS':=hS
 obtain ⟨o,es,ep,t,ho,hex,hd,ht,hl,hpl,hall,hle⟩:=hS
 rw [<- hh] at ho
 have hbs : byScan (.ref ax) es = false:=rfl
 unfold setAddHashed
 refine wpAny_holding ?_
 show wpAny _ _ (setAddHashedIn a (.ref ax) _ (99999 + 1)) _ _ _
 unfold setAddHashedIn
 refine wpAny_bind (wpAny_setState_of ho hd ht.fits ?_)
 dsimp only
 rw [hbs]
 simp only [Bool.false_eq_true,if_false]
 generalize tupleKeyHash (mixKind prog w) kx = hv
 obtain ⟨k,hk1,hk2⟩:=start_ends ht.sz ht.dum (by rw [ht.place];exact ht.le) hv
 have hkf : k < 100000:=by
  unfold turns at hk1
  rcases ht.sz with e | e | e | e <;> rw [e] at hk1 <;> omega
 refine wpAny_bind (search3 ho hd ht (by rw [hh];exact hx3) (fun e he=>by rw [hh];exact hP _ (hall e he)) hu (fun j=>?_) ?_ 100000 k none hkf hk1 hk2)
 ·dsimp only
  refine wpAny_bind (wpAny_setState_of ho hd ht.fits ?_)
  dsimp only
  obtain ⟨q1,q2,q3,q4,q5⟩:=put_ok ht j
  generalize t.put j = tp at q1 q2 q3 q4 q5 ⊢
  obtain ⟨t1,p⟩:=tp
  dsimp only at q1 q2 q3 q4 q5 ⊢
  have hsz : (SetTable.insertAt es p (hv,Value.ref ax)).size = es.size + 1:=insertAt_size _ _ _
  have hmem : ∀ e ∈ (SetTable.insertAt es p (hv,Value.ref ax)).toList,P e.2:=fun e he=>by
   rcases insertAt_mem (Array.mem_toList_iff.mp he) with h1 | rfl
   ·exact hall e (Array.mem_toList_iff.mpr h1)
   ·exact hx
  have hbig : es.size + 1 <= sizeLine:=by
   have : (512 : Nat) <= sizeLine:=by decide +kernel
   omega
  have fin : ∀ t2 : SetTable,t2.place.size = es.size + 1->t2.dummies = #[]->t2.mask = t.mask->t2.led = t.led->t2.plain = false ->
    wpAny (model prog w) A (do
     storeSet a (SetTable.insertAt es p (hv,Value.ref ax)) t2
     if !false && t2.tooFull then setRelay a (SetTable.grown (es.size + 1))
     return true) Q E s2:=by
   intro t2 r1 r2 r3 r4 r5
   refine wpAny_bind (wpAny_storeSet_of ho hd ?_ (by rw [hsz];exact hbig))
   have hst : (s2.heap.update a (Obj.putSet (SetTable.insertAt es p (hv,Value.ref ax)) t2)).get? a = some { o with data:=.set (SetTable.insertAt es p (hv,Value.ref ax)) (ep + 1) t2 }:=store_at ho hd
   have hsb : Heap.SameBut a s2.heap (s2.heap.update a (Obj.putSet (SetTable.insertAt es p (hv,Value.ref ax)) t2)):=Heap.SameBut.update s2.heap a _
   have back : ∀ h',s2 = { s2 with heap:=s2.heap }->({ s2 with heap:=h' } : Shared) = { s with heap:=h',toks:=s.toks + (kx.length + 1) }:=fun h' _=>by rw [<- hs2]
   by_cases hfull : t2.tooFull = true
   ·simp only [hfull,Bool.not_false,Bool.and_self,if_true]
    have hfull : (es.size + 1) * 5 ≥ t.mask * 3:=by
     unfold SetTable.tooFull SetTable.fill at hfull
     rw [r1,r2,r3] at hfull
     simpa using hfull
    obtain ⟨g1,g2,g3⟩:=tgrows ht.sz ht.room hfull (by omega)
    refine wpAny_bind (relay3 (s:={ s2 with heap:=s2.heap.update a (Obj.putSet (SetTable.insertAt es p (hv,Value.ref ax)) t2) }) (P:=P) hst hex rfl ?_ (by rw [r4,hl]) (fun _=>r5) hmem g1 (by rw [hsz];exact g2) g3 fun h' sb2 hR=>?_)
    ·unfold SetTable.fits SetTable.fill
     rw [r1,r2,r3,hsz]
     have:=ht.room
     simp;omega
    ·refine wpAny_pure ?_
     rw [hsz] at hR
     have:=h true h' (s.toks + (kx.length + 1)) (by rw [<- hh];exact hsb.trans sb2) (hR.mono (fun _ z=>z) (by omega)) (by omega)
     rw [<- hs2];exact this
   ·simp only [hfull,Bool.and_false,Bool.false_eq_true,if_false]
    have hfull : (es.size + 1) * 5 < t.mask * 3:=by
     unfold SetTable.tooFull SetTable.fill at hfull
     rw [r1,r2,r3] at hfull
     simpa using hfull
    refine wpAny_pure ?_
    have:=h true _ (s.toks + (kx.length + 1)) (by rw [<- hh];exact hsb) ⟨_,_,_,t2,hst,hex,rfl,⟨by rw [r1,hsz],r2,by rw [r3];exact ht.sz,by rw [hsz,r3];exact hfull⟩,by rw [r4,hl],fun _=>r5,hmem,by rw [hsz];omega⟩ (by omega)
    rw [<- hs2] at this ⊢;exact this
  by_cases hpl1 : t1.plain = true
  ·rw [if_pos hpl1]
   refine wpAny_bind (W3.byVal (by rw [hh];exact hx3) ?_)
   simp only [Bool.false_eq_true,if_false]
   exact fin { t1 with plain:=false } q1 q2 q3 q4 rfl
  ·rw [if_neg hpl1]
   refine wpAny_bind (wpAny_pure ?_)
   simp only [if_true]
   exact fin t1 q1 q2 q3 q4 (by simpa using hpl1)
 ·dsimp only
  refine wpAny_pure ?_
  have:=h false s.heap (s.toks + (kx.length + 1)) (Heap.SameBut.refl a s.heap) (hS'.mono (fun _ z=>z) (Nat.le_succ m)) (by omega)
  rw [<- hs2];exact this
end
end L2
end

section
set_option Elab.async false
set_option linter.all false
set_option maxRecDepth 100000
set_option maxHeartbeats 1000000
namespace L2
open PySem PySem.Spec PyProof.Rows PySem.W PySem.SetTable
theorem W3.stay {h h' : Heap} {v : Value} (x : W3 h v) (k : ∀ b o,v = .ref b->h.get? b = some o->h'.get? b = some o) : W3 h' v:=by
 obtain ⟨a,o,n,x,t,i,u,y,j,rfl,ho,r⟩:=x
 exact ⟨a,o,n,x,t,i,u,y,j,rfl,k a o rfl ho,r⟩
section
variable {prog : Program} {w : World} {A : Around} {R : Result->Shared->Prop} {I : Addr} {fp wr : List Addr} {G : Array GenState->Array GenState->Prop} {n : Nat} {Pi : Nat->Value->Prop} {St : Nat->Shared->Prop}
theorem upd_loop3 (W : WalksS prog w A.in1 I fp wr G n Pi St) (S : Addr) (hSf : S ∉ fp) {P : Value->Prop} (hPi : ∀ i v,Pi i v->P v) (hne : ∀ b,P (.ref b)->b ∉ S :: wr) (hn : n < 200) (hu : A.in1.units < cLine) :
  ∀ (k i : Nat) (s : Shared),n - i = k->i <= n->St i s->(∀ v,P v->W3 s.heap v)->SetR w s.heap S P i ->
   (∀ s',Moved (S :: wr) G s s'->SetR w s'.heap S P n->R (.ok (.ret .none)) s')->codeAny (model prog w) A (.builtin "set.update.loop" ⟨[.ref S,.ref I],[]⟩) R s:=by
 have hSw : S ∉ wr:=fun z=>hSf (W.sub S z)
 have up : ∀ b ∈ wr,b ∈ S :: wr:=fun b z=>List.mem_cons_of_mem S z
 intro k
 induction k with
 | zero =>
  intro i s hk hi st hW hS fin
  obtain rfl : i = n:=by omega
  refine codeAny_builtin F.entry_set_update_loop ?_
  rw [Around.under_plainId F.plain_set_update_loop _]
  show wpAny _ A.in1 (pyNext (.ref I) >>= _) _ _ s
  refine wpAny_bind (W.done s _ _ st fun s1 hm=>?_)
  exact wpAny_pure (fin s1 (hm.mono up) (hS.stay fun o e=>hm.heap S o hSw e))
 | succ k ih =>
  intro i s hk hi st hW hS fin
  have lt : i < n:=by omega
  refine codeAny_builtin F.entry_set_update_loop ?_
  rw [Around.under_plainId F.plain_set_update_loop _]
  show wpAny _ A.in1 (pyNext (.ref I) >>= _) _ _ s
  refine wpAny_bind (W.item i s _ _ lt st fun v s1 hv st1 hm=>?_)
  have hW1 : ∀ v,P v->W3 s1.heap v:=fun u hp=>(hW u hp).stay fun b o e q=>hm.heap b o (fun z=>hne b (by rw [<- e];exact hp) (up b z)) q
  have hS1 : SetR w s1.heap S P i:=hS.stay fun o e=>hm.heap S o hSw e
  show wpAny _ A.in1 (holding [v] (setAdd S v) >>= _) _ _ s1
  refine wpAny_bind (wpAny_holding (setAdd3 hS1 (by omega) hW1 (hPi i v hv) hu fun _ h' tk sb hS2 htk=>?_))
  refine wpAny_pure ⟨plainId_quiet F.plain_set_update_loop _,ih (i + 1) _ (by omega) lt (W.frame _ s1 _ _ st1 htk fun b hb o e=>?_) (fun u hp=>(hW1 u hp).stay fun b o e q=>?_) hS2 fun s2 hm2 hS3=>?_⟩
  ·rw [sb.2 b (fun z=>hSf (by rw [<- z];exact hb))];exact e
  ·show h'.get? b = some o
   rw [sb.2 b (fun z=>hne b (by rw [<- e];exact hp) (by rw [z];exact List.mem_cons_self))];exact q
  ·refine fin s2 (Moved.trans W.gtrans ((hm.mono up).then_heap htk fun b o hb e=>?_) hm2) hS3
   rw [sb.2 b (fun z=>hb (by rw [z];exact List.mem_cons_self))];exact e
end
section
variable {prog : Program} {w : World} {A : Around} {E : Value->Shared->Prop} {s : Shared}
def freshSet (w : World) : Obj:={ cls:=.type "set",dict:=none,data:=.set #[] 0 (.fresh 0 0 (!w.params.followText "set-order")) }
theorem set_new3 (x : Value) {Q : Value->Shared->Prop} (h : Q (.ref s.heap.objs.size) { s with heap:=s.heap.push (freshSet w) }) :
  codeAny (model prog w) A (.call (.builtin "set.__new__") ⟨[.type "set",x],[]⟩) (wants Q E) s:=by
 refine codeAny_of_tree ?_
 show wpAny _ A.in1 (do checkBuiltinCall "set.__new__" ⟨[.type "set",x],[]⟩;again (.builtin "set.__new__" ⟨[.type "set",x],[]⟩)) _ _ s
 refine wpAny_bind (wpAny_of_eq (F.newCall_set_1 x) (wpAny_pure ⟨plainId_quiet F.plain_set_new _,codeAny_builtin F.entry_set_new ?_⟩))
 rw [Around.under_plainId F.plain_set_new _]
 unfold Builtin.«set.__new__» Builtin.Frozenset.newClass
 have sub:=sub_set_self
 cases s with
 | mk hp g d tk os =>
  dsimp only at h ⊢
  wp_walk
  refine wpAny_askSetting (wpAny_pure ?_)
  dsimp only
  simp only [newObj]
  exact wpAny_bind (wpAny_alloc (wpAny_pure (wpAny_pure h)))
theorem freshSet_ok (P : Value->Prop) {h : Heap} {a : Addr} (e : h.get? a = some (freshSet w)) : SetR w h a P 0 :=
 ⟨_,#[],0,_,e,⟨rfl,rfl,rfl⟩,rfl,⟨rfl,rfl,.inl rfl,show 0 * 5 < 7 * 3 by decide⟩,rfl,fun z=>absurd rfl z,fun e he=>by simp at he,Nat.le_refl _⟩
theorem call_set3 {l : Addr} {its : Array Value} {P : Value->Prop} {Q : Value->Shared->Prop} (hh : A.handled = none) (hl : s.heap.IsList l its) (hP : ∀ (i : Nat) v,its[i]? = some v->P v) (hW : ∀ v,P v->W3 s.heap v) (hn : its.size < 200)
  (hu : A.units + 64 < cLine) (h : ∀ h' tk,SetR w h' s.heap.objs.size P its.size->(∀ b o,s.heap.get? b = some o->h'.get? b = some o)->Q (.ref s.heap.objs.size) { s with heap:=h',toks:=tk }) :
  wpAny (model prog w) A (call (.type "set") [.ref l]) Q E s:=by
 obtain ⟨c,tl,mro⟩:=F.called_set.mro
 have made:=F.called_set.made
 have sub:=F.called_set.sub
 refine wpAny_call (codeAny_of_tree ?_)
 show wpAny _ _ (callAny (.type "set") _) _ _ _
 refine wpAny_pure ⟨Code.quiet_builtin _ (by decide +kernel),codeAny_builtin F.entry_type_call ?_⟩
 rw [Around.under_plain (weight_type_call_type "set" [.ref l] []) rfl]
 have notT:=F.called_set.notType
 have canC:=F.called_set.canCreate
 have tcall:=F.typeCall_set_1 (.ref l)
 repeat (any_goals (first | assumption | wp_step))
 refine codeAny_mono (set_new3 (.ref l) (E:=E) (Q:=fun obj s₁=>obj = .ref s.heap.objs.size/\s₁ = { s with heap:=s.heap.push (freshSet w) }) ⟨rfl,rfl⟩) fun r s₁ hr=>?_
 cases r with
 | error e=>exact hr
 | ok fl =>
  cases fl with
  | ret obj =>
   obtain ⟨rfl,rfl⟩:=hr
   have gS : (s.heap.push (freshSet w)).get? s.heap.objs.size = some (freshSet w):=Heap.get?_push_size _ rfl
   have tS : Shared.TypeIs { s with heap:=s.heap.push (freshSet w) } (.ref s.heap.objs.size) "set" := ⟨_,gS,rfl⟩
   have ini:=F.called_set.init.lookup
   have bnd:=F.called_set.init.bind (.ref s.heap.objs.size)
   repeat (any_goals (first | assumption | wp_step))
   refine codeAny_mono (codeAny_call_builtin (R:=wants (fun r s₂=>r = .none/\∃ h' tk,s₂ = { s with heap:=h',toks:=tk }/\SetR w h' s.heap.objs.size P its.size /\
    (∀ b o,s.heap.get? b = some o->h'.get? b = some o)) E) F.called_set.init.plain F.entry_set_init (check_set_init_1 tS ?_)) fun r₂ s₂ hr₂=>?_
   ·have hl0:=hl
    obtain ⟨⟨oc,od,oda,osl⟩,hol,hcl,nl,hdl⟩:=hl
    simp only at hcl hdl
    subst hcl;subst hdl
    have lt : l < s.heap.objs.size:=Heap.lt_size hol
    have hol' : (s.heap.push (freshSet w)).get? l = some { cls:=.type "list",dict:=od,data:=.seq its nl,slots:=osl }:=Heap.get?_push_of_some _ hol
    have n1:=F.sub_list_set
    have n2:=F.sub_list_frozenset
    have n3 : (Value.type "list" == Value.type "dict") = false:=by decide
    have hl1 : (s.heap.push (freshSet w)).IsList l its:=⟨_,hol',rfl,nl,rfl⟩
    unfold Builtin.«set.__init__» noKeywords Builtin.Frozenset.updateFrom
    generalize hPI : pyIter = PI
    wp_walk
    subst hPI
    refine wpAny_pyIter_list hl1 ?_
    refine wpAny_bind (wpAny_runValue ?_)
    have hh3 : A.in1.in1.in1.handled = none:=by simp [hh]
    have szI : (s.heap.push (freshSet w)).objs.size = s.heap.objs.size + 1:=Heap.size_push ..
    have neI : l ≠ (s.heap.push (freshSet w)).objs.size:=by rw [szI];exact Nat.ne_of_lt (Nat.lt_succ_of_lt lt)
    have nf : s.heap.objs.size ∉ [(s.heap.push (freshSet w)).objs.size,l]:=by
     simp only [List.mem_cons,List.not_mem_nil,or_false,not_or]
     exact ⟨by rw [szI];exact Nat.ne_of_lt (Nat.lt_succ_self _),Nat.ne_of_gt lt⟩
    have old : ∀ b o,s.heap.get? b = some o->((s.heap.push (freshSet w)).push { cls:=.type "list_iterator",data:=.fields #[.ref l,.int 0 0] }).get? b = some o:=fun b o e=>Heap.get?_push_of_some _ (Heap.get?_push_of_some _ e)
    refine upd_loop3 ((Walks.list hh3 _ l neI its).toS) s.heap.objs.size nf (P:=P) hP (fun b hb=>?_) hn (by show A.units + 1 + 1 + 1 < cLine;omega) its.size 0 _ (by omega) (Nat.zero_le _)
     ⟨⟨_,Heap.get?_push_size _ rfl,rfl,rfl⟩,hl1.push _⟩ (fun v hp=>(hW v hp).stay fun b o _ e=>old b o e) (freshSet_ok P (Heap.get?_push_of_some _ gS)) fun s' hm hS'=>?_
    ·obtain ⟨b',o',_,_,_,_,_,_,_,hv,ho',_⟩:=hW _ hb
     injection hv with hv
     subst hv
     have:=Heap.lt_size ho'
     simp only [List.mem_cons,List.not_mem_nil,or_false,not_or]
     exact ⟨Nat.ne_of_lt this,by rw [szI];exact Nat.ne_of_lt (Nat.lt_succ_of_lt this)⟩
    ·obtain ⟨h',g',d',tk',os'⟩:=s'
     have eg : g' = s.gens:=hm.gens
     have ed : d' = s.drawn:=hm.drawn
     have eo : os' = s.os:=hm.os
     subst eg;subst ed;subst eo
     show wpAny _ _ _ _ _ _
     refine wpAny_pure ?_
     show wpAny _ _ (ret Value.none) _ _ _
     refine wpAny_pure ⟨rfl,h',tk',rfl,hS',fun b o e=>?_⟩
     have:=Heap.lt_size e
     exact hm.heap b o (by simp only [List.mem_cons,List.not_mem_nil,or_false,not_or];exact ⟨Nat.ne_of_lt this,by rw [szI];exact Nat.ne_of_lt (Nat.lt_succ_of_lt this)⟩) (old b o e)
   ·cases r₂ with
    | error e=>exact hr₂
    | ok fl₂ =>
     cases fl₂ with
     | ret r =>
      obtain ⟨rfl,h',tk,rfl,hS',hk'⟩:=hr₂
      repeat (any_goals (first | assumption | wp_step))
      exact h _ _ hS' hk'
     | _=>exact hr₂.elim
  | _=>exact hr.elim
end
end L2
end

section
set_option Elab.async false
set_option linter.all false
set_option maxRecDepth 100000
set_option maxHeartbeats 1000000
namespace L2
open PySem PySem.Spec PyProof.Rows PySem.W PySem.SetTable
theorem si_slot : Slot "set_iterator" "__next__" "set_iterator.__next__" := .of (owner := "set_iterator") (n := "__next__") (by rw [typeLookup_type,builtinLookup_eq_fast];kernel_rfl) (by decide +kernel) (by decide +kernel) (by decide +kernel) (by first | exact .inl (by decide +kernel) | exact .inr (by decide +kernel)) (by rw [isSubtype_type];kernel_rfl)
theorem si_entry : entryFor table "set_iterator.__next__" = some Builtin.«set_iterator.__next__» := entryFor_of_tree (by kernel_rfl)
theorem si_owner : Manifest.owners.lookup (String.ofList ['r','o','t','a','r','e','t','i','_','t','e','s'].reverse) = some Manifest.sig_set_iterator:=by kernel_rfl
theorem si_args (a : Value) : argsOk "set_iterator.__next__" ⟨[a],[]⟩:=by
 unfold argsOk;rw [signature?_of (id := "set_iterator.__next__") (n:=['_','_','t','x','e','n','_','_']) (o:=['r','o','t','a','r','e','t','i','_','t','e','s']) (by kernel_rfl) si_owner];kernel_rfl
theorem set_iter_entry : entryFor table "set.__iter__" = some Builtin.«frozenset.__iter__» := entryFor_alias (id' := "frozenset.__iter__") (by kernel_rfl) rfl (by decide +kernel) (by kernel_rfl)
theorem pick_go {α : Type} (next : Nat->Nat) : ∀ (fuel k : Nat) (left : List α) (out : Array α),fuel = left.length->(pickOrder.go next fuel k left out).size = out.size + left.length/\∀ x ∈ pickOrder.go next fuel k left out,x ∈ out\/x ∈ left
 | 0,k,left,out,h=>by
  obtain rfl : left = []:=List.length_eq_zero_iff.mp h.symm
  unfold pickOrder.go
  exact ⟨rfl,fun x hx=>.inl hx⟩
 | fuel + 1,k,left,out,h=>by
  unfold pickOrder.go
  have hlt : next k % left.length < left.length:=Nat.mod_lt _ (by omega)
  rw [List.getElem?_eq_getElem hlt]
  dsimp only
  obtain ⟨h1,h2⟩:=pick_go next fuel (k + 1) (left.eraseIdx (next k % left.length)) (out.push left[next k % left.length]) (by rw [List.length_eraseIdx_of_lt hlt];omega)
  refine ⟨by rw [h1,Array.size_push,List.length_eraseIdx_of_lt hlt];omega,fun x hx=>?_⟩
  rcases h2 x hx with h3 | h3
  ·rcases Array.mem_push.mp h3 with h4 | rfl
   ·exact .inl h4
   ·exact .inr (List.getElem_mem hlt)
  ·exact .inr (List.mem_of_mem_eraseIdx h3)
theorem pick_ok {α : Type} (next : Nat->Nat) (xs : Array α) : (pickOrder next xs).size = xs.size/\∀ x ∈ pickOrder next xs,x ∈ xs:=by
 unfold pickOrder
 obtain ⟨h1,h2⟩:=pick_go next xs.size 0 xs.toList #[] (by simp)
 refine ⟨by simpa using h1,fun x hx=>?_⟩
 rcases h2 x hx with h | h
 ·simp at h
 ·exact Array.mem_toList_iff.mp h
section
variable {prog : Program} {w : World} {A : Around} {E : Value->Shared->Prop} {s : Shared}
theorem drawOrder_ok {α : Type} : ∀ (n : Nat) (xs : List α) (s : Shared) {Q : List α->Shared->Prop},n = xs.length->(∀ ys d,ys.length = n->(∀ y ∈ ys,y ∈ xs)->Q ys { s with drawn:=d })->wpAny (model prog w) A (drawOrder n xs) Q E s
 | 0,xs,s,Q,_,h=>by
  unfold drawOrder
  exact wpAny_pure (h [] s.drawn rfl fun _ z=>nomatch z)
 | n + 1,[],s,Q,e,h=>nomatch e
 | n + 1,x :: r,s,Q,e,h=>by
  unfold drawOrder
  refine wpAny_bind ?_
  intro Γ p hΓ
  refine ⟨by simp,?_⟩
  show Sem.wp _ _ (Sem.pure _) _ _ _ _
  generalize hi : (model prog w).w.draws Source.order (s.drawn.get Source.order) % (x :: r).length = i
  have hlt : i < (x :: r).length:=by rw [<- hi];exact Nat.mod_lt _ (by simp)
  show wpAny (model prog w) A _ Q E _
  rw [List.getElem?_eq_getElem hlt]
  dsimp only
  refine wpAny_bind (drawOrder_ok n ((x :: r).eraseIdx i) _ (by rw [List.length_eraseIdx_of_lt hlt];omega) fun ys d hl hm=>?_)
  refine wpAny_pure (h _ d (by simp [hl]) fun y hy=>?_)
  rcases List.mem_cons.mp hy with rfl | hy
  ·exact List.getElem_mem hlt
  ·exact List.mem_of_mem_eraseIdx (hm y hy)
end
end L2
end

section
set_option Elab.async false
set_option linter.all false
set_option maxRecDepth 100000
set_option maxHeartbeats 1000000
namespace L2
open PySem PySem.Spec PyProof.Rows PySem.W PySem.SetTable
inductive Way (w : World) (h : Heap) (T : Addr) (n i : Nat) (t : SetTable) : Value->Prop
 | text {k : Int} {u : Tok} (e : w.params.followText "set-order" = true) : Way w h T n i t (.int k u)
 | drawn {ps : List Nat} {m : Nat} (e : w.params.followText "set-order" = false) (hT : h.get? T = some { cls:=.type "tuple",data:=.seq (ps.map fun (p : Nat)=>rawInt p).toArray m }) (hl : ps.length = n) (hp : ∀ p ∈ ps,p < n) : Way w h T n i t (.ref T)
 | few {k : Nat} {u : Tok} (e : w.params.followText "set-order" = false) (hn : n <= 1) (hl : t.led = true) (h0 : i = 0->k = 0) (h1 : i = 1->∃ j,t.place[0]? = some j/\k = j + 1) : Way w h T n i t (.int k u)
def StS (w : World) (P : Value->Prop) (S I T : Addr) (n i : Nat) (h : Heap) : Prop := ∃ o es ep t first,h.get? S = some o/\o.data = .set es ep t/\TOk t es.size/\es.size = n/\(∀ e ∈ es.toList,P e.2) /\
 h.get? I = some { cls:=.type "set_iterator",data:=.fields #[first,.int i 0,.ref S,.int n 0,.int ep 0] }/\Way w h T n i t first
section
variable {prog : Program} {w : World} {A : Around} {E : Value->Shared->Prop} {s : Shared} {P : Value->Prop} {S I T : Addr} {n i : Nat}
theorem byText {b : Bool} (e : w.params.followText "set-order" = b) {Q : Bool->Shared->Prop} (h : Q b s) : wpAny (model prog w) A setsByText Q E s:=by
 unfold setsByText
 refine wpAny_bind (wpAny_askSetting (wpAny_pure ?_))
 have : (model prog w).w.params.followText "set-order" = b:=e
 rw [this]
 exact h
section
variable {o : Obj} {es : Array (Int × Value)} {ep : Nat} {t : SetTable}
theorem setWalk_text (e : w.params.followText "set-order" = true) (hS : s.heap.get? S = some o) (hd : o.data = .set es ep t) (ht : TOk t es.size) {Q : Array (Int × Value)->Shared->Prop} (h : ∀ xs,xs.size = es.size->(∀ x ∈ xs,x ∈ es)->Q xs s) :
  wpAny (model prog w) A (setWalk S) Q E s:=by
 unfold setWalk
 refine wpAny_bind (wpAny_setState_of hS hd ht.fits ?_)
 dsimp only
 refine wpAny_bind (byText e ?_)
 rw [if_pos rfl]
 refine wpAny_bind (wpAny_askSetting (wpAny_pure ?_))
 exact h _ (pick_ok _ es).1 (pick_ok _ es).2
theorem setNext_text (e : w.params.followText "set-order" = true) (hS : s.heap.get? S = some o) (hd : o.data = .set es ep t) (ht : TOk t es.size) {slot given : Nat} {Q : Option (Value × Nat)->Shared->Prop}
  (h : ∀ r,(given < es.size->∃ x ∈ es.toList,r = some (x.2,slot))->(es.size <= given->r = none)->Q r s) : wpAny (model prog w) A (setNext S slot given ep) Q E s:=by
 unfold setNext
 refine wpAny_bind (wpAny_setState_of hS hd ht.fits ?_)
 dsimp only
 refine wpAny_bind (byText e ?_)
 rw [if_pos rfl]
 simp only [bne_self_eq_false,Bool.false_eq_true,if_false]
 refine wpAny_bind (setWalk_text e hS hd ht fun xs h1 h2=>wpAny_pure (h _ (fun hlt=>?_) fun hle=>?_))
 ·have hx : given < xs.size:=by omega
  exact ⟨xs[given],Array.mem_toList_iff.mpr (h2 _ (Array.getElem_mem hx)),by rw [Array.getElem?_eq_getElem hx];rfl⟩
 ·rw [Array.getElem?_eq_none (by omega)];rfl
theorem below0 {xs : Array Nat} {j : Nat} (h : xs[0]? = some j) (hs : xs.size = 1) : below xs 0 = 0/\below xs (j + 1) = 1:=by
 obtain ⟨l⟩:=xs
 match l,hs,h with
 | [y],_,h =>
  have e : y = j:=by simpa using h
  subst e
  unfold below
  show below.go _ _ 1 0 1 = 0/\below.go _ _ 1 0 1 = 1
  unfold below.go
  constructor
  ·simp [below.go]
  ·simp [below.go]
theorem setNext_few (e : w.params.followText "set-order" = false) (hS : s.heap.get? S = some o) (hd : o.data = .set es ep t) (ht : TOk t es.size) (hn : es.size <= 1) (hl : t.led = true) {slot given : Nat} {Q : Option (Value × Nat)->Shared->Prop}
  (h : ∀ r,(∀ x,es[below t.place slot]? = some x->∀ j,t.place[below t.place slot]? = some j->r = some (x.2,j + 1))->(es[below t.place slot]? = none->r = none)->Q r s) : wpAny (model prog w) A (setNext S slot given ep) Q E s:=by
 unfold setNext
 refine wpAny_bind (wpAny_setState_of hS hd ht.fits ?_)
 dsimp only
 refine wpAny_bind (byText e ?_)
 rw [if_neg Bool.false_ne_true]
 show wpAny _ _ (if (!t.plain && decide (es.size > 1)) = true then _ else _) _ _ _
 rw [if_neg (by rw [decide_eq_false (by omega)];simp)]
 refine wpAny_bind ?_
 show wpAny _ _ (if (!t.led && !es.isEmpty) = true then _ else _) _ _ _
 rw [hl,Bool.not_true,Bool.false_and,if_neg Bool.false_ne_true]
 refine wpAny_pure (wpAny_pure (h _ (fun x e1 j e2=>?_) fun e1=>?_))
 ·rw [e1,e2]
 ·rw [e1]
theorem setNextDrawn_ok (hS : s.heap.get? S = some o) (hd : o.data = .set es ep t) (ht : TOk t es.size) {p : Nat} (hp : p < es.size) {Q : Value->Shared->Prop} (h : Q es[p].2 s) : wpAny (model prog w) A (setNextDrawn S p ep) Q E s:=by
 unfold setNextDrawn
 refine wpAny_bind (wpAny_setState_of hS hd ht.fits ?_)
 dsimp only
 simp only [bne_self_eq_false,Bool.false_eq_true,if_false]
 rw [Array.getElem?_eq_getElem hp]
 exact wpAny_pure h
end
theorem upd_field {h : Heap} {I : Addr} {fs : Array Value} {k : Nat} {v : Value} (hI : h.get? I = some { cls:=.type "set_iterator",data:=.fields fs }) :
  (h.update I (Obj.mapFields (·.setIfInBounds k v))).get? I = some { cls:=.type "set_iterator",data:=.fields (fs.setIfInBounds k v) }:=by
 have:=Heap.get?_update_self (Obj.mapFields (·.setIfInBounds k v)) hI (Obj.isFreed_of_fields (Obj.data_mapFields rfl _))
 exact this
theorem next_item (st : StS w P S I T n i s.heap) (hIS : I ≠ S) (hIT : I ≠ T) (hi : i < n) {Q : Option Value->Shared->Prop}
  (h : ∀ v h',P v->StS w P S I T n (i + 1) h'->Heap.SameBut I s.heap h'->Q (some v) { s with heap:=h' }) : wpAny (model prog w) A (pyNext (.ref I)) Q E s:=by
 obtain ⟨o,es,ep,t,first,hS,hd,ht,hn,hP,hI,way⟩:=st
 have tI : s.TypeIs (.ref I) "set_iterator" := ⟨_,hI,rfl⟩
 unfold pyNext
 refine wpAny_bind (wpAny_attempt (wpAny_callSpecial?_slot (name:=Str.ofString "__next__") tI si_slot (wpAny_call_entry si_slot tI si_entry ?_ (si_args _))))
 unfold Builtin.«set_iterator.__next__»
 refine wpAny_bind (m:=slotArgs "__next__" 0 _) (wpAny_pure ?_)
 dsimp only
 refine wpAny_bind (wpAny_fieldsOf hI rfl ?_)
 dsimp only
 refine wpAny_bind (wpAny_setEntries_of hS hd ht.fits ?_)
 rw [hn]
 simp only [bne_self_eq_false,Bool.false_eq_true,if_false]
 cases way with
 | @text k u e =>
  dsimp only
  refine wpAny_bind (setNext_text e hS hd ht fun r h1 _=>?_)
  obtain ⟨x,hx,rfl⟩:=h1 (by rw [hn];simpa using hi)
  dsimp only
  refine wpAny_bind (wpAny_setField hI rfl (by simp) ?_)
  refine wpAny_bind (wpAny_setField (upd_field hI) rfl (by simp) ?_)
  refine wpAny_pure ⟨_,rfl,wpAny_pure (h x.2 _ (hP x hx) ⟨o,es,ep,t,rawInt k.toNat,?_,hd,ht,hn,hP,?_,.text e⟩ ((Heap.SameBut.update ..).trans (Heap.SameBut.update ..)))⟩
  ·rw [Heap.get?_update_other _ _ hIS,Heap.get?_update_other _ _ hIS];exact hS
  ·exact upd_field (upd_field hI)
 | @drawn ps m e hT hl hp =>
  dsimp only
  refine wpAny_bind (wpAny_seqItems hT rfl ?_)
  dsimp only
  have hpi : (ps.map fun (p : Nat)=>rawInt p).toArray[(i : Int).toNat]? = some (rawInt (ps[i]'(by omega) : Nat)):=by
   simp [hl,hi]
  rw [hpi]
  have hpb : ps[i]'(by omega) < es.size:=by rw [hn];exact hp _ (List.getElem_mem _)
  show wpAny _ _ (setNextDrawn S ((ps[i]'(by omega) : Nat) : Int).toNat (ep : Int).toNat >>= _) _ _ _
  rw [Int.toNat_natCast,Int.toNat_natCast]
  refine wpAny_bind (setNextDrawn_ok hS hd ht hpb ?_)
  refine wpAny_bind (wpAny_setField hI rfl (by simp) ?_)
  refine wpAny_pure ⟨_,rfl,wpAny_pure (h _ _ (hP _ (Array.mem_toList_iff.mpr (Array.getElem_mem hpb))) ⟨o,es,ep,t,.ref T,?_,hd,ht,hn,hP,?_,.drawn (ps:=ps) (m:=m) e ?_ hl hp⟩ (Heap.SameBut.update ..))⟩
  ·rw [Heap.get?_update_other _ _ hIS];exact hS
  ·exact upd_field hI
  ·rw [Heap.get?_update_other _ _ hIT];exact hT
 | @few k u e hn1 hl h0 h1 =>
  dsimp only
  obtain rfl : i = 0:=by omega
  obtain rfl : n = 1:=by omega
  obtain rfl : k = 0:=h0 rfl
  have hp0 : (0 : Nat) < t.place.size:=by rw [ht.place];omega
  obtain ⟨b0,b1⟩:=below0 (Array.getElem?_eq_getElem hp0) (by rw [ht.place];omega)
  refine wpAny_bind (setNext_few e hS hd ht (by omega) hl fun r h1 _=>?_)
  have he0 : (0 : Nat) < es.size:=by omega
  obtain rfl:=h1 es[0] (by show es[below t.place 0]? = _;rw [b0];exact Array.getElem?_eq_getElem he0) t.place[0] (by show t.place[below t.place 0]? = _;rw [b0];exact Array.getElem?_eq_getElem hp0)
  dsimp only
  refine wpAny_bind (wpAny_setField hI rfl (by simp) ?_)
  refine wpAny_bind (wpAny_setField (upd_field hI) rfl (by simp) ?_)
  refine wpAny_pure ⟨_,rfl,wpAny_pure (h es[0].2 _ (hP _ (Array.mem_toList_iff.mpr (Array.getElem_mem he0))) ⟨o,es,ep,t,rawInt (t.place[0] + 1 : Nat),?_,hd,ht,hn,hP,?_,.few e (Nat.le_refl _) hl (fun z=>nomatch z) fun _=>⟨_,Array.getElem?_eq_getElem hp0,rfl⟩⟩ ((Heap.SameBut.update ..).trans (Heap.SameBut.update ..)))⟩
  ·rw [Heap.get?_update_other _ _ hIS,Heap.get?_update_other _ _ hIS];exact hS
  ·exact upd_field (upd_field hI)
end
end L2
end

section
set_option Elab.async false
set_option linter.all false
set_option maxRecDepth 100000
set_option maxHeartbeats 1000000
namespace L2
open PySem PySem.Spec PyProof.Rows PySem.W PySem.SetTable
section
variable {prog : Program} {w : World} {A : Around} {E : Value->Shared->Prop} {s : Shared} {P : Value->Prop} {S I T : Addr} {n i : Nat}
theorem stop_thrown (hh : A.handled = none) {P2 : PySem.Fin->Shared->Prop} (h : ∀ e h',(∀ b o,s.heap.get? b = some o->h'.get? b = some o)->Shared.TypeIs { s with heap:=h' } e "StopIteration"->E e { s with heap:=h' }) :
  wpAny (model prog w) A (newExc (.type "StopIteration") [] >>= raiseNew (α:=PySem.Fin)) P2 E s:=by
 refine wpAny_bind ?_
 simp only [newExc,newTuple]
 refine wpAny_bind (wpAny_newObj_type ?_ (by size_fits))
 refine wpAny_bind (m:=firstArgMember _ _) (wpAny_of_eq (a:=Value.none) (by first | rfl | (simp only [firstArgMember];rfl)) ?_)
 refine wpAny_newObj_type ?_ (by size_fits)
 simp only [raiseNew]
 refine wpAny_bind (wpAny_handled ?_)
 rw [hh]
 refine wpAny_bind (wpAny_pure (wpAny_throw ?_))
 exact h _ _ (fun b o e=>Heap.get?_push_of_some _ (Heap.get?_push_of_some _ e)) ⟨_,Heap.get?_push_size _ rfl,rfl⟩
theorem next_end (st : StS w P S I T n n s.heap) (hh : A.handled = none) {Q : Option Value->Shared->Prop} (h : ∀ h',(∀ b o,b ≠ I->s.heap.get? b = some o->h'.get? b = some o)->Q none { s with heap:=h' }) :
  wpAny (model prog w) A (pyNext (.ref I)) Q E s:=by
 obtain ⟨o,es,ep,t,first,hS,hd,ht,hn,hP,hI,way⟩:=st
 have tI : s.TypeIs (.ref I) "set_iterator" := ⟨_,hI,rfl⟩
 unfold pyNext
 refine wpAny_bind (wpAny_attempt (wpAny_callSpecial?_slot (name:=Str.ofString "__next__") tI si_slot (wpAny_call_entry si_slot tI si_entry ?_ (si_args _))))
 unfold Builtin.«set_iterator.__next__»
 refine wpAny_bind (m:=slotArgs "__next__" 0 _) (wpAny_pure ?_)
 dsimp only
 refine wpAny_bind (wpAny_fieldsOf hI rfl ?_)
 dsimp only
 refine wpAny_bind (wpAny_setEntries_of hS hd ht.fits ?_)
 rw [hn]
 simp only [bne_self_eq_false,Bool.false_eq_true,if_false]
 have fin : ∀ e h',(∀ b o,b ≠ I->s.heap.get? b = some o->h'.get? b = some o)->Shared.TypeIs { s with heap:=h' } e "StopIteration" ->
   wpAny (model prog w) A (do if <- isInstance e (.type "StopIteration") then pure none else throw e) Q E { s with heap:=h' }:=fun e h' hk hT=>by
  refine wpAny_bind (wpAny_isInstance (b:=true) hT isSubtype_stop ?_)
  exact wpAny_pure (h h' hk)
 have one : ∀ (k : Nat) (v : Value) (b : Addr) (o : Obj),b ≠ I->s.heap.get? b = some o->(s.heap.update I (Obj.mapFields (·.setIfInBounds k v))).get? b = some o:=fun k v b o hb e=>by
  rw [Heap.get?_update_other _ _ (Ne.symm hb)];exact e
 cases way with
 | @text k u e =>
  dsimp only
  refine wpAny_bind (setNext_text e hS hd ht fun r _ h2=>?_)
  obtain rfl:=h2 (by rw [hn];simp)
  dsimp only
  refine wpAny_bind (wpAny_setField hI rfl (by simp) ?_)
  refine stop_thrown (A:=A.in1) hh ?_
  exact fun e h' hk hT=>fin e h' (fun b o hb q=>hk b o (one _ _ b o hb q)) hT
 | @drawn ps m e hT hl hp =>
  dsimp only
  refine wpAny_bind (wpAny_seqItems hT rfl ?_)
  dsimp only
  have hpi : (ps.map fun (p : Nat)=>rawInt p).toArray[(n : Int).toNat]? = none:=by simp [hl]
  rw [hpi]
  dsimp only
  refine wpAny_bind (wpAny_setField hI rfl (by simp) ?_)
  refine wpAny_bind (wpAny_setField (upd_field hI) rfl (by simp) ?_)
  refine stop_thrown (A:=A.in1) hh ?_
  exact fun e h' hk hT=>fin e h' (fun b o hb q=>hk b o (by
   show ((s.heap.update I _).update I _).get? b = some o
   rw [Heap.get?_update_other _ _ (Ne.symm hb)];exact one _ _ b o hb q)) hT
 | @few k u e hn1 hl h0 h1 =>
  dsimp only
  refine wpAny_bind (setNext_few e hS hd ht (by omega) hl fun r _ h2=>?_)
  obtain rfl:=h2 (by
   rcases (show n = 0\/n = 1 by omega) with rfl | rfl
   ·exact Array.getElem?_eq_none (by omega)
   ·obtain ⟨j,hj,rfl⟩:=h1 rfl
    obtain ⟨_,b1⟩:=below0 hj (by rw [ht.place];omega)
    show es[below t.place (j + 1)]? = none
    rw [b1]
    exact Array.getElem?_eq_none (by omega))
  dsimp only
  refine wpAny_bind (wpAny_setField hI rfl (by simp) ?_)
  refine stop_thrown (A:=A.in1) hh ?_
  exact fun e h' hk hT=>fin e h' (fun b o hb q=>hk b o (one _ _ b o hb q)) hT
theorem iter_set (hS : SetR w s.heap S P n) (hn : n <= 1000) {Q : Value->Shared->Prop} (h : ∀ I T m h' d,m <= n->s.heap.objs.size <= I->I ≠ T->I ≠ S->I < h'.objs.size->(T = S\/s.heap.objs.size <= T)->(∀ b o,s.heap.get? b = some o->h'.get? b = some o)->StS w P S I T m 0 h'->Q (.ref I) { s with heap:=h',drawn:=d }) :
  wpAny (model prog w) A (pyIter (.ref S)) Q E s:=by
 obtain ⟨o,es,ep,t,ho,hex,hd,ht,hl,hpl,hP,hle⟩:=hS
 have tS : s.TypeIs (.ref S) "set" := ⟨o,ho,hex.1⟩
 have ltS : S < s.heap.objs.size:=Heap.lt_size ho
 refine wpAny_pyIter_slot tS F.slot_set_iter (wpAny_call_entry F.slot_set_iter tS set_iter_entry ?_ (F.args_set_iter_1 _))
 unfold Builtin.«frozenset.__iter__» Builtin.Frozenset.slot0
 refine wpAny_bind (wpAny_bind (m:=slotArgs "__iter__" 0 _) (wpAny_pure ?_))
 refine wpAny_pure ?_
 unfold Builtin.Frozenset.sizeOf
 refine wpAny_bind (wpAny_bind (wpAny_setEntries_of ho hd ht.fits (wpAny_pure ?_)))
 refine wpAny_bind ?_
 unfold setDrawn
 have line : (1000 : Nat) <= sizeLine:=by decide +kernel
 have fin : ∀ (first : Value) (T : Addr) (h1 : Heap) (d : Drawn),(∀ b o,s.heap.get? b = some o->h1.get? b = some o)->s.heap.objs.size <= h1.objs.size->T < h1.objs.size->(T = S\/s.heap.objs.size <= T)->Way w h1 T es.size 0 t first ->
   wpAny (model prog w) A.in1 (do ret (<- newFields "set_iterator" [first,rawInt 0,.ref S,rawInt es.size,rawInt (<- setEpoch S)])) (fun fin s'=>∃ r,fin = .done (.ret r)/\∃ T' r',s'.TypeIs r T'/\typeLookup (.type T') "__next__" = pure (some r')/\Q r s') E { s with heap:=h1,drawn:=d }:=by
  intro first T h1 d hk hle1 hT hTS way
  refine wpAny_bind (wpAny_setEpoch_of (s:={ s with heap:=h1,drawn:=d }) (hk S o ho) hd ht.fits ?_)
  refine wpAny_bind (wpAny_newObj_type ?_)
  have keep : ∀ b o,h1.get? b = some o->(h1.push { cls:=.type "set_iterator",data:=.fields #[first,rawInt 0,.ref S,rawInt es.size,rawInt ep] }).get? b = some o:=fun b o e=>Heap.get?_push_of_some _ e
  refine wpAny_pure ⟨_,rfl,"set_iterator",_,⟨_,Heap.get?_push_size _ rfl,rfl⟩,si_slot.lookup,?_⟩
  refine h h1.objs.size T es.size _ d hle hle1 (Nat.ne_of_gt hT) (Nat.ne_of_gt (Nat.lt_of_lt_of_le ltS hle1)) (by rw [Heap.size_push];exact Nat.lt_succ_self _) hTS (fun b o e=>keep b o (hk b o e))
   ⟨o,es,ep,t,first,keep S o (hk S o ho),hd,ht,rfl,hP,Heap.get?_push_size _ rfl,?_⟩
  cases way with
  | text e=>exact .text e
  | drawn e q hl hp=>exact .drawn e (keep _ _ q) hl hp
  | few e hn hl h0 h1=>exact .few e hn hl h0 h1
 refine wpAny_bind (wpAny_setState_of ho hd ht.fits ?_)
 dsimp only
 cases e : w.params.followText "set-order" with
 | true =>
  refine wpAny_bind (byText e (wpAny_pure ?_))
  simp only [Bool.not_true,Bool.false_and,Bool.false_eq_true,if_false]
  refine wpAny_bind (wpAny_pure ?_)
  exact fin (rawInt 0) S s.heap s.drawn (fun _ _ q=>q) (Nat.le_refl _) ltS (.inl rfl) (.text e)
 | false =>
  refine wpAny_bind (byText e (wpAny_pure ?_))
  by_cases h1 : es.size <= 1
  ·have : (!false && (!t.plain && decide (es.size > 1))) = false:=by rw [decide_eq_false (by omega)];simp
   show wpAny _ _ (if (!false && (!t.plain && decide (es.size > 1))) = true then _ else _) _ _ _
   rw [this,if_neg Bool.false_ne_true]
   refine wpAny_bind (wpAny_pure ?_)
   exact fin (rawInt 0) S s.heap s.drawn (fun _ _ q=>q) (Nat.le_refl _) ltS (.inl rfl) (.few (k:=0) e h1 (by rw [hl,e];rfl) (fun _=>rfl) fun z=>nomatch z)
  ·have : (!false && (!t.plain && decide (es.size > 1))) = true:=by rw [decide_eq_true (by omega),hpl (by omega)];simp
   show wpAny _ _ (if (!false && (!t.plain && decide (es.size > 1))) = true then _ else _) _ _ _
   rw [this,if_pos rfl]
   refine wpAny_bind (drawOrder_ok _ _ _ (by simp) fun ys d hly hmy=>?_)
   refine wpAny_bind (wpAny_newTuple ?_ (by rw [List.length_map,hly];omega))
   exact fin (.ref s.heap.objs.size) s.heap.objs.size _ d (fun b o q=>Heap.get?_push_of_some _ q) (by rw [Heap.size_push];exact Nat.le_succ _) (by rw [Heap.size_push];exact Nat.lt_succ_self _) (.inr (Nat.le_refl _))
    (.drawn (m:=0) e (Heap.get?_push_size _ rfl) hly fun p hp=>List.mem_range.mp (hmy p hp))
end
end L2
end

section
set_option Elab.async false
set_option linter.all false
set_option maxRecDepth 100000
set_option maxHeartbeats 1000000
namespace L2
open PySem PySem.Spec PyProof.Rows PySem.W PySem.SetTable
theorem StS.stay {w : World} {P : Value->Prop} {S I T : Addr} {n i : Nat} {h h' : Heap} (x : StS w P S I T n i h) (k : ∀ b o,b = S\/b = I\/b = T->h.get? b = some o->h'.get? b = some o) : StS w P S I T n i h':=by
 obtain ⟨o,es,ep,t,first,hS,hd,ht,hn,hP,hI,way⟩:=x
 refine ⟨o,es,ep,t,first,k S o (.inl rfl) hS,hd,ht,hn,hP,k I _ (.inr (.inl rfl)) hI,?_⟩
 cases way with
 | text e=>exact .text e
 | drawn e q hl hp=>exact .drawn e (k T _ (.inr (.inr rfl)) q) hl hp
 | few e hn hl h0 h1=>exact .few e hn hl h0 h1
section
variable {prog : Program} {w : World} {A : Around} {E : Value->Shared->Prop} {s : Shared} {P : Value->Prop} {S I T L : Addr} {n i : Nat} {R : Result->Shared->Prop}
theorem ext_loopS (hIS : I ≠ S) (hIT : I ≠ T) (hLI : L ≠ I) (hLS : L ≠ S) (hLT : L ≠ T) (hh : A.handled = none) (hn : n <= 1000) (res : Value) : ∀ (k i : Nat) (s : Shared) (acc : Array Value) (c : Nat),n - i = k->i <= n->StS w P S I T n i s.heap ->
  s.heap.get? L = some { cls:=.type "list",data:=.seq acc c }->acc.size = i->(∀ v ∈ acc.toList,P v) ->
  (∀ h' acc' c',h'.get? L = some { cls:=.type "list",data:=.seq acc' c' }->acc'.size = n->(∀ v ∈ acc'.toList,P v)->(∀ b o,b ≠ I->b ≠ L->s.heap.get? b = some o->h'.get? b = some o)->R (.ok (.ret res)) { s with heap:=h' }) ->
  codeAny (model prog w) A (.builtin "list.extend.loop" ⟨[.ref L,.ref I,res],[]⟩) R s:=by
 have line : (1000 : Nat) <= sizeLine:=by decide +kernel
 intro k
 induction k with
 | zero =>
  intro i s acc c hk hi st hL hsz hP fin
  obtain rfl : i = n:=by omega
  refine codeAny_builtin F.entry_extend_loop ?_
  rw [Around.under_plainId F.plain_extend_loop _]
  show wpAny _ A.in1 (pyNext (.ref I) >>= _) _ _ s
  refine wpAny_bind (next_end (A:=A.in1) st hh fun h' hk'=>?_)
  exact wpAny_pure (fin h' acc c (hk' L _ hLI hL) hsz hP fun b o hb _ e=>hk' b o hb e)
 | succ k ih =>
  intro i s acc c hk hi st hL hsz hP fin
  have lt : i < n:=by omega
  refine codeAny_builtin F.entry_extend_loop ?_
  rw [Around.under_plainId F.plain_extend_loop _]
  show wpAny _ A.in1 (pyNext (.ref I) >>= _) _ _ s
  refine wpAny_bind (next_item st hIS hIT lt fun v h' hv st1 sb=>?_)
  have hL1 : h'.get? L = some { cls:=.type "list",data:=.seq acc c }:=by rw [sb.2 L hLI];exact hL
  show wpAny _ A.in1 (updateSeq L (·.push v) >>= _) _ _ _
  refine wpAny_bind ?_
  refine wpAny_updateSeq (s:={ s with heap:=h' }) hL1 rfl (wpAny_pure ⟨plainId_quiet F.plain_extend_loop _,ih (i + 1) _ (acc.push v) _ (by omega) lt (st1.stay fun b o hb e=>?_) (Heap.get?_update_self _ hL1 rfl) (by rw [Array.size_push,hsz]) (fun u hu=>?_) fun h2 acc' c' q1 q2 q3 q4=>?_⟩) (by omega) (by show (acc.push v).size <= sizeLine + 1;rw [Array.size_push];omega)
  ·refine (Heap.get?_update_other _ _ ?_).trans e
   rcases hb with rfl | rfl | rfl
   ·exact hLS
   ·exact hLI
   ·exact hLT
  ·rcases Array.mem_push.mp (Array.mem_toList_iff.mp hu) with z | rfl
   ·exact hP u (Array.mem_toList_iff.mpr z)
   ·exact hv
  ·refine fin h2 acc' c' q1 q2 q3 fun b o hb1 hb2 e=>q4 b o hb1 hb2 ?_
   refine (Heap.get?_update_other _ _ (Ne.symm hb2)).trans ?_
   show h'.get? b = some o
   rw [sb.2 b hb1];exact e
theorem collect_set (hS : SetR w s.heap S P n) (hn : n <= 1000) (hh : A.handled = none) {Q : List Value->Shared->Prop}
  (h : ∀ (vs : List Value) h' d,vs.length <= n->(∀ v ∈ vs,P v)->(∀ b o,s.heap.get? b = some o->h'.get? b = some o)->s.heap.objs.size < h'.objs.size->Q vs { s with heap:=h',drawn:=d }) : wpAny (model prog w) A (collect (.ref S)) Q E s:=by
 have hS0:=hS
 obtain ⟨o,es,ep,t,ho,hex,hd,ht,hl,hpl,hP,hle⟩:=hS
 have ltS : S < s.heap.objs.size:=Heap.lt_size ho
 unfold collect
 refine wpAny_bind (wpAny_runValue (codeAny_builtin F.entry_proto_collect ?_))
 rw [Around.under_plainId F.plain_proto_collect _]
 show wpAny _ A.in1 (newList [] >>= fun l=>again (.builtin "list.__iadd__" ⟨[l,.ref S],[]⟩)) _ _ s
 refine wpAny_bind (wpAny_newList ?_ (by size_fits))
 refine wpAny_pure ⟨plainId_quiet F.plain_list_iadd _,codeAny_builtin F.entry_list_iadd ?_⟩
 rw [Around.under_plainId F.plain_list_iadd _]
 show wpAny _ A.in1 (Builtin.List.listExtendWith (.ref s.heap.objs.size) (.ref S) (.ref s.heap.objs.size)) _ _ _
 unfold Builtin.List.listExtendWith
 have gL : (s.heap.push { cls:=.type "list",data:=.seq ([] : List Value).toArray }).get? s.heap.objs.size = some { cls:=.type "list",data:=.seq ([] : List Value).toArray }:=Heap.get?_push_size _ rfl
 have old : ∀ b o,s.heap.get? b = some o->(s.heap.push { cls:=.type "list",data:=.seq ([] : List Value).toArray }).get? b = some o:=fun b o e=>Heap.get?_push_of_some _ e
 refine wpAny_bind (wpAny_typeOf (T := "set") ⟨o,old S o ho,hex.1⟩ ?_)
 have h1 : Builtin.List.listSameRef (.ref s.heap.objs.size) (.ref S) = false:=by simp [Builtin.List.listSameRef,Nat.ne_of_gt ltS]
 have h2 : (Value.type "set" == Value.type "list") = false:=by decide
 have h3 : (Value.type "set" == Value.type "tuple") = false:=by decide
 simp only [h1,h2,h3,Bool.or_false,Bool.false_eq_true,if_false]
 refine wpAny_bind (iter_set (hS0.stay fun o e=>old S o e) hn fun I T m h2 d hm hI hIT hIS hlI hT keep st=>?_)
 have sz1 : (s.heap.push { cls:=.type "list",data:=.seq ([] : List Value).toArray }).objs.size = s.heap.objs.size + 1:=Heap.size_push ..
 have hLI : s.heap.objs.size ≠ I:=Nat.ne_of_lt (Nat.lt_of_lt_of_le (by rw [sz1];exact Nat.lt_succ_self _) hI)
 have hLS : s.heap.objs.size ≠ S:=Nat.ne_of_gt ltS
 have hLT : s.heap.objs.size ≠ T:=by
  rcases hT with rfl | hT
  ·exact hLS
  ·exact Nat.ne_of_lt (Nat.lt_of_lt_of_le (by rw [sz1];exact Nat.lt_succ_self _) hT)
 have tS2 : Shared.TypeIs { s with heap:=h2,drawn:=d } (.ref S) "set" := ⟨o,keep S o (old S o ho),hex.1⟩
 refine wpAny_bind (wpAny_holding ?_)
 unfold Builtin.List.listLengthHint
 refine wpAny_bind (wpAny_specialOf tS2 F.slot_set_len.lookup ?_)
 dsimp only
 have sp : splitId "set.__len__" = some ("set","__len__"):=by kernel_rfl
 rw [sp]
 dsimp only
 refine wpAny_bind (wpAny_isInstance tS2 sub_set_self ?_)
 simp only [Bool.not_true,Bool.false_eq_true,if_false]
 rw [if_pos (by decide +kernel)]
 refine wpAny_bind (wpAny_typeOf tS2 ?_)
 dsimp only
 refine wpAny_pure ?_
 rw [if_pos (by decide +kernel)]
 refine wpAny_bind (wpAny_rule ?_)
 have g2:=keep _ _ gL
 refine wpAny_bind ?_
 show wpAny _ A.in1 (updateSeq s.heap.objs.size (·.push .none) >>= fun _=>updateSeq s.heap.objs.size (·.pop)) _ _ _
 refine wpAny_bind (wpAny_updateSeq (s:={ s with heap:=h2,drawn:=d }) g2 rfl ?_)
 have g3:=Heap.get?_update_self (Obj.mapSeq (·.push Value.none)) g2 rfl
 refine wpAny_updateSeq (s:={ s with heap:=h2.update s.heap.objs.size (Obj.mapSeq (·.push Value.none)),drawn:=d }) g3 rfl ?_
 have g4:=Heap.get?_update_self (Obj.mapSeq (·.pop)) g3 rfl
 have oth : ∀ b o,b ≠ s.heap.objs.size->h2.get? b = some o->((h2.update s.heap.objs.size (Obj.mapSeq (·.push Value.none))).update s.heap.objs.size (Obj.mapSeq (·.pop))).get? b = some o:=fun b o hb e =>
  (Heap.get?_update_other _ _ (Ne.symm hb)).trans ((Heap.get?_update_other _ _ (Ne.symm hb)).trans e)
 refine wpAny_pure ⟨plainId_quiet F.plain_extend_loop _,ext_loopS (A:=A) hIS hIT hLI hLS hLT hh (Nat.le_trans hm hn) _ m 0 _ #[] _ rfl (Nat.zero_le _) (st.stay fun b o hb e=>oth b o ?_ e) g4 rfl (fun v z=>by simp at z) fun h3 acc c q1 q2 q3 q4=>?_⟩
 ·rcases hb with rfl | rfl | rfl
  ·exact Ne.symm hLS
  ·exact Ne.symm hLI
  ·exact Ne.symm hLT
 ·show wpAny _ A (load s.heap.objs.size >>= _) _ _ _
  refine wpAny_bind (wpAny_load q1 ?_)
  refine wpAny_pure (h acc.toList h3 d (by rw [Array.length_toList,q2];exact hm) q3 (fun b o e=>?_) (Heap.lt_size q1))
  have lt:=Heap.lt_size e
  exact q4 b o (fun z=>Nat.lt_irrefl _ (Nat.lt_of_lt_of_le lt (z ▸ Nat.le_trans (by rw [sz1];exact Nat.le_succ _) hI))) (Nat.ne_of_lt lt) (oth b o (Nat.ne_of_lt lt) (keep b o (old b o e)))
end
end L2
end

section
set_option Elab.async false
set_option linter.all false
set_option maxRecDepth 100000
set_option maxHeartbeats 1000000
namespace L2
open PySem PySem.Spec PyProof.Rows PySem.W PySem.SetTable
section
variable {prog : Program} {w : World} {A : Around} {E : Value->Shared->Prop} {s : Shared} {P : Value->Prop} {S : Addr} {n : Nat}
theorem sortedSet (hS : SetR w s.heap S P n) (hn : n <= 1000) (hh : A.handled = none) (hW : ∀ v,P v->W3 s.heap v) {Q : Value->Shared->Prop}
  (h : ∀ L (us : List Value) e h' d,s.heap.objs.size <= L->us.length <= n->(∀ v ∈ us,P v)->(∀ b o,s.heap.get? b = some o->h'.get? b = some o)->h'.get? L = some { cls:=.type "list",data:=.seq us.toArray e }->Q (.ref L) { s with heap:=h',drawn:=d }) :
  wpAny (model prog w) A (call (.builtin "sorted") [.ref S]) Q E s:=by
 refine Calls.call_function_entry kind_sorted plain_sorted entry_sorted (args_sorted1 _) ?_
 unfold Builtin.«sorted»
 refine wpAny_bind (m:=checkCount "sorted" 1 1 _) (wpAny_pure ?_)
 refine wpAny_bind (collect_set (A:=A.in1) hS hn hh fun vs h1 d hlen hP keep big=>?_)
 have line : (1000 : Nat) <= sizeLine:=by decide +kernel
 refine wpAny_bind (wpAny_newList ?_ (by omega))
 have hoL : (h1.push (seqObj "list" vs.toArray 0)).get? h1.objs.size = some (seqObj "list" vs.toArray 0):=Heap.get?_push_size _ rfl
 have old : ∀ b o,s.heap.get? b = some o->(h1.push (seqObj "list" vs.toArray 0)).get? b = some o:=fun b o e=>Heap.get?_push_of_some _ (keep b o e)
 show wpAny _ _ _ _ _ { s with heap:=h1.push (seqObj "list" vs.toArray 0),drawn:=d }
 refine wpAny_bind (wpAny_holding (wpAny_call_entry slot_list_sort ⟨_,hoL,rfl⟩ entry_list_sort (list_sort_treeC (s:={ s with heap:=h1.push (seqObj "list" vs.toArray 0),drawn:=d }) hoL (fun h2=>sortable3 (fun v hv=>?_) (by omega)) (by omega) fun st' a1=>⟨_,rfl,?_⟩) (args_list_sort _)))
 ·refine ⟨(hW v (hP v hv)).stay fun b o _ e=>old b o e,fun z=>?_⟩
  obtain ⟨b,o,_,_,_,_,_,_,_,hv',ho,_⟩:=hW v (hP v hv)
  rw [hv'] at z
  injection z with z
  exact Nat.lt_irrefl _ (Nat.lt_of_lt_of_le (Heap.lt_size ho) (z ▸ Nat.le_of_lt big))
 ·obtain ⟨e,he⟩:=sortedHeap_at (out:=(arrOf st').map (·.2)) hoL
  refine wpAny_pure ⟨_,rfl,h h1.objs.size ((arrOf st').map (·.2)).toList e _ d (Nat.le_of_lt big) ?_ (fun v hv=>?_) (fun b o q=>?_) (by rw [Array.toArray_toList];exact he)⟩
  ·rw [Array.length_toList,Array.size_map,a1.size_eq,pairsOf_size];exact hlen
  ·rw [Array.toList_map] at hv
   obtain ⟨p,hp,rfl⟩:=List.mem_map.mp hv
   have:=(a1.mem_iff (a:=p)).mp (Array.mem_toList_iff.mp hp)
   rw [<- Array.mem_toList_iff,pairsOf_toList] at this
   exact hP p.2 (List.of_mem_zip (a:=p.1) (b:=p.2) this).2
  ·have lt:=Heap.lt_size (keep b o q)
   show (sortedHeap _ _ _ _).get? b = some o
   rw [sortedHeap_old (Nat.ne_of_lt lt) (by rw [size_push'];exact Nat.lt_succ_of_lt lt)]
   exact old b o q
end
end L2
end

section
set_option Elab.async false
set_option linter.all false
set_option maxRecDepth 100000
set_option maxHeartbeats 1000000
namespace L2
open PySem PySem.Spec PyProof.Rows PySem.W PySem.SetTable
def setP (ps : List Addr) : Value->Prop:=fun v=>∃ p ∈ ps,v = .ref p
def SetO (w : World) (a : Addr) (ps : List Addr) : HO:=.ext fun h=>SetR w h a (setP ps) ps.length
theorem setO_ok {P : Program} {w : World} {H : Hp} {h : Heap} {a : Addr} {ps : List Addr} (x : SetR w h a (setP ps) ps.length) : ObjOk P w H h a (SetO w a ps):=by
 refine ⟨x,?_,fun h1 h2 y k=>y.stay k⟩
 obtain ⟨o,_,_,_,e,_⟩:=x
 exact ⟨o,e⟩
theorem waits_refs {ex : List Addr} {H : Hp} : ∀ {ws : List Wt} {vs : List V},IsDs ex H (ws.map Wt.d) vs->∃ ps : List Addr,vs = ps.map V.ref/\ps.length = ws.length/\∀ p ∈ ps,∃ w ∈ ws,IsD ex H w.d (.ref p)
 | [],vs,h=>by
  obtain rfl : vs = []:=List.length_eq_zero_iff.mp h.length
  exact ⟨[],rfl,rfl,fun _ z=>nomatch z⟩
 | w :: ws,vs,h=>by
  obtain ⟨v,vs',rfl,h1,h2⟩:=h
  obtain ⟨ps,rfl,e,hp⟩:=waits_refs h2
  obtain ⟨a,rfl,_⟩:=Wt.view h1
  refine ⟨a :: ps,rfl,by simp [e],fun p hpp=>?_⟩
  rcases List.mem_cons.mp hpp with rfl | hpp
  ·exact ⟨w,List.mem_cons_self,h1⟩
  ·obtain ⟨w',hw',i⟩:=hp p hpp
   exact ⟨w',List.mem_cons_of_mem _ hw',i⟩
theorem refs_waits {ex : List Addr} {H : Hp} {ws : List Wt} {ps : List Addr} (h : ∀ p ∈ ps,∃ w ∈ ws,IsD ex H w.d (.ref p)) : ∀ zs : List Addr,(∀ z ∈ zs,z ∈ ps)->∃ ws' : List Wt,ws'.length = zs.length/\(∀ w ∈ ws',w ∈ ws)/\IsDs ex H (ws'.map Wt.d) (zs.map V.ref)
 | [],_=>⟨[],rfl,(fun w (z : w ∈ [])=>nomatch z),rfl⟩
 | z :: zs,hz=>by
  obtain ⟨ws',e,hm,i⟩:=refs_waits h zs fun y hy=>hz y (List.mem_cons_of_mem _ hy)
  obtain ⟨w,hw,iw⟩:=h z (hz z List.mem_cons_self)
  refine ⟨w :: ws',by simp [e],fun y hy=>?_,⟨_,_,rfl,iw,i⟩⟩
  rcases List.mem_cons.mp hy with rfl | hy
  ·exact hw
  ·exact hm y hy
section
variable {X : Cx}
theorem Inv.w3 {pins : List (Addr × Obj)} {σ : St} {H : Hp} {s : Shared} {ex : List Addr} (I : Inv X pins σ H s) {w : Wt} {p : Addr} (h : IsD ex H w.d (.ref p)) : W3 s.heap (.ref p):=by
 obtain ⟨a,e,q⟩:=Wt.view h
 injection e with e
 subst e
 obtain ⟨_,its,r,⟨o,ho,hc,n,hd⟩,_⟩:=(I.hok p _ q : ObjOk X.prog X.w H s.heap p (.tup _))
 cases r with
 | cons r1 r=>cases r with
  | cons r2 r=>cases r with
   | cons r3 r=>cases r with
    | nil =>
     obtain ⟨t,rfl⟩:=r1
     obtain ⟨u,rfl⟩:=r2
     obtain ⟨k,rfl⟩:=r3
     exact ⟨p,o,n,_,t,_,u,_,k,rfl,ho,hc,hd⟩
def rSetW (X : Cx) : List V->Hp->VK->Prop:=fun vs H Q=>∃ (z : Zn) (ws : List Wt) (x : V),vs = [x]/\IsD z.ex H (.list (ws.map Wt.d)) x/\ws.length < 200/\Cz z H /\
 ∀ (p : Addr) (ps : List Addr) (H' : Hp),Stp z H H'->H' p = some (SetO X.w p ps)->ps.length = ws.length->(∀ q ∈ ps,∃ w ∈ ws,IsD z.ex H' w.d (.ref q))->Q (.ref p) H'
theorem call_setW (hc : X.calm = true) (hu : X.A.units + 64 < cLine) : CallR X (.type "set") (rSetW X):=by
 intro pins s σ H vs us Q I rv h
 obtain ⟨z,ws,x,rfl,hx,hlen,cz,q⟩:=h
 obtain ⟨u,rfl,ru⟩:=rv.one
 obtain ⟨a,vs,rfl,hax,ha,hds⟩:=hx
 obtain rfl : u = .ref a:=ru
 obtain ⟨ps,rfl,hpl,hps⟩:=waits_refs hds
 obtain ⟨its,r,pl,hl⟩:=I.list (SqL.of ha)
 have hn:=r.length
 rw [List.length_map] at hn
 have him : ∀ (i : Nat) v,its.toArray[i]? = some v->setP ps v:=fun i v hv=>by
  rw [List.getElem?_toArray] at hv
  have hi : i < ps.length:=by rw [hn];exact (List.getElem?_eq_some_iff.mp hv).1
  obtain ⟨u,hu,ru⟩:=r.get (i:=i) (x:=.ref ps[i]) (by simp [hi])
  rw [hv] at hu
  injection hu with hu
  subst hu
  exact ⟨ps[i],List.getElem_mem hi,ru⟩
 refine call_set3 (I.ok.hd hc) pl.isList him (fun v hv=>?_) (by simp;omega) hu fun h' tk hS keep=>?_
 ·obtain ⟨p,hp,rfl⟩:=hv
  obtain ⟨w,_,i⟩:=hps p hp
  exact I.w3 i
 ·have hsz : its.toArray.size = ps.length:=by simp [hn]
  rw [hsz] at hS
  have hnone : H s.heap.objs.size = none:=I.hok.fresh (Nat.le_refl _)
  have stp : Stp z H (upd H s.heap.objs.size (SetO X.w s.heap.objs.size ps)):=Stp.of cz (Ext.new hnone _)
  refine ⟨.ref s.heap.objs.size,_,I.laid (t':=tk) (o:=SetO X.w s.heap.objs.size ps) keep (Nat.le_refl _) (setO_ok hS),rfl,q _ ps _ stp upd_same hpl fun p hp=>?_⟩
  obtain ⟨w,hw,i⟩:=hps p hp
  exact ⟨w,hw,i.stp stp⟩
def rSortW (X : Cx) : List V->Hp->VK->Prop:=fun vs H Q=>∃ (z : Zn) (ws : List Wt) (p : Addr) (ps : List Addr),vs = [.ref p]/\H p = some (SetO X.w p ps)/\ps.length < 200/\Cz z H/\(∀ q ∈ ps,∃ w ∈ ws,IsD z.ex H w.d (.ref q)) /\
 ∀ ws' : List Wt,ws'.length <= ps.length->(∀ w ∈ ws',w ∈ ws)->NewD z Q (.list (ws'.map Wt.d)) H
theorem call_sortW (hc : X.calm = true) : CallR X (.builtin "sorted") (rSortW X):=by
 intro pins s σ H vs us Q I rv h
 obtain ⟨z,ws,p,ps,rfl,hp,hlen,cz,hps,q⟩:=h
 obtain ⟨u,rfl,ru⟩:=rv.one
 obtain rfl : u = .ref p:=ru
 have hS : SetR X.w s.heap p (setP ps) ps.length:=(I.hok p _ hp : ObjOk X.prog X.w H s.heap p (SetO X.w p ps)).1
 refine sortedSet hS (by omega) (I.ok.hd hc) (fun v hv=>?_) fun L us e h' d hL hus hP keep hg=>?_
 ·obtain ⟨b,hb,rfl⟩:=hv
  obtain ⟨w,_,i⟩:=hps b hb
  exact I.w3 i
 ·have hnone : H L = none:=I.hok.fresh hL
  have : ∃ zs : List Addr,us = zs.map Value.ref/\(∀ z ∈ zs,z ∈ ps):=by
   clear hus hg
   induction us with
   | nil=>exact ⟨[],rfl,fun _ z=>nomatch z⟩
   | cons u us ih =>
    obtain ⟨zs,rfl,hz⟩:=ih fun v hv=>hP v (List.mem_cons_of_mem _ hv)
    obtain ⟨b,hb,rfl⟩:=hP u List.mem_cons_self
    refine ⟨b :: zs,rfl,fun y hy=>?_⟩
    rcases List.mem_cons.mp hy with rfl | hy
    ·exact hb
    ·exact hz y hy
  obtain ⟨zs,rfl,hz⟩:=this
  rw [List.length_map] at hus
  obtain ⟨ws',hwl,hwm,hwd⟩:=refs_waits hps zs hz
  have rel : ∀ l : List Addr,Vals (l.map V.ref) (l.map Value.ref):=fun l=>by
   induction l with
   | nil=>exact .nil
   | cons y l ih=>exact .cons rfl ih
  have line : zs.length <= sizeLine:=Nat.le_trans (by omega) size1000
  have I2 : Inv X pins σ (upd H L (.lst (zs.map V.ref))) { s with heap:=h',drawn:=d } :=
   I.call (g':=s.gens) (t':=s.toks) (d':=d) (ch:=[]) (Un.laid keep hL hnone) (I.hok.laid keep hL ⟨by rw [List.length_map];exact line,zs.map Value.ref,e,rel zs,hg⟩) ⟨I.bare.1,Nat.le_refl _⟩ (fun _ z=>nomatch z)
  exact ⟨.ref L,_,I2,rfl,(q ws' (by omega) hwm).lst cz hwd hnone⟩
end
end L2
end

section
set_option Elab.async false
set_option linter.all false
set_option maxRecDepth 100000
set_option maxHeartbeats 1000000
namespace K08
open PySem L2 PyProof.Rows
structure Txt (K : PySem.W.Frag) (mg : Str->Option Value) : Prop where
 b_len : mg "len" = none
 b_range : mg "range" = none
 b_sorted : mg "sorted" = none
 b_set : mg "set" = none
 b_zip : mg "zip" = none
 b_tuple : mg "tuple" = none
 b_list : mg "list" = none
 b_isinstance : mg "isinstance" = none
 b_ValueError : mg "ValueError" = none
 b_int : mg "int" = none
 b_bool : mg "bool" = none
 b_all : mg "all" = none
 b_min : mg "min" = none
section
variable {P : Program} {w : World} {K : PySem.W.Frag} {mg : Str->Option Value} {base : Heap}
abbrev s__law_take : Stmt:=top 18
theorem sc__law_take : FnScope ["_law_held","_law_many","_law_found"] ["_law_held","_law_many"] (defScope s__law_take):=⟨rfl,rfl,rfl,by decide +kernel,rfl,by decide +kernel,by decide +kernel⟩
theorem ok_take {f : Addr} {fd : FuncData} (F : Fun K "_law_take" "_law_take" s__law_take f fd) : FnOk P w K mg base CX0 1 f fd ["_law_held","_law_many"] spTake:=by
 refine F.ok sc__law_take (fun vs H Q E h=>?_) (fun cdv A outer s H vs Q E hr h=>?_)
 ·obtain ⟨z,m,rfl,_⟩:=h
  rfl
 obtain ⟨z,m,rfl,c,h0,h1,q⟩:=h
 obtain ⟨n,hp⟩:=c.held
 refine' ⟨_,?hh,?rr⟩
 case hh=>(refine' pss_cons ?hj ?hk;(case hj=>refine' ps_set sc__law_take.nd (ixAt 2) (Or.inl rfl) ?hc;(case hc=>refine' pe_op op_mod ?hb (pv 1);(case hb=>refine' pe_ix ix_list (pv 0) pe_int (fun _ _=>rfl))));(case hk=>refine' pss_cons ?hh ?hi;(case hh=>refine' ps_asg ?he ?hf;(case he=>refine' pe_op op_fdiv ?hd (pv 1);(case hd=>refine' pe_ix ix_list (pv 0) pe_int (fun _ _=>rfl)));(case hf=>refine' pg_sub (pv 0) pe_int set_list));(case hi=>refine' pss_one ?hg;(case hg=>refine' ps_ret (pv 2)))))
 refine ⟨_,rfl,z.p,_,_,_,rfl,rfl,SqL.of hp,rfl,_,rfl,_,_,rfl,rfl,h0,?_⟩
 refine ⟨_,rfl,z.p,_,_,_,rfl,rfl,SqL.of hp,rfl,_,rfl,_,_,rfl,rfl,⟨h0,h1⟩,?_⟩
 refine ⟨_,rfl,z.p,_,_,_,rfl,rfl,hp,rfl,?_⟩
 exact ⟨_,rfl,q _ _ (Int.emod_nonneg _ (by omega)) (Int.emod_lt_of_pos _ h0) ⟨Ext.put (by simp) _,c.extp (Ext.put (by simp) _) ⟨_,upd_same⟩⟩⟩
abbrev s__law_digits : Stmt:=top 17
theorem sc__law_digits : FnScope ["_law_script","_law_k","_law_cell","_law_total","_law_number","_law_turn"] ["_law_script","_law_k"] (defScope s__law_digits):=⟨rfl,rfl,rfl,by decide +kernel,rfl,by decide +kernel,by decide +kernel⟩
theorem ok_digits {f : Addr} {fd : FuncData} (F : Fun K "_law_digits" "_law_digits" s__law_digits f fd) (T : Txt K mg) : FnOk P w K mg base CX0 1 f fd ["_law_script","_law_k"] (spDigits K):=by
 refine F.ok sc__law_digits (fun vs H Q E h=>?_) (fun cdv A outer s H vs Q E hr h=>?_)
 ·obtain ⟨a,ns,k,rfl,_⟩:=h
  rfl
 obtain ⟨a,ns,k,rfl,hS,h63,h0,h1,q⟩:=h
 refine' ⟨_,?hh,?rr⟩
 case hh=>(refine' pss_cons ?hU ?hV;(case hU=>refine' ps_set sc__law_digits.nd (ixAt 2) (Or.inl rfl) ?hf;(case hf=>refine' pe_ifExp ?hd ?he pe_int;(case hd=>refine' pt_cmpR op_lt (pv 1) ?hc (nomark _);(case hc=>refine' pe_callB call_len_seq rfl T.b_len PySem.boot_len ?hb;(case hb=>refine' pa_c (pv 0) pa_nil)));(case he=>refine' pe_ix ix_list (pv 0) (pv 1) (fun _ _=>rfl))));(case hV=>refine' pss_cons ?hS ?hT;(case hS=>refine' ps_if ?hm ?hn pss_nil;(case hm=>refine' pt_cmpR op_ge (pv 2) ?hg (nomark _);(case hg=>refine' pe_op op_pow pe_int pe_int));(case hn=>refine' pss_one ?hl;(case hl=>refine' ps_ret ?hk;(case hk=>refine' pe_lst ?hj;(case hj=>refine' pa_c ?hi pa_nil;(case hi=>refine' pe_op op_sub (pv 2) ?hh;(case hh=>refine' pe_op op_pow pe_int pe_int)))))));(case hT=>refine' pss_cons ?hQ ?hR;(case hQ=>refine' ps_set sc__law_digits.nd (ixAt 3) (Or.inl rfl) pe_int);(case hR=>refine' pss_cons ?hO ?hP;(case hO=>refine' ps_set sc__law_digits.nd (ixAt 4) (Or.inl rfl) ?hs;(case hs=>refine' pe_op op_mod ?hr pe_int;(case hr=>refine' pe_op op_add ?hq pe_int;(case hq=>refine' pe_op op_add ?ho ?hp;(case ho=>refine' pe_op op_mul (pv 2) pe_int);(case hp=>refine' pe_op op_mul pe_int (pv 1))))));(case hP=>refine' pss_cons ?hM ?hN;(case hM=>refine' ps_for PassesOwn.never rfl ?hG ?hH ?hI;(case hG=>refine' pi_range1 rfl T.b_range ?ht;(case ht=>refine' pa_c pe_int pa_nil));(case hH=>refine' pg_name sc__law_digits.nd (ixAt 5) (Or.inl rfl) (Or.inl rfl));(case hI=>refine' pss_cons ?hE ?hF;(case hE=>refine' ps_set sc__law_digits.nd (ixAt 4) (Or.inl rfl) ?hy;(case hy=>refine' pe_op op_mod ?hx pe_int;(case hx=>refine' pe_op op_add ?hw (pv 5);(case hw=>refine' pe_op op_add ?hu ?hv;(case hu=>refine' pe_op op_mul (pv 4) (pv 4));(case hv=>refine' pe_op op_mul pe_int (pv 4))))));(case hF=>refine' pss_one ?hD;(case hD=>refine' ps_set sc__law_digits.nd (ixAt 3) (Or.inl rfl) ?hC;(case hC=>refine' pe_op op_add ?hA ?hB;(case hA=>refine' pe_op op_mul (pv 3) pe_int);(case hB=>refine' pe_op op_mod ?hz pe_int;(case hz=>refine' pe_op op_mul (pv 4) pe_int)))))));(case hN=>refine' pss_one ?hL;(case hL=>refine' ps_ret ?hK;(case hK=>refine' pe_lst ?hJ;(case hJ=>refine' pa_c (pv 3) pa_nil)))))))))
 have hl : (ns.map V.int).length = ns.length:=List.length_map _
 have d1 : CPow 10 18:=⟨by decide,by decide,by decide⟩
 have one : ∀ x : V,([x] : List V).length <= sizeLine:=fun x=>by show 1 <= sizeLine;decide
 refine ⟨_,rfl,_,rfl,a,_,rfl,.inl hS,_,_,rfl,rfl,_,rfl,?_⟩
 refine ite2 (fun c=>?_) (fun c=>?_)
 ·have c' : k < (((ns.map V.int).length : Nat) : Int):=of_decide_eq_true c
  rw [hl] at c'
  have hk : k.toNat < ns.length:=by omega
  have hv : atI (ns.map V.int) k = some (.int ns[k.toNat]):=atI_pos h0 (by rw [List.getElem?_map,List.getElem?_eq_getElem hk] <;> rfl)
  refine ⟨_,rfl,_,rfl,a,_,_,_,rfl,rfl,hS,hv,?_⟩
  refine ⟨_,rfl,_,_,rfl,rfl,d1,_,_,rfl,rfl,_,rfl,?_⟩
  refine ite2 (fun c1=>?_) (fun c1=>?_)
  ·exact ⟨_,rfl,_,_,rfl,rfl,d1,_,_,rfl,rfl,one _,fun p hp=>q p _ hp⟩
  ·refine ⟨_,rfl,_,_,rfl,rfl,.inr ⟨by decide,by decide⟩,_,rfl,_,_,rfl,rfl,.inl ⟨by decide,by decide⟩,_,_,rfl,rfl,_,_,rfl,rfl,_,_,rfl,rfl,(by show (0 : Int) < 2147483647;decide),?_⟩
   refine ⟨12,rfl,by decide,by decide,for_range (n:=12) (fun i σ H2=>∃ (c : Option V) (total number : Int) (t : Option V),σ = [some (V.ref a),some (V.int k),c,some (V.int total),some (V.int number),t]/\H2 = H/\0 <= number/\number < 2147483648)
    ⟨_,_,_,_,rfl,rfl,Int.emod_nonneg _ (by decide),Int.lt_trans (Int.emod_lt_of_pos _ (by decide)) (by decide)⟩ ?_ ?_⟩
   ·rintro i σ H2 hi ⟨c,total,number,t,rfl,rfl,n0,n1⟩
    refine ⟨_,rfl,_,rfl,_,_,rfl,rfl,.inl ⟨by omega,by omega⟩,_,rfl,_,_,rfl,rfl,.inl ⟨by decide,by decide⟩,_,_,rfl,rfl,_,rfl,_,_,rfl,rfl,_,_,rfl,rfl,(by show (0 : Int) < 2147483629;decide),?_⟩
    refine ⟨_,rfl,_,_,rfl,rfl,.inr ⟨by decide,by decide⟩,_,rfl,_,_,rfl,rfl,.inr ⟨by decide,by decide⟩,_,_,rfl,rfl,(by show (0 : Int) < 2147483587;decide),_,_,rfl,rfl,?_⟩
    exact ⟨_,_,_,_,rfl,rfl,Int.emod_nonneg _ (by decide),Int.lt_trans (Int.emod_lt_of_pos _ (by decide)) (by decide)⟩
   ·rintro σ H2 ⟨c,total,number,t,rfl,rfl,_,_⟩
    exact ⟨_,rfl,one _,fun p hp=>q p _ hp⟩
 ·skip
  refine ⟨_,rfl,_,_,rfl,rfl,d1,_,_,rfl,rfl,_,rfl,?_⟩
  refine ite2 (fun c1=>?_) (fun c1=>?_)
  ·exact ⟨_,rfl,_,_,rfl,rfl,d1,_,_,rfl,rfl,one _,fun p hp=>q p _ hp⟩
  ·refine ⟨_,rfl,_,_,rfl,rfl,.inr ⟨by decide,by decide⟩,_,rfl,_,_,rfl,rfl,.inl ⟨by decide,by decide⟩,_,_,rfl,rfl,_,_,rfl,rfl,_,_,rfl,rfl,(by show (0 : Int) < 2147483647;decide),?_⟩
   refine ⟨12,rfl,by decide,by decide,for_range (n:=12) (fun i σ H2=>∃ (c : Option V) (total number : Int) (t : Option V),σ = [some (V.ref a),some (V.int k),c,some (V.int total),some (V.int number),t]/\H2 = H/\0 <= number/\number < 2147483648)
    ⟨_,_,_,_,rfl,rfl,Int.emod_nonneg _ (by decide),Int.lt_trans (Int.emod_lt_of_pos _ (by decide)) (by decide)⟩ ?_ ?_⟩
   ·rintro i σ H2 hi ⟨c,total,number,t,rfl,rfl,n0,n1⟩
    refine ⟨_,rfl,_,rfl,_,_,rfl,rfl,.inl ⟨by omega,by omega⟩,_,rfl,_,_,rfl,rfl,.inl ⟨by decide,by decide⟩,_,_,rfl,rfl,_,rfl,_,_,rfl,rfl,_,_,rfl,rfl,(by show (0 : Int) < 2147483629;decide),?_⟩
    refine ⟨_,rfl,_,_,rfl,rfl,.inr ⟨by decide,by decide⟩,_,rfl,_,_,rfl,rfl,.inr ⟨by decide,by decide⟩,_,_,rfl,rfl,(by show (0 : Int) < 2147483587;decide),_,_,rfl,rfl,?_⟩
    exact ⟨_,_,_,_,rfl,rfl,Int.emod_nonneg _ (by decide),Int.lt_trans (Int.emod_lt_of_pos _ (by decide)) (by decide)⟩
   ·rintro σ H2 ⟨c,total,number,t,rfl,rfl,_,_⟩
    exact ⟨_,rfl,one _,fun p hp=>q p _ hp⟩
abbrev s__law_bound : Stmt:=top 20
theorem sc__law_bound : FnScope ["_law_held"] ["_law_held"] (defScope s__law_bound):=⟨rfl,rfl,rfl,by decide +kernel,rfl,by decide +kernel,by decide +kernel⟩
theorem ok_lbound {f : Addr} {fd : FuncData} (F : Fun K "_law_bound" "_law_bound" s__law_bound f fd) (C__law_take : CallOk P w K mg base "_law_take" 1 ["_law_held","_law_many"] spTake) : FnOk P w K mg base CX0 2 f fd ["_law_held"] spBound:=by
 refine F.ok sc__law_bound (fun vs H Q E h=>?_) (fun cdv A outer s H vs Q E hr h=>?_)
 ·obtain ⟨z,rfl,_⟩:=h
  rfl
 obtain ⟨z,rfl,c,q⟩:=h
 refine' ⟨_,?hh,?rr⟩
 case hh=>(refine' pss_one ?hu;(case hu=>refine' ps_ret ?ht;(case ht=>refine' pe_ix ix_D ?hr ?hs (fun _ _=>rfl);(case hr=>refine' pe_lstD ?hn;(case hn=>refine' pa_c pe_int ?hm;(case hm=>refine' pa_c pe_int ?hl;(case hl=>refine' pa_c pe_int ?hk;(case hk=>refine' pa_c pe_int ?hj;(case hj=>refine' pa_c pe_int ?hi;(case hi=>refine' pa_c pe_int ?hh;(case hh=>refine' pa_c pe_int ?hg;(case hg=>refine' pa_c ?hf pa_nil;(case hf=>refine' pe_op op_add pe_int ?he;(case he=>refine' pe_cl C__law_take hr ?hc rfl ?hd;(case hc=>refine' pa_c (pv 0) ?hb;(case hb=>refine' pa_c pe_int pa_nil));(case hd=>decide))))))))))));(case hs=>refine' pe_cl C__law_take hr ?hp rfl ?hq;(case hp=>refine' pa_c (pv 0) ?ho;(case ho=>refine' pa_c pe_int pa_nil));(case hq=>decide)))))
 refine ⟨_,rfl,z,99,rfl,c,by decide,by decide,fun i H1 i0 i1 s1=>?_⟩
 refine ⟨_,_,rfl,rfl,z,[.int 1,.int 1,.int 2,.int 2,.int 3,.int 5,.int 99,.int (1 + i)],⟨_,_,rfl,rfl,_,_,rfl,rfl,_,_,rfl,rfl,_,_,rfl,rfl,_,_,rfl,rfl,_,_,rfl,rfl,_,_,rfl,rfl,_,_,rfl,rfl,rfl⟩,(by show 8 <= 1000;decide),s1.cz,fun v H2 s2 f2=>?_⟩
 refine ⟨_,rfl,z,8,rfl,s2.cz,by decide,by decide,fun k H3 k0 k1 s3=>?_⟩
 obtain ⟨d,hd,md⟩:=get_in (xs:=[PyData.int 1,.int 1,.int 2,.int 2,.int 3,.int 5,.int 99,.int (1 + i)]) k0 (by show k < 8;exact k1)
 refine ⟨z,_,k,d,.inr (f2.stp s3),rfl,k0,hd,fun v fv=>?_⟩
 obtain ⟨j,rfl,j1,j2⟩ : ∃ j : Int,d = .int j/\1 <= j/\j <= 99:=by
  simp only [List.mem_cons,List.not_mem_nil,or_false] at md
  rcases md with rfl | rfl | rfl | rfl | rfl | rfl | rfl | rfl <;> exact ⟨_,rfl,by omega,by omega⟩
 obtain rfl : v = .int j:=fv
 exact q j H3 j1 j2 ((s1.trans s2).trans s3)
abbrev s__law_words : Stmt:=top 19
theorem sc__law_words : FnScope ["_law_held","_law_many","_law_letters","_law_word","_law_at","_law_start","_law_signs","_law_ahead","_law_behind","_law_turned","_law_found"] ["_law_held","_law_many"] (defScope s__law_words):=⟨rfl,rfl,rfl,by decide +kernel,rfl,by decide +kernel,by decide +kernel⟩
theorem ok_words {f : Addr} {fd : FuncData} (F : Fun K "_law_words" "_law_words" s__law_words f fd) (T : Txt K mg) (C__law_take : CallOk P w K mg base "_law_take" 1 ["_law_held","_law_many"] spTake) : FnOk P w K mg base CX0 2 f fd ["_law_held","_law_many"] spWordsN:=by
 refine F.ok sc__law_words (fun vs H Q E h=>?_) (fun cdv A outer s H vs Q E hr h=>?_)
 ·obtain ⟨z,m,rfl,_⟩:=h
  rfl
 obtain ⟨z,many,rfl,my0,my52,c,q⟩:=h
 refine' ⟨_,?hh,?rr⟩
 case hh=>(refine' pss_cons ?hFb ?hGb;(case hFb=>refine' ps_set sc__law_words.nd (ixAt 2) (Or.inr rfl) pe_str);(case hGb=>refine' pss_cons ?hDb ?hEb;(case hDb=>refine' ps_set sc__law_words.nd (ixAt 3) (Or.inl rfl) ?hw;(case hw=>refine' pe_bm PySem.F.plainAttrs_str PySem.F.slot_str_join PySem.F.type_str_join mt_join pe_str ?hv;(case hv=>refine' pa_c ?hu pa_nil;(case hu=>refine' pe_lcomp rfl ?hm (compN ["_law_k","_law_held","_law_letters"] 1 [0,2]) ?hn ?ho ?hp ?hq ?hr ?hs ?ht;(case hm=>exact ⟨rfl,by decide +kernel,by decide +kernel,(show ∀ y : Str × NameKind,y ∈ _->y.2 = NameKind.free->(defScope s__law_words).names.lookup y.1 = some .cell\/(defScope s__law_words).names.lookup y.1 = some .free from by decide +kernel)⟩);(case hn=>decide +kernel);(case ho=>decide);(case hp=>refine' pi_range1 rfl T.b_range ?hg;(case hg=>refine' pa_c ?hf pa_nil;(case hf=>refine' pe_op op_add pe_int ?he;(case he=>refine' pe_cl C__law_take hr ?hc rfl ?hd;(case hc=>refine' pa_c (pv 0) ?hb;(case hb=>refine' pa_c pe_int pa_nil));(case hd=>decide)))));(case hq=>intro _ _ _ _;refine' pg_name ?hh (ixAt 0) (Or.inl rfl) (Or.inr rfl);(case hh=>exact (show (["_law_k","_law_held","_law_letters"] : List Str).Nodup from by decide +kernel)));(case hr=>exact (gown_name (by decide)));(case hs=>intro _ _ _ _;exact pts_nil);(case ht=>intro _ _ _ _;refine' pe_ix ix_str (pv 2) ?hl (fun _ _=>rfl);(case hl=>refine' pe_cl C__law_take hr ?hj rfl ?hk;(case hj=>refine' pa_c (pv 1) ?hi;(case hi=>refine' pa_c pe_int pa_nil));(case hk=>decide)))))));(case hEb=>refine' pss_cons ?hBb ?hCb;(case hBb=>refine' ps_set sc__law_words.nd (ixAt 4) (Or.inl rfl) ?hC;(case hC=>refine' pe_cl C__law_take hr ?hA rfl ?hB;(case hA=>refine' pa_c (pv 0) ?hz;(case hz=>refine' pa_c ?hy pa_nil;(case hy=>refine' pe_callB call_len_str rfl T.b_len PySem.boot_len ?hx;(case hx=>refine' pa_c (pv 3) pa_nil))));(case hB=>decide)));(case hCb=>refine' pss_cons ?hzb ?hAb;(case hzb=>refine' ps_set sc__law_words.nd (ixAt 5) (Or.inl rfl) ?hG;(case hG=>refine' pe_cl C__law_take hr ?hE rfl ?hF;(case hE=>refine' pa_c (pv 0) ?hD;(case hD=>refine' pa_c pe_int pa_nil));(case hF=>decide)));(case hAb=>refine' pss_cons ?hxb ?hyb;(case hxb=>refine' ps_set sc__law_words.nd (ixAt 6) (Or.inl rfl) pe_str);(case hyb=>refine' pss_cons ?hvb ?hwb;(case hvb=>refine' ps_set sc__law_words.nd (ixAt 7) (Or.inr rfl) ?hI;(case hI=>refine' pe_slice sl_str (pv 3) po_none ?hH;(case hH=>refine' po_some (pv 4))));(case hwb=>refine' pss_cons ?htb ?hub;(case htb=>refine' ps_set sc__law_words.nd (ixAt 8) (Or.inr rfl) ?hL;(case hL=>refine' pe_slice sl_str (pv 3) ?hK po_none;(case hK=>refine' po_some ?hJ;(case hJ=>refine' pe_op op_add (pv 4) pe_int))));(case hub=>refine' pss_cons ?hrb ?hsb;(case hrb=>refine' ps_set sc__law_words.nd (ixAt 9) (Or.inl rfl) ?hQ;(case hQ=>refine' pe_op op_add_str ?hO ?hP;(case hO=>refine' pe_slice sl_str (pv 6) ?hM po_none;(case hM=>refine' po_some (pv 5)));(case hP=>refine' pe_slice sl_str (pv 6) po_none ?hN;(case hN=>refine' po_some (pv 5)))));(case hsb=>refine' pss_cons ?hpb ?hqb;(case hpb=>refine' ps_setC sc__law_words.nd (ixAt 10) (Or.inl rfl) rfl ?hT (compN ["_law_sign","_law_ahead","_law_behind"] 1 [7,8]) ?hU ?hV ?hW ?hX ?hY ?hZ ?hab;(case hT=>exact ⟨rfl,by decide +kernel,by decide +kernel,(show ∀ y : Str × NameKind,y ∈ _->y.2 = NameKind.free->(defScope s__law_words).names.lookup y.1 = some .cell\/(defScope s__law_words).names.lookup y.1 = some .free from by decide +kernel)⟩);(case hU=>decide +kernel);(case hV=>decide);(case hW=>refine' pi_str (pv 9));(case hX=>intro _ _ _ _;refine' pg_name ?hR (ixAt 0) (Or.inl rfl) (Or.inr rfl);(case hR=>exact (show (["_law_sign","_law_ahead","_law_behind"] : List Str).Nodup from by decide +kernel)));(case hY=>exact (gown_name (by decide)));(case hZ=>intro _ _ _ _;exact pts_nil);(case hab=>intro _ _ _ _;refine' pe_op op_add_str ?hS (pv 2);(case hS=>refine' pe_op op_add_str (pv 1) (pv 0))));(case hqb=>refine' pss_one ?hob;(case hob=>refine' ps_ret ?hnb;(case hnb=>refine' pe_slice sl_listD ?hlb po_none ?hmb;(case hlb=>refine' pe_op op_catLD (pv 10) ?hkb;(case hkb=>refine' pe_lcomp rfl ?hcb (compN ["_law_one"] 1 []) ?hdb ?heb ?hfb ?hgb ?hhb ?hib ?hjb;(case hcb=>exact ⟨rfl,by decide +kernel,by decide +kernel,(show ∀ y : Str × NameKind,y ∈ _->y.2 = NameKind.free->(defScope s__law_words).names.lookup y.1 = some .cell\/(defScope s__law_words).names.lookup y.1 = some .free from by decide +kernel)⟩);(case hdb=>decide +kernel);(case heb=>decide);(case hfb=>refine' pi_list (pv 10));(case hgb=>intro _ _ _ _;refine' pg_name ?hbb (ixAt 0) (Or.inl rfl) (Or.inr rfl);(case hbb=>exact (show (["_law_one"] : List Str).Nodup from by decide +kernel)));(case hhb=>exact (gown_name (by decide)));(case hib=>intro _ _ _ _;exact pts_nil);(case hjb=>intro _ _ _ _;refine' pe_op op_add_str (pv 0) pe_str)));(case hmb=>refine' po_some (pv 1))))))))))))))
 refine ⟨rfl,_,rfl,z,7,rfl,c,by decide,by decide,fun m H1 m0 m1 s1=>?_⟩
 refine ⟨_,_,rfl,rfl,_,rfl,by omega,by omega,lcomp_by0 yields_range (fun i xs H3=>Stp z H H3/\∃ l : List Nat,xs = (l.map fun c=>tx [c]).map V.str/\l.length = i/\∀ c ∈ l,97 <= c/\c <= 109) ⟨s1,[],rfl,rfl,by simp⟩ (fun _ _ _ _=>trivial) ?_ ?_⟩
 ·rintro i x xs H3 hx hi ⟨s3,l,rfl,hl,hc⟩
  rw [List.length_map,List.length_range] at hi
  have hi' : i < 8:=by omega
  refine ⟨_,rfl,_,rfl,z,13,rfl,s3.cz,by decide,by decide,fun k H4 k0 k1 s4=>?_⟩
  obtain ⟨c1,hc1,mc1⟩:=atI_in (xs:=(("abcdefghijklm" : Str)).cps.toList) (i:=k) k0 (by
   have : ((("abcdefghijklm" : Str)).cps.toList.length : Int) = 13:=by decide +kernel
   rw [this]
   exact k1)
  refine ⟨_,_,c1,rfl,rfl,line (by decide +kernel),hc1,?_,nx (by rw [List.length_map,List.length_range];exact hi) ⟨s3.trans s4,l ++ [c1],?_,by simp [hl],?_⟩⟩
  ·rw [List.length_map,List.length_map,hl]
   exact small1000 (by omega)
  ·rw [List.map_append,List.map_append]
   rfl
  ·intro y hm
   rcases List.mem_append.mp hm with hm | hm
   ·exact hc y hm
   ·simp only [List.mem_cons,List.not_mem_nil,or_false] at hm
    subst hm
    exact am_in _ mc1
 ·rintro xs H3 ⟨s3,l,rfl,hl,hc⟩ a ha
  rw [List.length_map,List.length_range] at hl
  have hl1 : 1 <= l.length:=by omega
  have hl7 : l.length <= 7:=by omega
  have s4 : Stp z H (upd H3 a (.lst ((l.map fun c=>tx [c]).map V.str))):=s3.trans (Stp.of s3.cz (Ext.new ha _))
  refine ⟨_,a,_,rfl,rfl,SqL.of upd_same,(by rw [map_len1,List.length_map,show (("" : Str)).length = 0 by decide +kernel];omega),?_⟩
  generalize upd H3 a (.lst ((l.map fun c=>tx [c]).map V.str)) = H4 at s4 ⊢
  generalize hj : Txt.join ("" : Str) (l.map fun c=>tx [c]) = wd
  rw [tx_join] at hj
  subst hj
  have hw : (tx l).length <= sizeLine:=line (by rw [tx_len];omega)
  refine ⟨_,rfl,_,rfl,_,rfl,hw,z,_,rfl,s4.cz,(by rw [tx_len];omega),(by rw [tx_len];omega),fun k H5 k0 k1 s5=>?_⟩
  rw [tx_len] at k1
  refine ⟨_,rfl,z,26,rfl,s5.cz,by decide,by decide,fun st H6 st0 st1 s6=>?_⟩
  have s06:=(s4.trans s5).trans s6
  refine ⟨_,rfl,_,rfl,_,rfl,_,rfl,hw,?_⟩
  generalize ha' : Txt.slice (tx l) none (some k) = ahead
  rw [tx_slice_to k0 (by omega)] at ha'
  subst ha'
  refine ⟨_,rfl,_,rfl,_,_,rfl,rfl,_,rfl,_,rfl,hw,?_⟩
  generalize hb' : Txt.slice (tx l) (some (k + 1)) none = behind
  rw [tx_slice_from (by omega) (by omega)] at hb'
  subst hb'
  have hz26 : (("abcdefghijklmnopqrstuvwxyz" : Str)).length <= sizeLine:=line (by decide +kernel)
  refine ⟨_,rfl,_,rfl,_,rfl,_,rfl,hz26,_,rfl,_,rfl,_,rfl,_,rfl,hz26,_,_,rfl,rfl,?_,?_⟩
  ·have h1:=Txt.slice_le ("abcdefghijklmnopqrstuvwxyz" : Str) (some st) none
   have h2:=Txt.slice_le ("abcdefghijklmnopqrstuvwxyz" : Str) none (some st)
   have h3 : (("abcdefghijklmnopqrstuvwxyz" : Str)).length = 26:=by decide +kernel
   exact line (by omega)
  generalize ht : Txt.slice ("abcdefghijklmnopqrstuvwxyz" : Str) (some st) none ++ Txt.slice ("abcdefghijklmnopqrstuvwxyz" : Str) none (some st) = turned
  rw [az_tx,tx_slice_from st0 (by show st <= 26;omega),tx_slice_to st0 (by show st <= 26;omega),tx_append] at ht
  subst ht
  have nodup:=az_turned st.toNat (by omega)
  have inaz : ∀ c ∈ azl.drop st.toNat ++ azl.take st.toNat,97 <= c/\c <= 122:=fun c hc=>by
   rcases List.mem_append.mp hc with h | h
   ·exact az_in c (List.mem_of_mem_drop h)
   ·exact az_in c (List.mem_of_mem_take h)
  have hlen : (azl.drop st.toNat ++ azl.take st.toNat).length = 26:=by
   rw [List.length_append,List.length_drop,List.length_take,show azl.length = 26 by decide]
   omega
  have hA : ∀ x ∈ l.take k.toNat,97 <= x/\x <= 109:=fun x hx=>hc x (List.mem_of_mem_take hx)
  have hB : ∀ x ∈ l.drop (k + 1).toNat,97 <= x/\x <= 109:=fun x hx=>hc x (List.mem_of_mem_drop hx)
  have hAB : (l.take k.toNat).length + (l.drop (k + 1).toNat).length <= 6:=by
   rw [List.length_take,List.length_drop]
   omega
  generalize l.take k.toNat = A' at hA hAB ⊢
  generalize l.drop (k + 1).toNat = B' at hB hAB ⊢
  generalize azl.drop st.toNat ++ azl.take st.toNat = S at nodup inaz hlen ⊢
  refine ⟨_,rfl,_,rfl,lcomp_by0 yields_str (fun i xs H7=>H7 = H6/\xs = (L2.namesOf A' B' (S.take i)).map V.str) ⟨rfl,rfl⟩ (fun _ _ _ _=>trivial) ?_ ?_⟩
  ·rintro i y xs H7 hy hi ⟨rfl,rfl⟩
   have hi2:=hi
   rw [sgV_tx] at hy
   rw [sgV_tx,List.length_map] at hi
   rw [List.getElem?_map,List.getElem?_eq_getElem hi] at hy
   obtain rfl:=Option.some.inj hy
   have l1 : ∀ c : Nat,(tx [c]).length = 1:=fun c=>tx_len _
   refine ⟨_,rfl,_,rfl,_,_,rfl,rfl,line (by rw [tx_len,l1];omega),_,rfl,_,_,rfl,rfl,line (by rw [Str.length_append,tx_len,l1,tx_len];omega),?_,nx hi2 ⟨rfl,?_⟩⟩
   ·rw [List.length_map]
    unfold L2.namesOf
    rw [List.length_map,List.length_take]
    exact small1000 (by omega)
   ·rw [tx_append,tx_append,List.append_assoc]
    unfold L2.namesOf
    rw [List.take_add_one,List.getElem?_eq_getElem hi,List.map_append,List.map_append]
    rfl
  ·rintro xs H7 ⟨rfl,rfl⟩ b hb
   have e7 : (sgV (tx S)).length = S.length:=by rw [sgV_tx,List.length_map]
   rw [e7,List.take_length]
   have e8 : Ext [] H7 (upd H7 b (.lst ((L2.namesOf A' B' S).map V.str))):=Ext.new hb _
   have s8 : Stp z H7 (upd H7 b (.lst ((L2.namesOf A' B' S).map V.str))):=Stp.of s06.cz e8
   have f8 : IsD z.ex (upd H7 b (.lst ((L2.namesOf A' B' S).map V.str))) (.list ((L2.namesOf A' B' S).map .str)) (.ref b):=⟨b,_,rfl,s06.cz.free hb,upd_same,IsDs.strs _⟩
   have hb8 : (upd H7 b (.lst ((L2.namesOf A' B' S).map V.str))) b = some (.lst ((L2.namesOf A' B' S).map V.str)):=upd_same
   generalize upd H7 b (.lst ((L2.namesOf A' B' S).map V.str)) = H8 at s8 f8 hb8 ⊢
   have hnl : (L2.namesOf A' B' S).length = 26:=by unfold L2.namesOf;rw [List.length_map,hlen]
   have hnn : ∀ x ∈ L2.namesOf A' B' S,x.length <= 8:=fun x hx=>by
    obtain ⟨y,_,rfl⟩:=List.mem_map.mp hx
    rw [tx_len,List.length_append,List.length_cons]
    omega
   have nd : (L2.namesOf A' B' S).Nodup:=names_nodup nodup
   have nms : ∀ x ∈ L2.namesOf A' B' S,nm x = true:=fun x hx=>by
    obtain ⟨y,hy,rfl⟩:=List.mem_map.mp hx
    exact name_ok (by omega) hA hB (inaz y hy)
   have ndz : (L2.namesOf A' B' S ++ (L2.namesOf A' B' S).map fun x=>x ++ ("z" : Str)).Nodup:=namesz_nodup nodup
   have nmz : ∀ x ∈ (L2.namesOf A' B' S).map (fun x=>x ++ ("z" : Str)),nm x = true:=fun x hx=>by
    obtain ⟨y,hy,rfl⟩:=List.mem_map.mp hx
    obtain ⟨u,hu,rfl⟩:=List.mem_map.mp hy
    exact name_okz (by omega) hA hB (inaz u hu)
   generalize L2.namesOf A' B' S = names at hnl hnn nd nms ndz nmz f8 hb8 ⊢
   refine ⟨_,rfl,_,rfl,b,rfl,⟨_,SqL.of hb8⟩,lcomp_by0 (yields_list (ys:=names.map V.str)) (fun i xs H9=>H9 = H8/\xs = ((names.take i).map fun x=>x ++ ("z" : Str)).map V.str) ⟨rfl,rfl⟩ (fun _ _ _ h=>by rw [h.1];exact SqL.of hb8) ?_ ?_⟩
   ·rintro i y xs H9 hy hi ⟨rfl,rfl⟩
    have hi2:=hi
    rw [List.length_map] at hi
    rw [List.getElem?_map,List.getElem?_eq_getElem hi] at hy
    obtain rfl:=Option.some.inj hy
    have hx:=hnn _ (List.getElem_mem hi)
    refine ⟨_,rfl,_,_,rfl,rfl,line (by rw [show (("z" : Str)).length = 1 by decide +kernel];omega),?_,nx hi2 ⟨rfl,?_⟩⟩
    ·rw [List.length_map,List.length_map,List.length_take]
     exact small1000 (by omega)
    ·rw [List.take_add_one,List.getElem?_eq_getElem hi,List.map_append,List.map_append]
     rfl
   ·rintro xs H9 ⟨rfl,rfl⟩ b2 hb2
    rw [List.length_map,List.take_length]
    have s9 : Stp z H9 (upd H9 b2 (.lst ((names.map fun x=>x ++ ("z" : Str)).map V.str))):=Stp.of s8.cz (Ext.new hb2 _)
    have f9 : IsD z.ex (upd H9 b2 (.lst ((names.map fun x=>x ++ ("z" : Str)).map V.str))) (.list ((names.map fun x=>x ++ ("z" : Str)).map .str)) (.ref b2):=⟨b2,_,rfl,s8.cz.free hb2,upd_same,IsDs.strs _⟩
    generalize upd H9 b2 (.lst ((names.map fun x=>x ++ ("z" : Str)).map V.str)) = H10 at s9 f9 ⊢
    refine ⟨z,_,_,f8.stp s9,f9,(by simp [hnl]),s9.cz,fun v H11 s11 f11=>?_⟩
    refine ⟨_,rfl,_,rfl,z,_,f11,s11.cz,fun v2 H12 s12 f12=>?_⟩
    rw [cut_to my0,<- List.map_append,<- List.map_take] at f12
    refine q _ v2 H12 ?_ (ndz.sublist (List.take_sublist _ _)) (fun x hx=>?_) ((((s06.trans s8).trans s9).trans s11).trans s12) f12
    ·rw [List.length_take,List.length_append,List.length_map,hnl]
     omega
    ·rcases List.mem_append.mp (List.mem_of_mem_take hx) with h | h
     ·exact nms x h
     ·exact nmz x h
end
end K08
end

section
set_option Elab.async false
set_option linter.all false
set_option maxRecDepth 100000
set_option maxHeartbeats 1000000
namespace L2
open PySem PySem.Spec PyProof.Rows
def nmD : PyData->Bool
 | .str x=>nm x
 | _=>false
def boundD : PyData->Bool
 | .int i=>decide (1 <= i) && decide (i <= 99)
 | _=>false
def tupD (d : PyData) (lo hi : Int) : Bool:=match d with
 | .tuple ds=>decide (lo <= (ds.length : Int)) && decide ((ds.length : Int) <= hi)
 | _=>false
def laneD : PyData->Bool
 | .tuple [n,b]=>nmD n && boundD b
 | _=>false
def wayOk (cnt : Int) : Int->List PyData->Bool
 | _,[]=>true
 | a,.int i :: r=>(decide (a < i) && decide (i < cnt)) && wayOk cnt i r
 | _,_ :: _=>false
def lenD : PyData->Int
 | .tuple ds=>ds.length
 | _=>0
def wayD (d : PyData) (cnt : Int) : Bool:=match d with
 | .tuple ds=>tupD d 1 cnt && wayOk cnt (-1) ds
 | _=>false
def boundsD (d : PyData) (many : Int) : Bool:=match d with
 | .tuple ds=>tupD d many many && ds.all boundD
 | _=>false
def kindD (cnt : Int) : PyData->Bool
 | .tuple [n,wy,bs]=>nmD n && (wayD wy cnt && boundsD bs (lenD wy))
 | _=>false
def firstD : PyData->Str
 | .tuple (.str x :: _)=>x
 | _=>""
def unlikeD (ds : List PyData) : Bool:=decide ((ds.map firstD).Nodup)
def lanesD (d : PyData) : Bool:=match d with
 | .tuple ds=>tupD d 1 6 && (ds.all laneD && unlikeD ds)
 | _=>false
def kindsD (d : PyData) (cnt : Int) : Bool:=match d with
 | .tuple ds=>tupD d 1 6 && (ds.all (kindD cnt) && unlikeD ds)
 | _=>false
def planD : PyData->Bool
 | .tuple [l,k]=>lanesD l && kindsD k (lenD l)
 | _=>false
theorem tup_len {ds : List PyData} {lo hi : Int} (c : tupD (.tuple ds) lo hi = true) : lo <= (ds.length : Int)/\(ds.length : Int) <= hi:=by
 have c' : (decide (lo <= (ds.length : Int)) && decide ((ds.length : Int) <= hi)) = true:=c
 rw [Bool.and_eq_true,decide_eq_true_eq,decide_eq_true_eq] at c'
 exact c'
theorem lane_form {d : PyData} (h : laneD d = true) : ∃ x b,d = .tuple [.str x,.int b]/\nm x = true/\1 <= b/\b <= 99:=by
 match d,h with
 | .tuple [n,b],h =>
  have h' : (nmD n && boundD b) = true:=h
  rw [Bool.and_eq_true] at h'
  match n,b,h' with
  | .str x,.int i,h' =>
   have h2 : (decide (1 <= i) && decide (i <= 99)) = true:=h'.2
   rw [Bool.and_eq_true,decide_eq_true_eq,decide_eq_true_eq] at h2
   exact ⟨x,i,rfl,h'.1,h2.1,h2.2⟩
structure GoodL (ls : List PyData) : Prop where
 one : 1 <= ls.length
 six : ls.length <= 6
 all : ∀ d ∈ ls,laneD d = true
 nd : (ls.map firstD).Nodup
theorem goodL {ls : List PyData} (h : lanesD (.tuple ls) = true) : GoodL ls:=by
 have h' : (tupD (.tuple ls) 1 6 && (ls.all laneD && unlikeD ls)) = true:=h
 rw [Bool.and_eq_true,Bool.and_eq_true] at h'
 have t:=tup_len h'.1
 exact ⟨by omega,by omega,List.all_eq_true.mp h'.2.1,of_decide_eq_true h'.2.2⟩
theorem way_mem {cnt : Int} : ∀ {ws : List PyData} {a : Int},wayOk cnt a ws = true->∀ d ∈ ws,∃ i,d = .int i/\a < i/\i < cnt
 | [],_,_=>by simp
 | .int j :: r,a,h=>by
  have h' : ((decide (a < j) && decide (j < cnt)) && wayOk cnt j r) = true:=h
  rw [Bool.and_eq_true,Bool.and_eq_true,decide_eq_true_eq,decide_eq_true_eq] at h'
  intro d hd
  rcases List.mem_cons.mp hd with rfl | hd
  ·exact ⟨j,rfl,h'.1.1,h'.1.2⟩
  ·obtain ⟨i,rfl,h1,h2⟩:=way_mem h'.2 d hd
   exact ⟨i,rfl,by omega,h2⟩
structure GoodK (n : Int) (x : Str) (ws bs : List PyData) : Prop where
 nmx : nm x = true
 one : 1 <= ws.length
 most : (ws.length : Int) <= n
 way : wayOk n (-1) ws = true
 len : bs.length = ws.length
 bds : ∀ d ∈ bs,boundD d = true
theorem kind_form {n : Int} {d : PyData} (h : kindD n d = true) : ∃ x ws bs,d = .tuple [.str x,.tuple ws,.tuple bs]/\GoodK n x ws bs:=by
 match d,h with
 | .tuple [nm1,w,b],h =>
  have h' : (nmD nm1 && (wayD w n && boundsD b (lenD w))) = true:=h
  rw [Bool.and_eq_true,Bool.and_eq_true] at h'
  match nm1,w,b,h' with
  | .str x,.tuple ws,.tuple bs,h' =>
   have h1 : (tupD (.tuple ws) 1 n && wayOk n (-1) ws) = true:=h'.2.1
   have h2 : (tupD (.tuple bs) (ws.length : Nat) (ws.length : Nat) && bs.all boundD) = true:=h'.2.2
   rw [Bool.and_eq_true] at h1 h2
   have t1:=tup_len h1.1
   have t2:=tup_len h2.1
   exact ⟨x,ws,bs,rfl,⟨h'.1,by omega,t1.2,h1.2,by omega,List.all_eq_true.mp h2.2⟩⟩
structure GoodP (ls ks : List PyData) : Prop where
 lanes : lanesD (.tuple ls) = true
 one : 1 <= ks.length
 six : ks.length <= 6
 all : ∀ d ∈ ks,kindD (ls.length : Nat) d = true
theorem plan_form {d : PyData} (h : planD d = true) : ∃ ls ks,d = .tuple [.tuple ls,.tuple ks]/\GoodP ls ks:=by
 match d,h with
 | .tuple [l,k],h =>
  have h' : (lanesD l && kindsD k (lenD l)) = true:=h
  rw [Bool.and_eq_true] at h'
  match l,k,h' with
  | .tuple ls,.tuple ks,h' =>
   have h2 : (tupD (.tuple ks) 1 6 && (ks.all (kindD (ls.length : Nat)) && unlikeD ks)) = true:=h'.2
   rw [Bool.and_eq_true,Bool.and_eq_true] at h2
   have t:=tup_len h2.1
   exact ⟨ls,ks,rfl,h'.1,by omega,by omega,List.all_eq_true.mp h2.2.1⟩
theorem kinds_nd {d : PyData} {ls ks : List PyData} (h : planD (.tuple [.tuple ls,.tuple ks]) = true) : (ks.map firstD).Nodup:=by
 have h' : (lanesD (.tuple ls) && kindsD (.tuple ks) (lenD (.tuple ls))) = true:=h
 rw [Bool.and_eq_true] at h'
 have h2 : (tupD (.tuple ks) 1 6 && (ks.all (kindD (ls.length : Nat)) && unlikeD ks)) = true:=h'.2
 rw [Bool.and_eq_true,Bool.and_eq_true] at h2
 exact of_decide_eq_true h2.2.2
theorem inL_one {c : Nat} (h : inL ⟨#[c]⟩ = true) : c < 1114112:=by
 unfold inL at h
 rw [PySem.StrLaws.found_one] at h
 have h1 : c ∈ az.cps.toList:=of_decide_eq_true h
 have h2 : ∀ x ∈ az.cps.toList,x < 1114112:=by decide +kernel
 exact h2 c h1
theorem nm_ok {x : Str} (h : nm x = true) : PySem.PyData.strOk x = true/\x.length <= 8:=by
 unfold nm at h
 split at h
 ·cases h
 ·rw [Bool.and_eq_true,Bool.and_eq_true,decide_eq_true_eq,decide_eq_true_eq] at h
  refine ⟨?_,by omega⟩
  unfold PySem.PyData.strOk
  rw [Array.all_eq_true']
  intro c hc
  have:=List.all_eq_true.mp h.2.2 ⟨#[c]⟩ (List.mem_map.mpr ⟨c,Array.mem_toList_iff.mpr hc,rfl⟩)
  exact decide_eq_true (inL_one this)
def Sh (n : Nat) (d : PyData) : Prop:=d.canLay0 = true/\d.depth <= n
theorem Sh.more {n m : Nat} {d : PyData} (h : Sh n d) (k : n <= m) : Sh m d:=⟨h.1,Nat.le_trans h.2 k⟩
theorem sh_all {n : Nat} : ∀ {ds : List PyData},(∀ d ∈ ds,Sh n d)->PyData.canLayAll0 ds = true/\PyData.depthAll ds <= n
 | [],_=>⟨rfl,Nat.zero_le _⟩
 | d :: ds,h=>by
  obtain ⟨a,b⟩:=h d List.mem_cons_self
  obtain ⟨c,e⟩:=sh_all fun x hx=>h x (List.mem_cons_of_mem _ hx)
  refine ⟨?_,?_⟩
  ·show (d.canLay0 && PyData.canLayAll0 ds) = true
   rw [a,c]
   rfl
  ·show max d.depth (PyData.depthAll ds) <= n
   omega
theorem Sh.tup {n : Nat} {ds : List PyData} (h : ∀ d ∈ ds,Sh n d) : Sh (n + 1) (.tuple ds):=by
 obtain ⟨a,b⟩:=sh_all h
 exact ⟨a,by show PyData.depthAll ds + 1 <= n + 1;omega⟩
theorem Sh.lst {n : Nat} {ds : List PyData} (h : ∀ d ∈ ds,Sh n d) : Sh (n + 1) (.list ds):=by
 obtain ⟨a,b⟩:=sh_all h
 exact ⟨a,by show PyData.depthAll ds + 1 <= n + 1;omega⟩
theorem Sh.shaped {n : Nat} {d : PyData} (h : Sh n d) (k : n <= 64:=by decide) : SeqAt.shaped d = true:=by
 unfold SeqAt.shaped
 rw [h.1,decide_eq_true (Nat.le_trans h.2 k)]
 rfl
theorem Sh.refl {n : Nat} {d : PyData} (h : Sh n d) : PyData.eqv d d = true:=SeqAt.eqv_refl d h.1
theorem sh_int (i : Int) : Sh 0 (.int i):=⟨rfl,Nat.le_refl _⟩
theorem sh_bool (b : Bool) : Sh 0 (.bool b):=⟨rfl,Nat.le_refl _⟩
theorem sh_nm {x : Str} (h : nm x = true) : Sh 0 (.str x):=⟨(nm_ok h).1,Nat.le_refl _⟩
structure PlG (p : Pl) : Prop where
 l1 : 1 <= p.ls.length
 l6 : p.ls.length <= 6
 k1 : 1 <= p.ks.length
 k6 : p.ks.length <= 6
 ln : ∀ l ∈ p.ls,nm l.1 = true/\1 <= l.2/\l.2 <= 99
 lnd : (p.ls.map (·.1)).Nodup
 kn : ∀ k ∈ p.ks,nm k.nm = true/\1 <= k.way.length/\k.way.length <= p.ls.length/\k.way.Pairwise (· < ·)/\(∀ i ∈ k.way,0 <= i/\i < p.n)/\k.bds.length = k.way.length/\∀ b ∈ k.bds,1 <= b/\b <= 99
 knd : (p.ks.map (·.nm)).Nodup
theorem all_of {α : Type} {f : α->PyData} {P : α->Prop} : ∀ {ds : List PyData},(∀ d ∈ ds,∃ a,d = f a/\P a)->∃ l : List α,ds = l.map f/\∀ a ∈ l,P a
 | [],_=>⟨[],rfl,fun _ z=>nomatch z⟩
 | d :: ds,h=>by
  obtain ⟨l,rfl,hl⟩:=all_of (ds:=ds) fun x hx=>h x (List.mem_cons_of_mem _ hx)
  obtain ⟨a,rfl,ha⟩:=h d List.mem_cons_self
  refine ⟨a :: l,rfl,fun x hx=>?_⟩
  rcases List.mem_cons.mp hx with rfl | hx
  ·exact ha
  ·exact hl x hx
theorem way_ints {n : Int} : ∀ {ws : List PyData} {a : Int},wayOk n a ws = true->∃ w : List Int,ws = w.map .int/\w.Pairwise (· < ·)/\∀ i ∈ w,a < i/\i < n
 | [],a,_=>⟨[],rfl,.nil,fun _ z=>nomatch z⟩
 | d :: ws,a,h=>by
  obtain ⟨i,rfl,h1,h2⟩:=way_mem h d List.mem_cons_self
  have h3 : wayOk n i ws = true:=by
   have h' : ((decide (a < i) && decide (i < n)) && wayOk n i ws) = true:=h
   rw [Bool.and_eq_true] at h'
   exact h'.2
  obtain ⟨w,rfl,hp,hw⟩:=way_ints h3
  refine ⟨i :: w,rfl,List.pairwise_cons.mpr ⟨fun x hx=>(hw x hx).1,hp⟩,fun x hx=>?_⟩
  rcases List.mem_cons.mp hx with rfl | hx
  ·exact ⟨h1,h2⟩
  ·have:=hw x hx
   omega
theorem bounds_ints : ∀ {bs : List PyData},(∀ d ∈ bs,boundD d = true)->∃ b : List Int,bs = b.map .int/\∀ i ∈ b,1 <= i/\i <= 99:=fun {bs} h=>all_of fun d hd=>by
 have:=h d hd
 match d,this with
 | .int i,z =>
  have z' : (decide (1 <= i) && decide (i <= 99)) = true:=z
  rw [Bool.and_eq_true,decide_eq_true_eq,decide_eq_true_eq] at z'
  exact ⟨i,rfl,z'⟩
theorem plan_pl {d : PyData} (h : planD d = true) : ∃ p : Pl,d = p.d/\PlG p:=by
 obtain ⟨ls,ks,rfl,g⟩:=plan_form h
 have gl:=goodL g.lanes
 have kd:=kinds_nd (d:=.tuple []) h
 obtain ⟨l,rfl,hl⟩:=all_of (f:=lnD) (P:=fun l=>nm l.1 = true/\1 <= l.2/\l.2 <= 99) (fun d hd=>by
  obtain ⟨x,b,rfl,h1⟩:=lane_form (gl.all d hd)
  exact ⟨(x,b),rfl,h1⟩)
 have hll : (l.map lnD).length = l.length:=List.length_map ..
 obtain ⟨k,rfl,hk⟩:=all_of (f:=Kd.d) (ds:=ks) (P:=fun k=>nm k.nm = true/\1 <= k.way.length/\k.way.length <= l.length/\k.way.Pairwise (· < ·)/\(∀ i ∈ k.way,0 <= i/\i < (l.length : Int))/\k.bds.length = k.way.length/\∀ b ∈ k.bds,1 <= b/\b <= 99) (fun d hd=>by
  obtain ⟨x,ws,bs,rfl,gk⟩:=kind_form (g.all d hd)
  rw [hll] at gk
  obtain ⟨w,rfl,hp,hw⟩:=way_ints gk.way
  obtain ⟨b,rfl,hb⟩:=bounds_ints gk.bds
  have e1:=gk.one
  have e2:=gk.most
  have e3:=gk.len
  rw [List.length_map] at e1 e2 e3
  rw [List.length_map] at e3
  exact ⟨⟨x,w,b⟩,rfl,gk.nmx,e1,(by show w.length <= l.length;omega),hp,fun i hi=>by have:=hw i hi;omega,e3,hb⟩)
 refine ⟨⟨l,k⟩,rfl,by have:=gl.one;rw [hll] at this;exact this,by have:=gl.six;rw [hll] at this;exact this,by have:=g.one;rw [List.length_map] at this;exact this,by have:=g.six;rw [List.length_map] at this;exact this,hl,?_,hk,?_⟩
 ·have:=gl.nd
  rw [List.map_map] at this
  exact this
 ·rw [List.map_map] at kd
  exact kd
theorem nm_len1000 {x : Str} (h : nm x = true) : x.length <= 1000:=Nat.le_trans (nm_ok h).2 (by decide)
theorem PlG.ok {p : Pl} (g : PlG p) : POk p where
 nl:=Nat.le_trans g.l6 (by decide)
 nk:=Nat.le_trans g.k6 (by decide)
 ln:=fun l hl=>nm_len1000 (g.ln l hl).1
 kw:=fun k hk=>by
  obtain ⟨h1,h2,h3,h4,h5,h6,h7⟩:=g.kn k hk
  exact ⟨by have:=g.l6;omega,h6,nm_len1000 h1,h5⟩
def spPlanG : Sp:=fun vs H Q _=>∃ z : Zn,vs = [.ref z.p]/\Cz z H/\∀ (p : Pl) (v : V) (H' : Hp),PlG p->Stp z H H'->IsD z.ex H' p.d v->Q v H'
end L2
end

section
set_option Elab.async false
set_option linter.all false
set_option maxRecDepth 100000
set_option maxHeartbeats 1000000
namespace K08
open PySem PySem.Spec L2 PyProof.Rows
theorem shaped_ints (w : List Int) : SeqAt.shaped (.list (w.map .int)) = true:=by
 have h1 : PyData.canLayAll0 (w.map .int) = true:=by
  induction w with
  | nil=>rfl
  | cons x r ih =>
   rw [List.map_cons]
   show (PyData.canLay0 (.int x) && PyData.canLayAll0 (r.map .int)) = true
   rw [ih]
   rfl
 have h2 : PyData.depthAll (w.map .int) = 0:=by
  induction w with
  | nil=>rfl
  | cons x r ih =>
   rw [List.map_cons]
   show max (PyData.depth (.int x)) (PyData.depthAll (r.map .int)) = 0
   rw [ih]
   ·rfl
   ·have h1' : (PyData.canLay0 (.int x) && PyData.canLayAll0 (r.map .int)) = true:=h1
    exact (Bool.and_eq_true_iff.mp h1').2
 show (PyData.canLayAll0 (w.map .int) && decide (PyData.depthAll (w.map .int) + 1 <= 64)) = true
 rw [h1,h2]
 rfl
theorem eqv_nil (w : List Int) : PyData.eqv (.list (w.map .int)) (.list []) = w.isEmpty:=by
 cases w <;> rfl
theorem way_ok {n : Int} : ∀ {w : List Int} {a : Int},w.Pairwise (· < ·)->(∀ x ∈ w,a < x/\x < n)->wayOk n a (w.map .int) = true
 | [],_,_,_=>rfl
 | x :: r,a,hp,hb=>by
  have h1:=hb x List.mem_cons_self
  rw [List.map_cons]
  show ((decide (a < x) && decide (x < n)) && wayOk n x (r.map .int)) = true
  rw [decide_eq_true h1.1,decide_eq_true h1.2,way_ok (w:=r) (a:=x) (List.pairwise_cons.mp hp).2 fun y hy=>⟨(List.pairwise_cons.mp hp).1 y hy,(hb y (List.mem_cons_of_mem _ hy)).2⟩]
  rfl
theorem bounds_ok {bs : List Int} (h : ∀ x ∈ bs,1 <= x/\x <= 99) : (bs.map PyData.int).all boundD = true:=by
 rw [List.all_eq_true]
 intro d hd
 obtain ⟨x,hx,rfl⟩:=List.mem_map.mp hd
 have:=h x hx
 show (decide _ && decide _) = true
 rw [decide_eq_true this.1,decide_eq_true this.2]
 rfl
theorem kind_ok {n : Nat} {x : Str} {w bs : List Int} (hx : nm x = true) (h0 : w ≠ []) (hn : w.length <= n) (hp : w.Pairwise (· < ·)) (hb : ∀ x ∈ w,0 <= x/\x < (n : Int)) (hl : bs.length = w.length) (hbb : ∀ x ∈ bs,1 <= x/\x <= 99) : kindD n (.tuple [.str x,.tuple (w.map .int),.tuple (bs.map .int)]) = true:=by
 have l0 : 1 <= w.length:=by cases w with | nil=>exact absurd rfl h0 | cons _ _=>simp
 show (nm x && ((tupD (.tuple (w.map .int)) 1 n && wayOk n (-1) (w.map .int)) && (tupD (.tuple (bs.map .int)) ((w.map PyData.int).length : Nat) ((w.map PyData.int).length : Nat) && (bs.map PyData.int).all boundD))) = true
 have t1 : tupD (.tuple (w.map .int)) 1 n = true:=by
  show (decide ((1 : Int) <= ((w.map PyData.int).length : Nat)) && decide ((((w.map PyData.int).length : Nat) : Int) <= n)) = true
  rw [List.length_map,decide_eq_true (by omega),decide_eq_true (by omega)]
  rfl
 have t2 : tupD (.tuple (bs.map .int)) ((w.map PyData.int).length : Nat) ((w.map PyData.int).length : Nat) = true:=by
  show (decide ((((w.map PyData.int).length : Nat) : Int) <= ((bs.map PyData.int).length : Nat)) && decide ((((bs.map PyData.int).length : Nat) : Int) <= ((w.map PyData.int).length : Nat))) = true
  rw [List.length_map,List.length_map,hl,decide_eq_true (by omega)]
  rfl
 rw [hx,t1,t2,way_ok hp (fun y hy=>⟨by have:=hb y hy;omega,(hb y hy).2⟩),bounds_ok hbb]
 rfl
theorem plan_ok {ls ks : List PyData} (l1 : 1 <= ls.length) (l6 : ls.length <= 6) (k1 : 1 <= ks.length) (k6 : ks.length <= 6) (hl : ∀ d ∈ ls,laneD d = true) (hk : ∀ d ∈ ks,kindD (ls.length : Nat) d = true) (nl : (ls.map firstD).Nodup) (nk : (ks.map firstD).Nodup) : planD (.tuple [.tuple ls,.tuple ks]) = true:=by
 show ((tupD (.tuple ls) 1 6 && (ls.all laneD && unlikeD ls)) && (tupD (.tuple ks) 1 6 && (ks.all (kindD (ls.length : Nat)) && unlikeD ks))) = true
 have t : ∀ {ds : List PyData},1 <= ds.length->ds.length <= 6->tupD (.tuple ds) 1 6 = true:=fun {ds} h1 h2=>by
  show (decide ((1 : Int) <= (ds.length : Nat)) && decide (((ds.length : Nat) : Int) <= 6)) = true
  rw [decide_eq_true (by omega),decide_eq_true (by omega)]
  rfl
 rw [t l1 l6,t k1 k6,List.all_eq_true.mpr hl,List.all_eq_true.mpr hk,show unlikeD ls = true from decide_eq_true nl,show unlikeD ks = true from decide_eq_true nk]
 rfl
section
variable {P : Program} {w : World} {K : PySem.W.Frag} {mg : Str->Option Value} {base : Heap}
abbrev s__law_plan : Stmt:=top 21
theorem sc__law_plan : FnScope ["_law_held","_law_names","_law_lanes","_law_k","_law_shift","_law_kinds","_law_way","_law_bounds"] ["_law_held"] (defScope s__law_plan):=⟨rfl,rfl,rfl,by decide +kernel,rfl,by decide +kernel,by decide +kernel⟩
theorem ok_lplan {f : Addr} {fd : FuncData} (F : Fun K "_law_plan" "_law_plan" s__law_plan f fd) (T : Txt K mg) (C__law_take : CallOk P w K mg base "_law_take" 1 ["_law_held","_law_many"] spTake) (C__law_words : CallOk P w K mg base "_law_words" 2 ["_law_held","_law_many"] spWordsN) (C__law_bound : CallOk P w K mg base "_law_bound" 2 ["_law_held"] spBound) : FnOk P w K mg base CX0 3 f fd ["_law_held"] spPlanG:=by
 refine F.ok sc__law_plan (fun vs H Q E h=>?_) (fun cdv A outer s H vs Q E hr h=>?_)
 ·obtain ⟨z,rfl,_⟩:=h
  rfl
 obtain ⟨z,rfl,c,q⟩:=h
 have hu:=hr.units
 refine' ⟨_,?hh,?rr⟩
 case hh=>(refine' pss_cons ?hnc ?hoc;(case hnc=>refine' ps_set sc__law_plan.nd (ixAt 1) (Or.inl rfl) ?he;(case he=>refine' pe_cl C__law_words hr ?hc rfl ?hd;(case hc=>refine' pa_c (pv 0) ?hb;(case hb=>refine' pa_c pe_int pa_nil));(case hd=>decide)));(case hoc=>refine' pss_cons ?hlc ?hmc;(case hlc=>refine' ps_set sc__law_plan.nd (ixAt 2) (Or.inl rfl) ?hf;(case hf=>refine' pe_lst pa_nil));(case hmc=>refine' pss_cons ?hjc ?hkc;(case hjc=>refine' ps_for PassesOwn.never rfl ?hw ?hx ?hy;(case hw=>refine' pi_range1 rfl T.b_range ?hl;(case hl=>refine' pa_c ?hk pa_nil;(case hk=>refine' pe_op op_add pe_int ?hj;(case hj=>refine' pe_cl C__law_take hr ?hh rfl ?hi;(case hh=>refine' pa_c (pv 0) ?hg;(case hg=>refine' pa_c pe_int pa_nil));(case hi=>decide)))));(case hx=>refine' pg_name sc__law_plan.nd (ixAt 3) (Or.inl rfl) (Or.inl rfl));(case hy=>refine' pss_one ?hv;(case hv=>refine' ps_expr ?hu;(case hu=>refine' pe_bm PySem.F.plainAttrs_list PySem.F.slot_list_append PySem.F.type_list_append mt_append (pv 2) ?ht;(case ht=>refine' pa_c ?hs pa_nil;(case hs=>refine' pe_tupD ?hr;(case hr=>refine' pa_c ?hp ?hq;(case hp=>refine' pe_ix ix_D (pv 1) (pv 3) (fun _ _=>rfl));(case hq=>refine' pa_c ?ho pa_nil;(case ho=>refine' pe_cl C__law_bound hr ?hm rfl ?hn;(case hm=>refine' pa_c (pv 0) pa_nil);(case hn=>decide))))))))));(case hkc=>refine' pss_cons ?hhc ?hic;(case hhc=>refine' ps_set sc__law_plan.nd (ixAt 4) (Or.inl rfl) ?hC;(case hC=>refine' pe_cl C__law_take hr ?hA rfl ?hB;(case hA=>refine' pa_c (pv 0) ?hz;(case hz=>refine' pa_c pe_int pa_nil));(case hB=>decide)));(case hic=>refine' pss_cons ?hfc ?hgc;(case hfc=>refine' ps_set sc__law_plan.nd (ixAt 5) (Or.inl rfl) ?hD;(case hD=>refine' pe_lst pa_nil));(case hgc=>refine' pss_cons ?hdc ?hec;(case hdc=>refine' ps_for PassesOwn.never rfl ?hSb ?hTb ?hUb;(case hSb=>refine' pi_range1 rfl T.b_range ?hJ;(case hJ=>refine' pa_c ?hI pa_nil;(case hI=>refine' pe_op op_add pe_int ?hH;(case hH=>refine' pe_cl C__law_take hr ?hF rfl ?hG;(case hF=>refine' pa_c (pv 0) ?hE;(case hE=>refine' pa_c pe_int pa_nil));(case hG=>decide)))));(case hTb=>refine' pg_name sc__law_plan.nd (ixAt 3) (Or.inl rfl) (Or.inl rfl));(case hUb=>refine' pss_cons ?hQb ?hRb;(case hQb=>refine' ps_setC sc__law_plan.nd (ixAt 6) (Or.inl rfl) rfl ?hT (compN ["_law_lane_here","_law_held"] 1 [0]) ?hU ?hV ?hW ?hX ?hY ?hZ ?hab;(case hT=>exact ⟨rfl,by decide +kernel,by decide +kernel,(show ∀ y : Str × NameKind,y ∈ _->y.2 = NameKind.free->(defScope s__law_plan).names.lookup y.1 = some .cell\/(defScope s__law_plan).names.lookup y.1 = some .free from by decide +kernel)⟩);(case hU=>decide +kernel);(case hV=>decide);(case hW=>refine' pi_range1 rfl T.b_range ?hM;(case hM=>refine' pa_c ?hL pa_nil;(case hL=>refine' pe_callB call_len_seq rfl T.b_len PySem.boot_len ?hK;(case hK=>refine' pa_c (pv 2) pa_nil))));(case hX=>intro _ _ _ _;refine' pg_name ?hN (ixAt 0) (Or.inl rfl) (Or.inr rfl);(case hN=>exact (show (["_law_lane_here","_law_held"] : List Str).Nodup from by decide +kernel)));(case hY=>exact (gown_name (by decide)));(case hZ=>intro _ _ _ _;refine' pts_one ?hS;(case hS=>refine' pt_cmpR op_gt ?hR pe_int (nomark _);(case hR=>refine' pe_cl C__law_take hr ?hP rfl ?hQ;(case hP=>refine' pa_c (pv 1) ?hO;(case hO=>refine' pa_c pe_int pa_nil));(case hQ=>decide))));(case hab=>intro _ _ _ _;exact (pv 0)));(case hRb=>refine' pss_cons ?hOb ?hPb;(case hOb=>refine' ps_if ?hlb ?hmb pss_nil;(case hlb=>refine' pt_cmpR (op_eqD hu) (pv 6) ?hbb (nomark _);(case hbb=>refine' pe_lstD pa_nil));(case hmb=>refine' pss_one ?hkb;(case hkb=>refine' ps_set sc__law_plan.nd (ixAt 6) (Or.inl rfl) ?hjb;(case hjb=>refine' pe_lstD ?hib;(case hib=>refine' pa_c ?hhb pa_nil;(case hhb=>refine' pe_cl C__law_take hr ?hfb rfl ?hgb;(case hfb=>refine' pa_c (pv 0) ?heb;(case heb=>refine' pa_c ?hdb pa_nil;(case hdb=>refine' pe_callB call_len_seq rfl T.b_len PySem.boot_len ?hcb;(case hcb=>refine' pa_c (pv 2) pa_nil))));(case hgb=>decide)))))));(case hPb=>refine' pss_cons ?hMb ?hNb;(case hMb=>refine' ps_set sc__law_plan.nd (ixAt 7) (Or.inl rfl) ?hAb;(case hAb=>refine' pe_callTy call_tupleD rfl T.b_tuple boot_ttuple ?hzb;(case hzb=>refine' pa_c ?hyb pa_nil;(case hyb=>refine' pe_lcomp rfl ?hqb (compN ["_law_lane_here","_law_held"] 1 [0]) ?hrb ?hsb ?htb ?hub ?hvb ?hwb ?hxb;(case hqb=>exact ⟨rfl,by decide +kernel,by decide +kernel,(show ∀ y : Str × NameKind,y ∈ _->y.2 = NameKind.free->(defScope s__law_plan).names.lookup y.1 = some .cell\/(defScope s__law_plan).names.lookup y.1 = some .free from by decide +kernel)⟩);(case hrb=>decide +kernel);(case hsb=>decide);(case htb=>refine' pi_list (pv 6));(case hub=>intro _ _ _ _;refine' pg_name ?hnb (ixAt 0) (Or.inl rfl) (Or.inr rfl);(case hnb=>exact (show (["_law_lane_here","_law_held"] : List Str).Nodup from by decide +kernel)));(case hvb=>exact (gown_name (by decide)));(case hwb=>intro _ _ _ _;exact pts_nil);(case hxb=>intro _ _ _ _;refine' pe_cl C__law_bound hr ?hob rfl ?hpb;(case hob=>refine' pa_c (pv 1) pa_nil);(case hpb=>decide))))));(case hNb=>refine' pss_one ?hLb;(case hLb=>refine' ps_expr ?hKb;(case hKb=>refine' pe_bm PySem.F.plainAttrs_list PySem.F.slot_list_append PySem.F.type_list_append mt_append (pv 5) ?hJb;(case hJb=>refine' pa_c ?hIb pa_nil;(case hIb=>refine' pe_tupD ?hHb;(case hHb=>refine' pa_c ?hFb ?hGb;(case hFb=>refine' pe_ix ix_D (pv 1) ?hBb (fun _ _=>rfl);(case hBb=>refine' pe_op op_add (pv 3) (pv 4)));(case hGb=>refine' pa_c ?hDb ?hEb;(case hDb=>refine' pe_callTy call_tupleD rfl T.b_tuple boot_ttuple ?hCb;(case hCb=>refine' pa_c (pv 6) pa_nil));(case hEb=>refine' pa_c (pv 7) pa_nil))))))))))));(case hec=>refine' pss_one ?hcc;(case hcc=>refine' ps_ret ?hbc;(case hbc=>refine' pe_tupD ?hac;(case hac=>refine' pa_c ?hYb ?hZb;(case hYb=>refine' pe_callTy call_tuple_of rfl T.b_tuple boot_ttuple ?hVb;(case hVb=>refine' pa_c (pv 2) pa_nil));(case hZb=>refine' pa_c ?hXb pa_nil;(case hXb=>refine' pe_callTy call_tuple_of rfl T.b_tuple boot_ttuple ?hWb;(case hWb=>refine' pa_c (pv 5) pa_nil)))))))))))))
 refine ⟨_,rfl,z,12,rfl,by decide,by decide,c,fun ns v1 H1 hn' hnd hm s1 f1=>?_⟩
 have hn : ns.length = 12:=by omega
 refine ⟨(by show 0 <= sizeLine;decide),fun l hl=>?_⟩
 have lp : l ≠ z.p:=fun e=>by
  obtain ⟨n,h⟩:=s1.cz.held
  rw [e,h] at hl
  cases hl
 have nlp : l ∉ [z.p]:=fun h=>lp (List.mem_singleton.mp h)
 have a2 : Stl z l H1 (upd H1 l (.lst [])):=Stl.new s1.cz hl
 have hl2 : (upd H1 l (.lst [])) l = some (.lst []):=upd_same
 have f1' : IsD (z.with l).ex H1 (.list (ns.map .str)) v1:=IsD.more hl f1
 generalize upd H1 l (.lst []) = H2 at a2 hl2 ⊢
 refine ⟨_,rfl,z.with l,6,rfl,a2.cz,by decide,by decide,fun m H3 m0 m1 s3=>?_⟩
 have a3:=a2.stp s3
 have hl3:=s3.ext.lst nlp hl2
 refine ⟨_,_,rfl,rfl,_,rfl,by omega,by omega,for_range (n:=(1 + m).toNat) (fun i σ H4=>∃ (ls : List PyData) (xs : List V) (kk : Option V),σ = [some (V.ref z.p),some v1,some (V.ref l),kk,none,none,none,none]/\Stl z l H1 H4/\H4 l = some (.lst xs)/\IsDs (z.with l).ex H4 ls xs/\ls.length = i/\(∀ d ∈ ls,laneD d = true)/\ls.map firstD = ns.take i)
  ⟨[],[],_,rfl,a3,hl3,rfl,rfl,by simp,rfl⟩ ?_ ?_⟩
 ·rintro i σ H4 hi ⟨ls,xs,kk,rfl,a4,hx,hds,hll,hla,hfi⟩
  have hin : i < ns.length:=by omega
  refine ⟨_,rfl,.inl ⟨rfl,xs,SqL.of hx⟩,?_⟩
  refine ⟨_,rfl,_,rfl,z.with l,_,_,.str ns[i],.inr (f1'.stl a4),rfl,by omega,?_,fun vn fvn=>?_⟩
  ·rw [show ((0 : Int) + (i : Nat)).toNat = i by omega,List.getElem?_map,List.getElem?_eq_getElem hin]
   rfl
  refine ⟨_,rfl,z.with l,rfl,a4.cz,fun b H5 b1 b2 s5=>?_⟩
  refine ⟨z.with l,[.str ns[i],.int b],⟨_,_,rfl,fvn.stp s5,_,_,rfl,rfl,rfl⟩,(by show 2 <= 1000;decide),s5.cz,fun v6 H6 s6 f6=>?_⟩
  have s56:=s5.trans s6
  refine ⟨l,xs,v6,rfl,rfl,s56.ext.lst nlp hx,?_,?_⟩
  ·rw [hds.length,hll]
   exact small1000 (by omega)
  refine ⟨ls ++ [.tuple [.str ns[i],.int b]],xs ++ [v6],_,rfl,(a4.stp s56).put lp,upd_same,?_,by rw [List.length_append,hll];rfl,?_,?_⟩
  ·exact put_ext List.mem_cons_self (IsDs.append (hds.stp s56) ⟨v6,_,rfl,f6,rfl⟩)
  ·intro d hd
   rcases List.mem_append.mp hd with h | h
   ·exact hla d h
   ·rw [List.mem_singleton.mp h]
    show (nm ns[i] && (decide (1 <= b) && decide (b <= 99))) = true
    rw [hm _ (List.getElem_mem hin),decide_eq_true b1,decide_eq_true b2]
    rfl
  ·rw [List.map_append,hfi,List.take_add_one,List.getElem?_eq_getElem hin]
   rfl
 rintro σ H4 ⟨ls,xs,kk,rfl,a4,hx,hds,hll,hla,hfi⟩
 have hl1 : 1 <= ls.length:=by omega
 have hl6 : ls.length <= 6:=by omega
 refine ⟨_,rfl,z.with l,7,rfl,a4.cz,by decide,by decide,fun sh H5 sh0 sh1 s5=>?_⟩
 have a5:=a4.stp s5
 have hx5:=s5.ext.lst nlp hx
 have hds5:=hds.stp s5
 refine ⟨(by show 0 <= sizeLine;decide),fun l2 hl2=>?_⟩
 have l2p : l2 ≠ (z.with l).p:=fun e=>by
  obtain ⟨n,h⟩:=s5.cz.held
  rw [e,h] at hl2
  cases hl2
 have nl2p : l2 ∉ [((z.with l).with l2).p]:=fun h=>l2p (List.mem_singleton.mp h)
 have ll2 : l ≠ l2:=fun e=>by
  rw [<- e,hx5] at hl2
  cases hl2
 have nll : l ∉ [l2,(z.with l).p]:=fun h=>by
  rcases List.mem_cons.mp h with h | h
  ·exact ll2 h
  ·exact lp (List.mem_singleton.mp h)
 have a6 : Stl (z.with l) l2 H5 (upd H5 l2 (.lst [])):=Stl.new s5.cz hl2
 have hl6' : (upd H5 l2 (.lst [])) l2 = some (.lst []):=upd_same
 have fn : IsD ((z.with l).with l2).ex H5 (.list (ns.map .str)) v1:=IsD.more hl2 (f1'.stl a5)
 have hdsb : IsDs ((z.with l).with l2).ex H5 ls xs:=IsDs.more hl2 hds5
 generalize upd H5 l2 (.lst []) = H6 at a6 hl6' ⊢
 refine ⟨_,rfl,(z.with l).with l2,6,rfl,a6.cz,by decide,by decide,fun m2 H7 m20 m21 s7=>?_⟩
 have a7':=a6.stp s7
 have hl7:=s7.ext.lst nl2p hl6'
 refine ⟨_,_,rfl,rfl,_,rfl,by omega,by omega,for_range (n:=(1 + m2).toNat) (fun i σ H8=>∃ (ks : List PyData) (ys : List V) (kk wy bd : Option V),σ = [some (V.ref z.p),some v1,some (V.ref l),kk,some (V.int sh),some (V.ref l2),wy,bd]/\Stl (z.with l) l2 H5 H8/\H8 l2 = some (.lst ys)/\IsDs ((z.with l).with l2).ex H8 ks ys/\ks.length = i/\(∀ d ∈ ks,kindD (ls.length : Nat) d = true)/\ks.map firstD = (ns.drop sh.toNat).take i)
  ⟨[],[],_,_,_,rfl,a7',hl7,rfl,rfl,by simp,rfl⟩ ?_ ?_⟩
 ·rintro i σ H8 hi ⟨ks,ys,kk,wy,bd,rfl,a7,hy,hky,hkl,hkk,hkf⟩
  have hi6 : i < 6:=by omega
  have hx8 : H8 l = some (.lst xs):=a7.ext.lst nll hx5
  have exs:=hds.length
  refine ⟨_,rfl,l,xs,rfl,.inl (SqL.of hx8),_,rfl,by omega,by omega,?_⟩
  refine lcomp_by yields_range (fun j us H9=>Stp ((z.with l).with l2) H8 H9/\∃ w : List Int,us = w.map V.int/\w.length <= j/\w.Pairwise (· < ·)/\∀ x ∈ w,0 <= x/\x < (j : Nat)) ⟨Stp.refl a7.cz,[],rfl,by simp,List.Pairwise.nil,by simp⟩ (fun _ _ _ _=>trivial) ?_ ?_
  ·rintro j x us H9 hx9 hj ⟨s9,w,rfl,hwl,hwp,hwb⟩
   have hj2:=hj
   rw [List.length_map,List.length_range] at hj
   rw [List.getElem?_map,List.getElem?_range hj] at hx9
   obtain rfl:=Option.some.inj hx9
   refine ⟨_,rfl,(z.with l).with l2,3,rfl,s9.cz,by decide,by decide,fun t H10 t0 t1 s10=>?_⟩
   refine ⟨_,_,rfl,rfl,_,rfl,?_⟩
   refine ite2 (fun c1=>?_) (fun c1=>?_)
   ·refine ⟨_,rfl,?_,nx hj2 ⟨s9.trans s10,w ++ [(0 : Int) + (j : Nat)],by rw [List.map_append];rfl,by simp;omega,?_,?_⟩⟩
    ·rw [List.length_map]
     exact small1000 (by omega)
    ·rw [List.pairwise_append]
     refine ⟨hwp,by simp,fun a ha b hb=>?_⟩
     rw [List.mem_singleton.mp hb]
     have:=hwb a ha
     omega
    ·intro x hx
     rcases List.mem_append.mp hx with h | h
     ·have:=hwb x h
      omega
     ·rw [List.mem_singleton.mp h]
      omega
   ·exact nx hj2 ⟨s9.trans s10,w,rfl,by omega,hwp,fun x hx=>by have:=hwb x hx;omega⟩
  rintro us H9 ⟨s9,w,rfl,hwl,hwp,hwb⟩ a ha
  rw [List.length_map,List.length_range] at hwl hwb
  have hwn : w.length <= ls.length:=by omega
  replace hwb : ∀ x ∈ w,0 <= x/\x < (ls.length : Nat):=fun x hx=>by have:=hwb x hx;omega
  have s10 : Stp ((z.with l).with l2) H9 (upd H9 a (.lst (w.map V.int))):=Stp.of s9.cz (Ext.new ha _)
  have f10 : IsD ((z.with l).with l2).ex (upd H9 a (.lst (w.map V.int))) (.list (w.map .int)) (.ref a):=⟨a,_,rfl,s9.cz.free ha,upd_same,IsDs.ints _⟩
  generalize upd H9 a (.lst (w.map V.int)) = H10 at s10 f10 ⊢
  refine ⟨_,rfl,(z.with l).with l2,[],rfl,(by show 0 <= 1000;decide),s10.cz,fun v11 H11 s11 f11=>?_⟩
  refine ⟨.list (w.map .int),.list [],IsD.less (by simp) (f10.stp s11),IsD.less (by simp) f11,shaped_ints w,rfl,_,rfl,?_⟩
  rw [eqv_nil]
  have sw0:=(s9.trans s10).trans s11
  have fw0:=f10.stp s11
  refine ite2 (fun c1=>?_) (fun c1=>?_)
  ·have hx11 : H11 l = some (.lst xs):=sw0.ext.lst nlp hx8
   refine ⟨_,rfl,_,rfl,l,xs,rfl,.inl (SqL.of hx11),(z.with l).with l2,_,rfl,s11.cz,by omega,by omega,fun t H12 t0 t1 s12=>?_⟩
   refine ⟨(z.with l).with l2,[.int t],⟨_,_,rfl,rfl,rfl⟩,(by show 1 <= 1000;decide),s12.cz,fun vw Hw s13 fw=>?_⟩
   have sw:=(sw0.trans s12).trans s13
   replace fw : IsD ((z.with l).with l2).ex Hw (.list (([t] : List Int).map .int)) vw:=fw
   have hw0 : ([t] : List Int) ≠ []:=by simp
   replace hwn : ([t] : List Int).length <= ls.length:=hl1
   replace hwp : ([t] : List Int).Pairwise (· < ·):=by simp
   replace hwb : ∀ x ∈ ([t] : List Int),0 <= x/\x < (ls.length : Nat):=fun x hx=>by rw [List.mem_singleton.mp hx];omega
   clear fw0 f10 f11
   generalize ([t] : List Int) = w at fw hw0 hwn hwp hwb
   obtain ⟨b,xw,rfl,nb,hb,hxw⟩:=fw
   obtain rfl:=IsDs.ints_of hxw
   have nbp : b ∉ [z.p]:=fun h=>nb (by rw [List.mem_singleton.mp h];exact sw.cz.mem)
   refine ⟨_,rfl,b,rfl,⟨_,SqL.of hb⟩,lcomp_by0 (yields_list (ys:=w.map V.int)) (fun j xs H9=>Stp ((z.with l).with l2) Hw H9/\∃ bs : List Int,xs = bs.map V.int/\bs.length = j/\∀ x ∈ bs,1 <= x/\x <= 99) ⟨Stp.refl sw.cz,[],rfl,rfl,by simp⟩ (fun _ _ _ h=>SqL.of (h.1.ext.lst nbp hb)) ?_ ?_⟩
   ·rintro j x xs H9 hx hj ⟨s9,bs,rfl,hbl,hbb⟩
    refine ⟨_,rfl,(z.with l).with l2,rfl,s9.cz,fun t H10 t1 t2 s10=>?_⟩
    rw [List.length_map] at hj
    refine ⟨?_,nx (by rw [List.length_map];exact hj) ⟨s9.trans s10,bs ++ [t],by rw [List.map_append];rfl,by simp [hbl],fun x hx=>?_⟩⟩
    ·rw [List.length_map,hbl]
     exact small1000 (by omega)
    ·rcases List.mem_append.mp hx with h | h
     ·exact hbb x h
     ·rw [List.mem_singleton.mp h]
      exact ⟨t1,t2⟩
   rintro xs H9 ⟨s9,bs,rfl,hbl,hbb⟩ a3 ha3
   rw [List.length_map] at hbl
   have s10 : Stp ((z.with l).with l2) H9 (upd H9 a3 (.lst (bs.map V.int))):=Stp.of s9.cz (Ext.new ha3 _)
   have f10 : IsD ((z.with l).with l2).ex (upd H9 a3 (.lst (bs.map V.int))) (.list (bs.map .int)) (.ref a3):=⟨a3,_,rfl,s9.cz.free ha3,upd_same,IsDs.ints _⟩
   generalize upd H9 a3 (.lst (bs.map V.int)) = H10 at s10 f10 ⊢
   refine ⟨(z.with l).with l2,_,_,rfl,f10,s10.cz,fun vb H11 s11 fb=>?_⟩
   have fw2 : IsD ((z.with l).with l2).ex Hw (.list (w.map .int)) (.ref b):=⟨b,_,rfl,nb,hb,IsDs.ints _⟩
   have sA:=(s9.trans s10).trans s11
   have hx11 : H11 l2 = some (.lst ys):=(sw.trans sA).ext.lst nl2p hy
   refine ⟨_,rfl,.inl ⟨rfl,ys,SqL.of hx11⟩,?_⟩
   have hsh : i + sh.toNat < ns.length:=by omega
   refine ⟨_,rfl,_,rfl,_,rfl,_,_,rfl,rfl,(z.with l).with l2,_,_,.str ns[i + sh.toNat],.inr (fn.stl (a7.stp (sw.trans sA))),rfl,by omega,?_,fun vn fvn=>?_⟩
   ·rw [show ((0 : Int) + (i : Nat) + sh).toNat = i + sh.toNat by omega,List.getElem?_map,List.getElem?_eq_getElem hsh]
    rfl
   refine ⟨_,rfl,(z.with l).with l2,_,_,rfl,fw2.stp sA,sA.cz,fun vt H12 s12 ft=>?_⟩
   refine ⟨_,rfl,(z.with l).with l2,[.str ns[i + sh.toNat],.tuple (w.map .int),.tuple (bs.map .int)],⟨_,_,rfl,fvn.stp s12,_,_,rfl,ft,_,_,rfl,fb.stp s12,rfl⟩,(by show 3 <= 1000;decide),s12.cz,fun vk H13 s13 fk=>?_⟩
   have sB:=(sw.trans sA).trans (s12.trans s13)
   have hx13 : H13 l2 = some (.lst ys):=sB.ext.lst nl2p hy
   refine ⟨l2,ys,vk,rfl,rfl,hx13,?_,?_⟩
   ·rw [hky.length,hkl]
    exact small1000 (by omega)
   refine ⟨ks ++ [.tuple [.str ns[i + sh.toNat],.tuple (w.map .int),.tuple (bs.map .int)]],ys ++ [vk],_,_,_,rfl,(a7.stp sB).put l2p,upd_same,?_,by rw [List.length_append,hkl];rfl,?_,?_⟩
   ·exact put_ext List.mem_cons_self (IsDs.append (hky.stp sB) ⟨vk,_,rfl,fk,rfl⟩)
   ·intro d hd
    rcases List.mem_append.mp hd with h | h
    ·exact hkk d h
    ·rw [List.mem_singleton.mp h]
     exact kind_ok (hm _ (List.getElem_mem hsh)) hw0 (by omega) hwp hwb hbl hbb
   ·rw [List.map_append,hkf,List.take_add_one,List.getElem?_drop,Nat.add_comm sh.toNat i,List.getElem?_eq_getElem hsh]
    rfl
  ·have hw0 : w ≠ []:=fun e=>c1 (by rw [e];rfl)
   have sw:=sw0
   obtain ⟨Hw,eHw⟩ : ∃ Hw,Hw = H11:=⟨_,rfl⟩
   subst eHw
   have fw:=fw0
   clear fw0 f10 f11
   generalize V.ref a = vw at fw ⊢
   obtain ⟨b,xw,rfl,nb,hb,hxw⟩:=fw
   obtain rfl:=IsDs.ints_of hxw
   have nbp : b ∉ [z.p]:=fun h=>nb (by rw [List.mem_singleton.mp h];exact sw.cz.mem)
   refine ⟨_,rfl,b,rfl,⟨_,SqL.of hb⟩,lcomp_by0 (yields_list (ys:=w.map V.int)) (fun j xs H9=>Stp ((z.with l).with l2) Hw H9/\∃ bs : List Int,xs = bs.map V.int/\bs.length = j/\∀ x ∈ bs,1 <= x/\x <= 99) ⟨Stp.refl sw.cz,[],rfl,rfl,by simp⟩ (fun _ _ _ h=>SqL.of (h.1.ext.lst nbp hb)) ?_ ?_⟩
   ·rintro j x xs H9 hx hj ⟨s9,bs,rfl,hbl,hbb⟩
    refine ⟨_,rfl,(z.with l).with l2,rfl,s9.cz,fun t H10 t1 t2 s10=>?_⟩
    rw [List.length_map] at hj
    refine ⟨?_,nx (by rw [List.length_map];exact hj) ⟨s9.trans s10,bs ++ [t],by rw [List.map_append];rfl,by simp [hbl],fun x hx=>?_⟩⟩
    ·rw [List.length_map,hbl]
     exact small1000 (by omega)
    ·rcases List.mem_append.mp hx with h | h
     ·exact hbb x h
     ·rw [List.mem_singleton.mp h]
      exact ⟨t1,t2⟩
   rintro xs H9 ⟨s9,bs,rfl,hbl,hbb⟩ a3 ha3
   rw [List.length_map] at hbl
   have s10 : Stp ((z.with l).with l2) H9 (upd H9 a3 (.lst (bs.map V.int))):=Stp.of s9.cz (Ext.new ha3 _)
   have f10 : IsD ((z.with l).with l2).ex (upd H9 a3 (.lst (bs.map V.int))) (.list (bs.map .int)) (.ref a3):=⟨a3,_,rfl,s9.cz.free ha3,upd_same,IsDs.ints _⟩
   generalize upd H9 a3 (.lst (bs.map V.int)) = H10 at s10 f10 ⊢
   refine ⟨(z.with l).with l2,_,_,rfl,f10,s10.cz,fun vb H11 s11 fb=>?_⟩
   have fw2 : IsD ((z.with l).with l2).ex Hw (.list (w.map .int)) (.ref b):=⟨b,_,rfl,nb,hb,IsDs.ints _⟩
   have sA:=(s9.trans s10).trans s11
   have hx11 : H11 l2 = some (.lst ys):=(sw.trans sA).ext.lst nl2p hy
   refine ⟨_,rfl,.inl ⟨rfl,ys,SqL.of hx11⟩,?_⟩
   have hsh : i + sh.toNat < ns.length:=by omega
   refine ⟨_,rfl,_,rfl,_,rfl,_,_,rfl,rfl,(z.with l).with l2,_,_,.str ns[i + sh.toNat],.inr (fn.stl (a7.stp (sw.trans sA))),rfl,by omega,?_,fun vn fvn=>?_⟩
   ·rw [show ((0 : Int) + (i : Nat) + sh).toNat = i + sh.toNat by omega,List.getElem?_map,List.getElem?_eq_getElem hsh]
    rfl
   refine ⟨_,rfl,(z.with l).with l2,_,_,rfl,fw2.stp sA,sA.cz,fun vt H12 s12 ft=>?_⟩
   refine ⟨_,rfl,(z.with l).with l2,[.str ns[i + sh.toNat],.tuple (w.map .int),.tuple (bs.map .int)],⟨_,_,rfl,fvn.stp s12,_,_,rfl,ft,_,_,rfl,fb.stp s12,rfl⟩,(by show 3 <= 1000;decide),s12.cz,fun vk H13 s13 fk=>?_⟩
   have sB:=(sw.trans sA).trans (s12.trans s13)
   have hx13 : H13 l2 = some (.lst ys):=sB.ext.lst nl2p hy
   refine ⟨l2,ys,vk,rfl,rfl,hx13,?_,?_⟩
   ·rw [hky.length,hkl]
    exact small1000 (by omega)
   refine ⟨ks ++ [.tuple [.str ns[i + sh.toNat],.tuple (w.map .int),.tuple (bs.map .int)]],ys ++ [vk],_,_,_,rfl,(a7.stp sB).put l2p,upd_same,?_,by rw [List.length_append,hkl];rfl,?_,?_⟩
   ·exact put_ext List.mem_cons_self (IsDs.append (hky.stp sB) ⟨vk,_,rfl,fk,rfl⟩)
   ·intro d hd
    rcases List.mem_append.mp hd with h | h
    ·exact hkk d h
    ·rw [List.mem_singleton.mp h]
     exact kind_ok (hm _ (List.getElem_mem hsh)) hw0 (by omega) hwp hwb hbl hbb
   ·rw [List.map_append,hkf,List.take_add_one,List.getElem?_drop,Nat.add_comm sh.toNat i,List.getElem?_eq_getElem hsh]
    rfl
 rintro σ H8 ⟨ks,ys,kk,wy,bd,rfl,a7,hy,hky,hkl,hkk,hkf⟩
 have hx8 : H8 l = some (.lst xs):=a7.ext.lst nll hx5
 have hls8 : IsDs ((z.with l).with l2).ex H8 ls xs:=hdsb.stl a7
 refine ⟨_,rfl,l,xs,rfl,.inl ⟨SqL.of hx8,fun t1 ht1=>?_⟩⟩
 have s9 : Stp ((z.with l).with l2) H8 (upd H8 t1 (.tup xs)):=Stp.of a7.cz (Ext.new ht1 _)
 have f9 : IsD ((z.with l).with l2).ex (upd H8 t1 (.tup xs)) (.tuple ls) (.ref t1):=⟨t1,_,rfl,a7.cz.free ht1,upd_same,hls8.stp s9⟩
 generalize upd H8 t1 (.tup xs) = H9 at s9 f9 ⊢
 have hy9:=s9.ext.lst nl2p hy
 refine ⟨_,rfl,l2,ys,rfl,.inl ⟨SqL.of hy9,fun t2 ht2=>?_⟩⟩
 have s10 : Stp ((z.with l).with l2) H9 (upd H9 t2 (.tup ys)):=Stp.of s9.cz (Ext.new ht2 _)
 have f10 : IsD ((z.with l).with l2).ex (upd H9 t2 (.tup ys)) (.tuple ks) (.ref t2):=⟨t2,_,rfl,s9.cz.free ht2,upd_same,(hky.stp s9).stp s10⟩
 generalize upd H9 t2 (.tup ys) = H10 at s10 f10 ⊢
 refine ⟨(z.with l).with l2,[.tuple ls,.tuple ks],⟨_,_,rfl,f9.stp s10,_,_,rfl,f10,rfl⟩,(by show 2 <= 1000;decide),s10.cz,fun v H11 s11 f11=>?_⟩
 have b1 : Stp (z.with l) H5 H11:=(((a7.stp s9).stp s10).stp s11).back hl2 a5.cz.mem
 have b2 : Stp z H1 H11:=(a5.stp b1).back hl c.mem
 have hpl : planD (.tuple [.tuple ls,.tuple ks]) = true:=plan_ok hl1 hl6 (by omega) (by omega) hla hkk ?u1 ?u2
 obtain ⟨p,ep,gp⟩:=plan_pl hpl
 refine q p v H11 gp (s1.trans b2) ?_
 ·rw [<- ep]
  exact IsD.less (fun b hb=>List.mem_cons_of_mem _ (List.mem_cons_of_mem _ hb)) f11
 ·rw [hfi]
  exact hnd.sublist (List.take_sublist _ _)
 ·rw [hkf]
  exact (hnd.sublist (List.drop_sublist _ _)).sublist (List.take_sublist _ _)
end
end K08
end

section
set_option Elab.async false
set_option linter.all false
set_option maxRecDepth 100000
set_option maxHeartbeats 1000000
namespace K08
open PySem PySem.Spec L2 PyProof.Rows PySem.W
def spLKind : Sp:=fun vs H Q _=>∃ (p : Pl) (v : V) (x : Str) (k : Kd),vs = [v,.str x]/\IsD [] H p.d v/\POk p/\p.kd? x = some k/\∀ u H',Ext [] H H'->IsD [] H' k.d u->Q u H'
def spLLane : Sp:=fun vs H Q _=>∃ (p : Pl) (v : V) (b : Addr) (x kd : Str) (j : Int) (r : List V) (k : Kd),vs = [v,.ref b]/\IsD [] H p.d v/\POk p/\H b = some (.tup (.str x :: .str kd :: .int j :: r))/\p.kd? kd = some k/\1 <= k.way.length/\0 <= j/\j <= k.way.length + 1/\∀ H',Ext [] H H'->Q (.int (p.at kd j)) H'
section
variable {P : Program} {w : World} {K : PySem.W.Frag} {mg : Str->Option Value} {base : Heap}
theorem filter_head {α : Type} {p : α->Bool} : ∀ (l : List α),(l.filter p)[0]? = l.find? p
 | []=>rfl
 | a :: l=>by
  by_cases h : p a = true
  ·rw [List.filter_cons_of_pos h,List.find?_cons_of_pos h];rfl
  ·rw [List.filter_cons_of_neg h,List.find?_cons_of_neg h];exact filter_head l
abbrev s__law_kind : Stmt:=top 22
theorem sc__law_kind : FnScope ["_law_plan_here","_law_name"] ["_law_plan_here","_law_name"] (defScope s__law_kind):=⟨rfl,rfl,rfl,by decide +kernel,rfl,by decide +kernel,by decide +kernel⟩
theorem ok_lkind {f : Addr} {fd : FuncData} (F : Fun K "_law_kind" "_law_kind" s__law_kind f fd) : FnOk P w K mg base CX0 1 f fd ["_law_plan_here","_law_name"] spLKind:=by
 refine F.ok sc__law_kind (fun vs H Q E h=>?_) (fun cdv A outer s H vs Q E hr h=>?_)
 ·obtain ⟨p,v,x,k,rfl,_⟩:=h
  rfl
 obtain ⟨p,v,x,k,rfl,hp,Po,hk,q⟩:=h
 refine' ⟨_,?hh,?rr⟩
 case hh=>refine' pss_one ?hq;(case hq=>refine' ps_ret ?hp;(case hp=>refine' pe_ix ix_list ?ho pe_int (fun _ _=>rfl);(case ho=>refine' pe_lcomp rfl ?hg (compN ["_law_kind_here","_law_name"] 1 [1]) ?hh ?hi ?hj ?hk ?hl ?hm ?hn;(case hg=>exact ⟨rfl,by decide +kernel,by decide +kernel,(show ∀ y : Str × NameKind,y ∈ _->y.2 = NameKind.free->(defScope s__law_kind).names.lookup y.1 = some .cell\/(defScope s__law_kind).names.lookup y.1 = some .free from by decide +kernel)⟩);(case hh=>decide +kernel);(case hi=>decide);(case hj=>refine' pi_tup ?hb;(case hb=>refine' pe_ix ix_tup (pv 0) pe_int (fun _ _=>rfl)));(case hk=>intro _ _ _ _;refine' pg_name ?hc (ixAt 0) (Or.inl rfl) (Or.inr rfl);(case hc=>exact (show (["_law_kind_here","_law_name"] : List Str).Nodup from by decide +kernel)));(case hl=>exact (gown_name (by decide)));(case hm=>intro _ _ _ _;refine' pts_one ?hf;(case hf=>refine' pt_cmpR op_eq ?he (pv 1) (nomark _);(case he=>refine' pe_ix ?hd (pv 0) pe_int (fun _ _=>rfl);(case hd=>exact (show IxR _ (rIxT K) from ix_tup)))));(case hn=>intro _ _ _ _;exact (pv 0)))))
 obtain ⟨a,la,ka,lv,kv,rfl,ha,hla,hls,hka,hks,el,ek⟩:=Pl.view hp
 refine ⟨_,rfl,a,_,_,_,rfl,rfl,SqT.of ha,rfl,ka,rfl,⟨kv,SqT.of hka⟩,lcomp_by (yields_tup (ys:=kv)) (fun i xs H2=>Ext [] H H2/\IsDs [] H2 (((p.ks.take i).filter fun k=>k.nm == x).map Kd.d) xs) ⟨Ext.refl,rfl⟩ (fun _ _ _ h=>SqT.of (h.1.tup (by simp) hka)) ?_ ?_⟩
 ·rintro i y xs H2 hy hi ⟨e,hxs⟩
  obtain ⟨k',hk',hdy⟩:=hks.nth hy
  have hdy2:=IsD.ext e hdy
  obtain ⟨b,wa,ba,rfl,hb,_⟩:=Kd.view hdy2
  have tk : p.ks.take (i + 1) = p.ks.take i ++ [k']:=by rw [List.take_add_one,hk'];rfl
  refine ⟨_,rfl,b,_,_,.str k'.nm,rfl,rfl,SqT.of hb,rfl,_,rfl,rfl,_,rfl,?_⟩
  have small : xs.length < 1000:=by
   rw [hxs.length,List.length_map]
   have:=List.length_filter_le (fun k : Kd=>k.nm == x) (p.ks.take i)
   rw [List.length_take] at this
   have:=Po.nk
   omega
  refine ite2 (fun cc=>?_) (fun cc=>?_)
  ·have ck : k'.nm = x:=by simpa using cc
   refine ⟨_,rfl,small1000 (by omega),nx hi ⟨e,?_⟩⟩
   rw [tk,List.filter_append,List.map_append]
   refine IsDs.append hxs ?_
   simp only [List.filter_cons,ck,beq_self_eq_true,if_true,List.filter_nil,List.map_cons,List.map_nil]
   exact ⟨_,_,rfl,hdy2,rfl⟩
  ·have ck : ¬ k'.nm = x:=by simpa using cc
   refine nx hi ⟨e,?_⟩
   rw [tk,List.filter_append,List.map_append]
   have : ([k'].filter fun k=>k.nm == x) = []:=by simp [ck]
   rw [this,List.map_nil,List.append_nil]
   exact hxs
 ·rintro xs H2 ⟨e,hxs⟩ b hb
  rw [ek,List.take_length] at hxs
  have hg : ((p.ks.filter fun k=>k.nm == x).map Kd.d)[0]? = some k.d:=by
   rw [List.getElem?_map,filter_head]
   show (p.kd? x).map Kd.d = _
   rw [hk];rfl
  obtain ⟨u,hu,hd⟩:=hxs.get hg
  refine ⟨b,xs,_,u,rfl,rfl,SqL.of upd_same,atI_pos (by decide) hu,?_⟩
  exact q u _ (e.trans (Ext.new hb _)) (IsD.ext (Ext.new hb _) hd)
abbrev s__law_lane : Stmt:=top 23
theorem sc__law_lane : FnScope ["_law_plan_here","_law_one","_law_way"] ["_law_plan_here","_law_one"] (defScope s__law_lane):=⟨rfl,rfl,rfl,by decide +kernel,rfl,by decide +kernel,by decide +kernel⟩
theorem ok_llane {f : Addr} {fd : FuncData} (F : Fun K "_law_lane" "_law_lane" s__law_lane f fd) (T : Txt K mg) (C__law_kind : CallOk P w K mg base "_law_kind" 1 ["_law_plan_here","_law_name"] spLKind) : FnOk P w K mg base CX0 2 f fd ["_law_plan_here","_law_one"] spLLane:=by
 refine F.ok sc__law_lane (fun vs H Q E h=>?_) (fun cdv A outer s H vs Q E hr h=>?_)
 ·obtain ⟨p,v,b,x,kd,j,r,k,rfl,_⟩:=h
  rfl
 obtain ⟨p,v,b,x,kd,j,r,k,rfl,hp,Po,hb,hk,hw1,j0,j1,q⟩:=h
 refine' ⟨_,?hh,?rr⟩
 case hh=>refine' pss_cons ?hu ?hv;(case hu=>refine' ps_set sc__law_lane.nd (ixAt 2) (Or.inl rfl) ?hg;(case hg=>refine' pe_ix ix_tup ?hf pe_int (fun _ _=>rfl);(case hf=>refine' pe_cl C__law_kind hr ?hd rfl ?he;(case hd=>refine' pa_c (pv 0) ?hc;(case hc=>refine' pa_c ?hb pa_nil;(case hb=>refine' pe_ix ix_tup (pv 1) pe_int (fun _ _=>rfl))));(case he=>decide))));(case hv=>refine' pss_one ?ht;(case ht=>refine' ps_ret ?hs;(case hs=>refine' pe_ix ix_tup ?hq ?hr (fun _ _=>rfl);(case hq=>refine' pe_op op_catT ?ho ?hp;(case ho=>refine' pe_op op_catT ?hj (pv 2);(case hj=>refine' pe_tup ?hi;(case hi=>refine' pa_c ?hh pa_nil;(case hh=>refine' pe_un un_neg pe_int))));(case hp=>refine' pe_tup ?hn;(case hn=>refine' pa_c ?hm pa_nil;(case hm=>refine' pe_callB call_len_seq rfl T.b_len PySem.boot_len ?hl;(case hl=>refine' pa_c ?hk pa_nil;(case hk=>refine' pe_ix ix_tup (pv 0) pe_int (fun _ _=>rfl)))))));(case hr=>refine' pe_ix ix_tup (pv 1) pe_int (fun _ _=>rfl)))))
 obtain ⟨a,la,ka,lv,kv,rfl,ha,hla,hls,hka,hks,el,ek⟩:=Pl.view hp
 have kw:=Po.kw k (kd_in hk).1
 refine ⟨_,rfl,_,rfl,b,_,_,.str kd,rfl,rfl,SqT.of hb,atI_pos (by decide) rfl,p,_,kd,k,rfl,hp,Po,hk,fun u H1 e1 hd=>?_⟩
 obtain ⟨ua,wa,ba,rfl,hua,hwa,hba⟩:=Kd.view hd
 refine ⟨ua,_,_,.ref wa,rfl,rfl,SqT.of hua,rfl,?_⟩
 refine ⟨_,rfl,(by show 1 <= sizeLine;decide),fun t1 ht1=>?_⟩
 have e2 : Ext [] H1 (upd H1 t1 (.tup [V.int (-1)])):=Ext.new ht1 _
 have h1 : (upd H1 t1 (.tup [V.int (-1)])) t1 = some (.tup [V.int (-1)]):=upd_same
 generalize upd H1 t1 (.tup [V.int (-1)]) = H2 at e2 h1 ⊢
 refine ⟨_,rfl,t1,wa,_,_,rfl,rfl,SqT.of h1,SqT.of (e2.tup (by simp) hwa),by simp,?_,fun z=>?_,fun _ t2 ht2=>?_⟩
 ·rw [List.length_map];exact Nat.le_of_lt (small1000 (by have:=kw.1;simp;omega))
 ·exfalso
  have z2 : (k.way.map V.int).length = 0:=by rw [z];rfl
  rw [List.length_map] at z2
  omega
 have e3 : Ext [] H2 (upd H2 t2 (.tup ([V.int (-1)] ++ k.way.map V.int))):=Ext.new ht2 _
 have h2 : (upd H2 t2 (.tup ([V.int (-1)] ++ k.way.map V.int))) t2 = some (.tup ([V.int (-1)] ++ k.way.map V.int)):=upd_same
 generalize upd H2 t2 (.tup ([V.int (-1)] ++ k.way.map V.int)) = H3 at e3 h2 ⊢
 have e123:=(e1.trans e2).trans e3
 refine ⟨_,rfl,a,_,_,.ref la,rfl,rfl,SqT.of (e123.tup (by simp) ha),rfl,la,lv,rfl,.inr (SqT.of (e123.tup (by simp) hla)),(by show 1 <= sizeLine;decide),fun t3 ht3=>?_⟩
 have e4 : Ext [] H3 (upd H3 t3 (.tup [V.int (lv.length : Nat)])):=Ext.new ht3 _
 have h3 : (upd H3 t3 (.tup [V.int (lv.length : Nat)])) t3 = some (.tup [V.int (lv.length : Nat)]):=upd_same
 generalize upd H3 t3 (.tup [V.int (lv.length : Nat)]) = H4 at e4 h3 ⊢
 refine ⟨t2,t3,_,_,rfl,rfl,SqT.of (e4.tup (by simp) h2),SqT.of h3,by simp,?_,fun z=>absurd z (by simp),fun _ t4 ht4=>?_⟩
 ·simp only [List.length_append,List.length_map,List.length_cons,List.length_nil]
  exact Nat.le_of_lt (small1000 (by have:=kw.1;omega))
 have e5 : Ext [] H4 (upd H4 t4 (.tup (([V.int (-1)] ++ k.way.map V.int) ++ [V.int (lv.length : Nat)]))):=Ext.new ht4 _
 have h4 : (upd H4 t4 (.tup (([V.int (-1)] ++ k.way.map V.int) ++ [V.int (lv.length : Nat)]))) t4 = some (.tup (([V.int (-1)] ++ k.way.map V.int) ++ [V.int (lv.length : Nat)])):=upd_same
 generalize upd H4 t4 (.tup (([V.int (-1)] ++ k.way.map V.int) ++ [V.int (lv.length : Nat)])) = H5 at e5 h4 ⊢
 have e15:=(e123.trans e4).trans e5
 refine ⟨_,rfl,b,_,_,.int j,rfl,rfl,SqT.of (e15.tup (by simp) hb),atI_pos (by decide) rfl,t4,_,_,.int (p.at kd j),rfl,rfl,SqT.of h4,atI_pos j0 ?_,q _ e15⟩
 rcases (show j = 0\/(1 <= j/\j <= k.way.length)\/j = k.way.length + 1 by omega) with rfl | ⟨g1,g2⟩ | rfl
 ·rw [at_zero];rfl
 ·obtain ⟨wv,hw,ew⟩:=at_way hk g1 g2
  rw [ew,List.append_assoc,List.cons_append,List.nil_append]
  rw [show j.toNat = (j - 1).toNat + 1 by omega,List.getElem?_cons_succ,List.getElem?_append_left (by rw [List.length_map];omega),List.getElem?_map,hw]
  rfl
 ·rw [at_out hk (by omega)]
  rw [List.getElem?_append_right (by simp),show ((k.way.length : Int) + 1).toNat - ([V.int (-1)] ++ k.way.map V.int).length = 0 by simp]
  show some (V.int (lv.length : Nat)) = some (V.int p.n)
  rw [el];rfl
abbrev s__law_room : Stmt:=top 24
theorem sc__law_room : FnScope ["_law_plan_here","_law_bounds","_law_cards","_law_kind_here","_law_lane_here","_law_there"] ["_law_plan_here","_law_bounds","_law_cards","_law_kind_here","_law_lane_here"] (defScope s__law_room):=⟨rfl,rfl,rfl,by decide +kernel,rfl,by decide +kernel,by decide +kernel⟩
def spLRoom : Sp:=fun vs H Q _=>∃ (p : Pl) (v kv : V) (ba ca : Addr) (bs : List Int) (cs : List Cd) (cv : List V) (k : Kd) (l : Int),vs = [v,.ref ba,.ref ca,kv,.int l]/\IsD [] H p.d v/\PlG p/\H ba = some (.lst (bs.map V.int))/\bs.length = p.ls.length /\
 H ca = some (.lst cv)/\IsDs [] H (cs.map Cd.d) cv/\cs.length <= 900/\(∀ c ∈ cs,COk p c)/\IsD [] H k.d kv/\k ∈ p.ks/\(0 <= l->l < p.n->l ∈ k.way)/\∀ (x : Str) H',x.length <= 8->Ext [] H H'->Q (.str x) H'
theorem ok_lroom {f : Addr} {fd : FuncData} (F : Fun K "_law_room" "_law_room" s__law_room f fd) (T : Txt K mg) (C__law_lane : CallOk P w K mg base "_law_lane" 2 ["_law_plan_here","_law_one"] spLLane) : FnOk P w K mg base CX0 3 f fd ["_law_plan_here","_law_bounds","_law_cards","_law_kind_here","_law_lane_here"] spLRoom:=by
 refine F.ok sc__law_room (fun vs H Q E h=>?_) (fun cdv A outer s H vs Q E hr h=>?_)
 ·obtain ⟨p,v,kv,ba,ca,bs,cs,cv,k,l,rfl,_⟩:=h
  rfl
 obtain ⟨p,v,kv,ba,ca,bs,cs,cv,k,l,rfl,hp,G,hba,ebs,hca,hcs,ncs,hco,hkv,hkp,hlw,q⟩:=h
 have Po:=G.ok
 refine' ⟨_,?hh,?rr⟩
 case hh=>refine' pss_cons ?hV ?hW;(case hV=>refine' ps_setC sc__law_room.nd (ixAt 5) (Or.inl rfl) rfl ?hi (compN ["_law_one","_law_plan_here","_law_lane_here"] 1 [0,4]) ?hj ?hk ?hl ?hm ?hn ?ho ?hp;(case hi=>exact ⟨rfl,by decide +kernel,by decide +kernel,(show ∀ y : Str × NameKind,y ∈ _->y.2 = NameKind.free->(defScope s__law_room).names.lookup y.1 = some .cell\/(defScope s__law_room).names.lookup y.1 = some .free from by decide +kernel)⟩);(case hj=>decide +kernel);(case hk=>decide);(case hl=>refine' pi_list (pv 2));(case hm=>intro _ _ _ _;refine' pg_name ?hb (ixAt 0) (Or.inl rfl) (Or.inr rfl);(case hb=>exact (show (["_law_one","_law_plan_here","_law_lane_here"] : List Str).Nodup from by decide +kernel)));(case hn=>exact (gown_name (by decide)));(case ho=>intro _ _ _ _;refine' pts_one ?hg;(case hg=>refine' pt_cmpR op_eq ?hf (pv 2) (nomark _);(case hf=>refine' pe_cl C__law_lane hr ?hd rfl ?he;(case hd=>refine' pa_c (pv 1) ?hc;(case hc=>refine' pa_c (pv 0) pa_nil));(case he=>decide))));(case hp=>intro _ _ _ _;refine' pe_ix ?hh (pv 0) pe_int (fun _ _=>rfl);(case hh=>exact (show IxR _ (rIxT K) from ix_tup))));(case hW=>refine' pss_cons ?hT ?hU;(case hT=>refine' ps_if ?hv ?hw pss_nil;(case hv=>refine' pt_not ?ht;(case ht=>refine' pt_chain op_le op_lt pe_int (pv 4) ?hs;(case hs=>refine' pe_callB call_len_seq rfl T.b_len PySem.boot_len ?hr;(case hr=>refine' pa_c ?hq pa_nil;(case hq=>refine' pe_ix ix_tup (pv 0) pe_int (fun _ _=>rfl))))));(case hw=>refine' pss_one ?hu;(case hu=>refine' ps_ret pe_str)));(case hU=>refine' pss_cons ?hR ?hS;(case hR=>refine' ps_if ?hB ?hC pss_nil;(case hB=>refine' pt_cmpR op_ge ?hy ?hz (nomark _);(case hy=>refine' pe_callB call_len_seq rfl T.b_len PySem.boot_len ?hx;(case hx=>refine' pa_c (pv 5) pa_nil));(case hz=>refine' pe_ix ix_list (pv 1) (pv 4) (fun _ _=>rfl)));(case hC=>refine' pss_one ?hA;(case hA=>refine' ps_ret pe_str)));(case hS=>refine' pss_cons ?hP ?hQ;(case hP=>refine' ps_if ?hM ?hN pss_nil;(case hM=>refine' pt_cmpR op_ge ?hJ ?hK (nomark _);(case hJ=>refine' pe_bm PySem.F.plainAttrs_list PySem.F.slot_list_count PySem.F.type_list_count mt_countV (pv 5) ?hE;(case hE=>refine' pa_c ?hD pa_nil;(case hD=>refine' pe_ix ix_tup (pv 3) pe_int (fun _ _=>rfl))));(case hK=>refine' pe_ix ix_tup ?hH ?hI (fun _ _=>rfl);(case hH=>refine' pe_ix ix_tup (pv 3) pe_int (fun _ _=>rfl));(case hI=>refine' pe_bmT PySem.F.plainAttrs_tuple PySem.F.slot_tuple_index PySem.F.type_tuple_index mt_indexT ?hF ?hG;(case hF=>refine' pe_ix ix_tup (pv 3) pe_int (fun _ _=>rfl));(case hG=>refine' pa_c (pv 4) pa_nil))));(case hN=>refine' pss_one ?hL;(case hL=>refine' ps_ret pe_str)));(case hQ=>refine' pss_one ?hO;(case hO=>refine' ps_ret pe_str)))))
 refine ⟨_,rfl,ca,rfl,⟨cv,SqL.of hca⟩,lcomp_by (yields_list (ys:=cv)) (fun i xs H2=>Ext [] H H2/\∃ ks : List Str,xs = ks.map V.str/\ks.length <= i) ⟨Ext.refl,[],rfl,Nat.le_refl _⟩ (fun _ _ _ h=>SqL.of (h.1.lst (by simp) hca)) ?_ ?_⟩
 ·rintro i y xs H2 hy hi ⟨e,ks,rfl,hkl⟩
  obtain ⟨c,hc,hdy⟩:=hcs.nth hy
  obtain ⟨b,rfl,hb⟩:=Cd.view (IsD.ext e hdy)
  obtain ⟨_,kd,hkd,p0,p1⟩:=hco c (List.mem_of_getElem? hc)
  refine ⟨_,rfl,_,rfl,p,v,b,c.nm,c.kd,c.pl,[.bl c.bk],kd,rfl,IsD.ext e hp,Po,hb,hkd,(G.kn kd (kd_in hkd).1).2.1,p0,p1,fun H3 e3=>?_⟩
  refine ⟨_,rfl,rfl,_,rfl,?_⟩
  have e13:=e.trans e3
  refine ite2 (fun cc=>?_) (fun cc=>?_)
  ·refine ⟨_,rfl,b,_,_,.str c.kd,rfl,rfl,SqT.of (e3.tup (by simp) hb),rfl,?_,nx hi ⟨e13,ks ++ [c.kd],by rw [List.map_append];rfl,by rw [List.length_append];exact Nat.succ_le_succ hkl⟩⟩
   rw [List.length_map]
   have : cv.length = cs.length:=by rw [hcs.length,List.length_map]
   exact small1000 (by omega)
  ·exact nx hi ⟨e13,ks,rfl,Nat.le_succ_of_le hkl⟩
 ·rintro xs H2 ⟨e,ks,rfl,hkl⟩ t ht
  have e2 : Ext [] H2 (upd H2 t (.lst (ks.map V.str))):=Ext.new ht _
  have h2 : (upd H2 t (.lst (ks.map V.str))) t = some (.lst (ks.map V.str)):=upd_same
  generalize upd H2 t (.lst (ks.map V.str)) = H3 at e2 h2 ⊢
  have e3:=e.trans e2
  obtain ⟨a,la,ka,lv,kv',rfl,ha,hla,hls,hka,hks,el,ek⟩:=Pl.view hp
  refine ⟨_,rfl,_,_,rfl,rfl,_,rfl,?_⟩
  have lst : ∀ x : Str,x.length <= 8->Q (.str x) H3:=fun x hx=>q x H3 hx e3
  refine ite2 (fun c0=>?_) (fun c0=>?_)
  ·refine ⟨_,rfl,a,_,_,.ref la,rfl,rfl,SqT.of (e3.tup (by simp) ha),rfl,la,lv,rfl,.inr (SqT.of (e3.tup (by simp) hla)),_,_,rfl,rfl,_,rfl,?_⟩
   refine ite2 (fun c1=>?_) (fun c1=>?_)
   ·exact lst _ (by decide +kernel)
   ·have hl : l < p.n:=by
     have:=c1
     simp at this
     rw [el] at this
     exact this
    have hl0 : 0 <= l:=of_decide_eq_true c0
    have hbl : l.toNat < bs.length:=by
     have : (l.toNat : Int) < p.ls.length:=by rw [Int.toNat_of_nonneg hl0];exact hl
     omega
    obtain ⟨ka2,wa,bda,rfl,hka2,hwa,hbda⟩:=Kd.view hkv
    refine ⟨_,rfl,t,_,rfl,.inl (SqL.of h2),_,rfl,_,rfl,ba,_,_,.int bs[l.toNat],rfl,rfl,SqL.of (e3.lst (by simp) hba),atI_pos hl0 (by simp [hbl]),_,_,rfl,rfl,_,rfl,?_⟩
    refine ite2 (fun c2=>lst _ (by decide +kernel)) (fun c2=>?_)
    obtain ⟨j,hj,hjf⟩ : ∃ j,(∃ h : j < k.way.length,k.way[j] = l)/\∀ m w,m < j->k.way[m]? = some w->w ≠ l:=by
     have hm:=hlw hl0 hl
     refine ⟨k.way.findIdx (· == l),⟨List.findIdx_lt_length_of_exists ⟨l,hm,by simp⟩,?_⟩,fun m w hm2 hw e=>?_⟩
     ·have:=List.findIdx_getElem (xs:=k.way) (p:=(· == l)) (w:=List.findIdx_lt_length_of_exists ⟨l,hm,by simp⟩)
      simpa using this
     ·obtain ⟨hlt,he⟩:=List.getElem?_eq_some_iff.mp hw
      have:=List.not_of_lt_findIdx hm2
      simp [he,e] at this
    obtain ⟨hjl,hje⟩:=hj
    have kw:=Po.kw k hkp
    have hjb : j < k.bds.length:=by omega
    refine ⟨_,rfl,.inl ⟨rfl,_,SqL.of h2⟩,_,rfl,ka2,_,_,.str k.nm,rfl,rfl,SqT.of (e3.tup (by simp) hka2),rfl,t,_,.str k.nm,rfl,rfl,SqL.of h2,rfl,by simp [flatV],?_⟩
    refine ⟨_,rfl,ka2,_,_,.ref bda,rfl,rfl,SqT.of (e3.tup (by simp) hka2),rfl,_,rfl,ka2,_,_,.ref wa,rfl,rfl,SqT.of (e3.tup (by simp) hka2),rfl,⟨wa,_,rfl,e3.tup (by simp) hwa⟩,_,rfl,wa,_,.int l,j,rfl,rfl,SqT.of (e3.tup (by simp) hwa),rfl,by simp [flatV],⟨⟨.int l,by simp [hjl,hje],by simp [eqV]⟩,fun m x hm hx=>?_⟩,?_⟩
    ·rw [List.getElem?_map] at hx
     obtain ⟨w',hw',rfl⟩:=Option.map_eq_some_iff.mp hx
     have:=hjf m w' hm hw'
     simp [eqV,this]
    refine ⟨bda,_,_,.int k.bds[j],rfl,rfl,SqT.of (e3.tup (by simp) hbda),atI_pos (by omega) (by simp [hjb]),_,_,rfl,rfl,_,rfl,?_⟩
    exact ite2 (fun c3=>lst _ (by decide +kernel)) (fun c3=>lst _ (by decide +kernel))
  ·exact ⟨_,rfl,lst _ (by decide +kernel)⟩
abbrev s__law_bars : Stmt:=top 25
theorem sc__law_bars : FnScope ["_law_plan_here","_law_cards","_law_wait","_law_found"] ["_law_plan_here","_law_cards","_law_wait"] (defScope s__law_bars):=⟨rfl,rfl,rfl,by decide +kernel,rfl,by decide +kernel,by decide +kernel⟩
def spLBars : Sp:=fun vs H Q _=>∃ (p : Pl) (v : V) (ca wa : Addr) (cs : List Cd) (cv : List V) (x y : Str) (n : Int),vs = [v,.ref ca,.ref wa]/\IsD [] H p.d v/\PlG p /\
 H ca = some (.lst cv)/\IsDs [] H (cs.map Cd.d) cv/\cs.length <= 900/\(∀ c ∈ cs,COk p c)/\H wa = some (.tup [.str x,.int n,.str y])/\(∃ c ∈ cs,c.nm = y)/\∀ (b : Bool) H',Ext [] H H'->Q (.bl b) H'
theorem ok_lbars {f : Addr} {fd : FuncData} (F : Fun K "_law_bars" "_law_bars" s__law_bars f fd) (T : Txt K mg) (C__law_lane : CallOk P w K mg base "_law_lane" 2 ["_law_plan_here","_law_one"] spLLane) : FnOk P w K mg base CX0 3 f fd ["_law_plan_here","_law_cards","_law_wait"] spLBars:=by
 refine F.ok sc__law_bars (fun vs H Q E h=>?_) (fun cdv A outer s H vs Q E hr h=>?_)
 ·obtain ⟨p,v,ca,wa,cs,cv,x,y,n,rfl,_⟩:=h
  rfl
 obtain ⟨p,v,ca,wa,cs,cv,x,y,n,rfl,hp,G,hca,hcs,ncs,hco,hwa,hex,q⟩:=h
 have Po:=G.ok
 refine' ⟨_,?hh,?rr⟩
 case hh=>refine' pss_cons ?hz ?hA;(case hz=>refine' ps_setC sc__law_bars.nd (ixAt 3) (Or.inl rfl) rfl ?hh (compN ["_law_one","_law_wait"] 1 [2]) ?hi ?hj ?hk ?hl ?hm ?hn ?ho;(case hh=>exact ⟨rfl,by decide +kernel,by decide +kernel,(show ∀ y : Str × NameKind,y ∈ _->y.2 = NameKind.free->(defScope s__law_bars).names.lookup y.1 = some .cell\/(defScope s__law_bars).names.lookup y.1 = some .free from by decide +kernel)⟩);(case hi=>decide +kernel);(case hj=>decide);(case hk=>refine' pi_list (pv 1));(case hl=>intro _ _ _ _;refine' pg_name ?hb (ixAt 0) (Or.inl rfl) (Or.inr rfl);(case hb=>exact (show (["_law_one","_law_wait"] : List Str).Nodup from by decide +kernel)));(case hm=>exact (gown_name (by decide)));(case hn=>intro _ _ _ _;refine' pts_one ?hg;(case hg=>refine' pt_cmpR op_eq ?he ?hf (nomark _);(case he=>refine' pe_ix ?hc (pv 0) pe_int (fun _ _=>rfl);(case hc=>exact (show IxR _ (rIxT K) from ix_tup)));(case hf=>refine' pe_ix ?hd (pv 1) pe_int (fun _ _=>rfl);(case hd=>exact (show IxR _ (rIxT K) from ix_tup)))));(case ho=>intro _ _ _ _;exact (pv 0)));(case hA=>refine' pss_one ?hy;(case hy=>refine' ps_ret ?hx;(case hx=>refine' pe_cmpR op_lt ?hv ?hw (nomark _);(case hv=>refine' pe_cl C__law_lane hr ?hr rfl ?hs;(case hr=>refine' pa_c (pv 0) ?hq;(case hq=>refine' pa_c ?hp pa_nil;(case hp=>refine' pe_ix ix_list (pv 3) pe_int (fun _ _=>rfl))));(case hs=>decide));(case hw=>refine' pe_callB call_len_seq rfl T.b_len PySem.boot_len ?hu;(case hu=>refine' pa_c ?ht pa_nil;(case ht=>refine' pe_ix ix_tup (pv 0) pe_int (fun _ _=>rfl)))))))
 have hcl : cv.length = cs.length:=by rw [hcs.length,List.length_map]
 refine ⟨_,rfl,ca,rfl,⟨cv,SqL.of hca⟩,lcomp_by (yields_list (ys:=cv)) (fun i xs H2=>Ext [] H H2/\IsDs [] H2 (((cs.take i).filter fun c=>c.nm == y).map Cd.d) xs) ⟨Ext.refl,rfl⟩ (fun _ _ _ h=>SqL.of (h.1.lst (by simp) hca)) ?_ ?_⟩
 ·rintro i u xs H2 hy hi ⟨e,hxs⟩
  obtain ⟨c,hc,hdy⟩:=hcs.nth hy
  have hdy2:=IsD.ext e hdy
  obtain ⟨b,rfl,hb⟩:=Cd.view hdy2
  have tk : cs.take (i + 1) = cs.take i ++ [c]:=by rw [List.take_add_one,hc];rfl
  refine ⟨_,rfl,b,_,_,.str c.nm,rfl,rfl,SqT.of hb,rfl,_,rfl,wa,_,_,.str y,rfl,rfl,SqT.of (e.tup (by simp) hwa),rfl,rfl,_,rfl,?_⟩
  have small : xs.length < 1000:=by
   rw [hxs.length,List.length_map]
   have:=List.length_filter_le (fun c : Cd=>c.nm == y) (cs.take i)
   rw [List.length_take] at this
   omega
  refine ite2 (fun cc=>?_) (fun cc=>?_)
  ·have ck : c.nm = y:=by simpa using cc
   refine ⟨_,rfl,small1000 (by omega),nx hi ⟨e,?_⟩⟩
   rw [tk,List.filter_append,List.map_append]
   refine IsDs.append hxs ?_
   have : ([c].filter fun c=>c.nm == y) = [c]:=by simp [ck]
   rw [this]
   exact ⟨_,_,rfl,hdy2,rfl⟩
  ·have ck : ¬ c.nm = y:=by simpa using cc
   refine nx hi ⟨e,?_⟩
   rw [tk,List.filter_append,List.map_append]
   have : ([c].filter fun c=>c.nm == y) = []:=by simp [ck]
   rw [this,List.map_nil,List.append_nil]
   exact hxs
 ·rintro xs H2 ⟨e,hxs⟩ t ht
  rw [hcl,List.take_length] at hxs
  obtain ⟨c0,hc0,hn0⟩:=hex
  have hne : (cs.filter fun c=>c.nm == y)[0]? ≠ none:=by
   rw [filter_head]
   intro z
   have:=List.find?_eq_none.mp z c0 hc0
   simp [hn0] at this
  obtain ⟨c,hc⟩:=Option.ne_none_iff_exists'.mp hne
  have hcm : c ∈ cs:=(List.mem_filter.mp (List.mem_of_getElem? hc)).1
  have hg : ((cs.filter fun c=>c.nm == y).map Cd.d)[0]? = some c.d:=by rw [List.getElem?_map,hc];rfl
  obtain ⟨u,hu,hd⟩:=hxs.get hg
  have e2 : Ext [] H2 (upd H2 t (.lst xs)):=Ext.new ht _
  have h2 : (upd H2 t (.lst xs)) t = some (.lst xs):=upd_same
  generalize upd H2 t (.lst xs) = H3 at e2 h2 ⊢
  have e3:=e.trans e2
  have hd3:=IsD.ext e2 hd
  obtain ⟨b,rfl,hb⟩:=Cd.view hd3
  obtain ⟨a,la,ka,lv,kv',rfl,ha,hla,hls,hka,hks,el,ek⟩:=Pl.view hp
  obtain ⟨_,kd,hkd,p0,p1⟩:=hco c hcm
  refine ⟨_,rfl,_,rfl,t,xs,_,.ref b,rfl,rfl,SqL.of h2,atI_pos (by decide) hu,p,_,b,c.nm,c.kd,c.pl,[.bl c.bk],kd,rfl,IsD.ext e3 hp,Po,hb,hkd,(G.kn kd (kd_in hkd).1).2.1,p0,p1,fun H4 e4=>?_⟩
  have e5:=e3.trans e4
  refine ⟨_,rfl,a,_,_,.ref la,rfl,rfl,SqT.of (e5.tup (by simp) ha),rfl,la,lv,rfl,.inr (SqT.of (e5.tup (by simp) hla)),_,_,rfl,rfl,?_⟩
  exact q _ _ e5
end
end K08
end

section
set_option Elab.async false
set_option linter.all false
set_option maxRecDepth 100000
set_option maxHeartbeats 1000000
namespace L2
open PySem PySem.Spec PyProof.Rows PySem.W
structure SdG (p : Pl) (s : Sd) : Prop where
 nb : s.bs.length = p.ls.length
 bd : ∀ b ∈ s.bs,1 <= b/\b <= 99
 nc : s.cs.length <= 30
 c : ∀ c ∈ s.cs,COk p c
 cn : ∀ c ∈ s.cs,nm c.nm = true
 nd : (s.cs.map (·.nm)).Nodup
 bk : ∀ c ∈ s.cs,c.bk = true->∀ k,p.kd? c.kd = some k->c.pl <= k.way.length
 nw : s.ws.length <= 60
 w : ∀ w ∈ s.ws,(∃ c ∈ s.cs,c.nm = w.cd)/\(∃ c ∈ s.cs,c.nm = w.ot)/\0 <= w.ln/\w.ln <= p.n
theorem cd_some {s : Sd} {x : Str} (h : ∃ c ∈ s.cs,c.nm = x) : (s.cd? x).isSome = true:=by
 obtain ⟨c,hc,e⟩:=h
 unfold Sd.cd?
 rw [List.find?_isSome]
 exact ⟨c,hc,by simp [e]⟩
theorem SdG.ok {p : Pl} {s : Sd} (g : SdG p s) : SOk p s where
 nb:=g.nb
 nc:=Nat.le_trans g.nc (by decide)
 c:=g.c
 nw:=Nat.le_trans g.nw (by decide)
 w:=fun w hw=>by
  obtain ⟨h1,h2,_,_⟩:=g.w w hw
  refine ⟨cd_some h1,cd_some h2,?_,?_⟩
  ·obtain ⟨c,hc,e⟩:=h1;rw [<- e];exact nm_len1000 (g.cn c hc)
  ·obtain ⟨c,hc,e⟩:=h2;rw [<- e];exact nm_len1000 (g.cn c hc)
theorem boot_tset : bootBuiltins ("set" : Str) = some (.type "set"):=by decide +kernel
end L2
end

section
set_option Elab.async false
set_option linter.all false
set_option maxRecDepth 100000
set_option maxHeartbeats 1000000
namespace K08
open PySem PySem.Spec L2 PyProof.Rows PySem.W
section
variable {P : Program} {w : World} {K : PySem.W.Frag} {mg : Str->Option Value} {base : Heap}
theorem find_nodup {α : Type} {f : α->Str} {a : α} : ∀ {l : List α},(l.map f).Nodup->a ∈ l->l.find? (fun b=>f b == f a) = some a
 | [],_,h=>nomatch h
 | b :: l,hn,h=>by
  rw [List.map_cons,List.nodup_cons] at hn
  rcases List.mem_cons.mp h with rfl | h
  ·exact List.find?_cons_of_pos (by simp)
  ·rw [List.find?_cons_of_neg]
   ·exact find_nodup hn.2 h
   ·intro e
    have e : f b = f a:=by simpa using e
    exact hn.1 (by rw [e];exact List.mem_map_of_mem h)
abbrev s__law_stand : Stmt:=top 26
theorem sc__law_stand : FnScope ["_law_held","_law_plan_here","_law_most","_law_bounds","_law_cards","_law_name","_law_kind_here","_law_one","_law_waits","_law_turn","_law_two","_law_wait"] ["_law_held","_law_plan_here","_law_most"] (defScope s__law_stand):=⟨rfl,rfl,rfl,by decide +kernel,rfl,by decide +kernel,by decide +kernel⟩
def spLStand : Sp:=fun vs H Q _=>∃ (z : Zn) (p : Pl) (v : V) (m : Int),vs = [.ref z.p,v,.int m]/\Cz z H/\IsD z.ex H p.d v/\PlG p/\0 <= m/\m <= 30/\∀ (s : Sd) (u : V) H',SdG p s->Stp z H H'->IsD z.ex H' s.d u->Q u H'
theorem ok_lstand {f : Addr} {fd : FuncData} (F : Fun K "_law_stand" "_law_stand" s__law_stand f fd) (T : Txt K mg) (C__law_take : CallOk P w K mg base "_law_take" 1 ["_law_held","_law_many"] spTake) (C__law_bound : CallOk P w K mg base "_law_bound" 2 ["_law_held"] spBound) (C__law_words : CallOk P w K mg base "_law_words" 2 ["_law_held","_law_many"] spWordsN)
  (C__law_lane : CallOk P w K mg base "_law_lane" 2 ["_law_plan_here","_law_one"] spLLane) (C__law_room : CallOk P w K mg base "_law_room" 3 ["_law_plan_here","_law_bounds","_law_cards","_law_kind_here","_law_lane_here"] spLRoom) (C__law_bars : CallOk P w K mg base "_law_bars" 3 ["_law_plan_here","_law_cards","_law_wait"] spLBars) :
  FnOk P w K mg base CX0 4 f fd ["_law_held","_law_plan_here","_law_most"] spLStand:=by
 refine F.ok sc__law_stand (fun vs H Q E h=>?_) (fun cdv A outer s H vs Q E hr h=>?_)
 ·obtain ⟨z,p,v,m,rfl,_⟩:=h
  rfl
 obtain ⟨z,p,v,m,rfl,c,hp,G,m0,m1,q⟩:=h
 have hu:=hr.units
 refine' ⟨_,?hh,?rr⟩
 case hh=>(refine' pss_cons ?g1 ?g2;(case g1=>(refine' ps_setC ?g3 ?g4 ?g5 ?g6 ?g7 ?g8 ?g9 ?g10 ?g11 ?g12 ?g13 ?g14 ?g15;(case g3=>(exact sc__law_stand.nd));(case g4=>(exact (ixAt 3)));(case g5=>(exact (Or.inl rfl)));(case g6=>(exact rfl));(case g7=>(exact ⟨rfl,by decide +kernel,by decide +kernel,(show ∀ y : Str × NameKind,y ∈ _->y.2 = NameKind.free->(defScope s__law_stand).names.lookup y.1 = some .cell\/(defScope s__law_stand).names.lookup y.1 = some .free from by decide +kernel)⟩));(case g8=>(exact (compN ["_law_lane_here","_law_held"] 1 [0])));(case g9=>(decide +kernel));(case g10=>(decide));(case g11=>(refine' pi_tup ?g16;(case g16=>(refine' pe_ix ?g17 ?g18 ?g19 ?g20;(case g17=>(exact ix_D));(case g18=>(exact (pv 1)));(case g19=>(exact pe_int));(case g20=>(exact (fun _ _=>rfl)))))));(case g12=>(intro _ _ _ _;refine' pg_name ?g21 ?g22 ?g23 ?g24;(case g21=>(exact (show (["_law_lane_here","_law_held"] : List Str).Nodup from by decide +kernel)));(case g22=>(exact (ixAt 0)));(case g23=>(exact (Or.inl rfl)));(case g24=>(exact (Or.inr rfl)))));(case g13=>(exact (gown_name (by decide))));(case g14=>(intro _ _ _ _;exact pts_nil));(case g15=>(intro _ _ _ _;refine' pe_ix ?g25 ?g26 ?g27 ?g28;(case g25=>(exact ix_D));(case g26=>(refine' pe_lstD ?g29;(case g29=>(refine' pa_c ?g30 ?g31;(case g30=>(refine' pe_ix ?g32 ?g33 ?g34 ?g35;(case g32=>(exact ix_D));(case g33=>(exact (pv 0)));(case g34=>(exact pe_int));(case g35=>(exact (fun _ _=>rfl)))));(case g31=>(refine' pa_c ?g36 ?g37;(case g36=>(refine' pe_cl ?g38 ?g39 ?g40 ?g41 ?g42;(case g38=>(exact C__law_bound));(case g39=>(exact hr));(case g40=>(refine' pa_c ?g43 ?g44;(case g43=>(exact (pv 1)));(case g44=>(exact pa_nil))));(case g41=>(exact rfl));(case g42=>(decide))));(case g37=>(exact pa_nil))))))));(case g27=>(refine' pe_cl ?g45 ?g46 ?g47 ?g48 ?g49;(case g45=>(exact C__law_take));(case g46=>(exact hr));(case g47=>(refine' pa_c ?g50 ?g51;(case g50=>(exact (pv 1)));(case g51=>(refine' pa_c ?g52 ?g53;(case g52=>(exact pe_int));(case g53=>(exact pa_nil))))));(case g48=>(exact rfl));(case g49=>(decide))));(case g28=>(exact (fun _ _=>rfl)))))));(case g2=>(refine' pss_cons ?g54 ?g55;(case g54=>(refine' ps_set ?g56 ?g57 ?g58 ?g59;(case g56=>(exact sc__law_stand.nd));(case g57=>(exact (ixAt 4)));(case g58=>(exact (Or.inl rfl)));(case g59=>(refine' pe_lst ?g60;(case g60=>(exact pa_nil))))));(case g55=>(refine' pss_cons ?g61 ?g62;(case g61=>(refine' ps_for ?g63 ?g64 ?g65 ?g66 ?g67;(case g63=>(exact PassesOwn.never));(case g64=>(exact rfl));(case g65=>(refine' pi_list ?g68;(case g68=>(refine' pe_callB ?g69 ?g70 ?g71 ?g72 ?g73;(case g69=>(exact call_sortS));(case g70=>(exact rfl));(case g71=>(exact T.b_sorted));(case g72=>(exact boot_sorted));(case g73=>(refine' pa_c ?g74 ?g75;(case g74=>(refine' pe_slice ?g76 ?g77 ?g78 ?g79;(case g76=>(exact sl_listD));(case g77=>(refine' pe_cl ?g80 ?g81 ?g82 ?g83 ?g84;(case g80=>(exact C__law_words));(case g81=>(exact hr));(case g82=>(refine' pa_c ?g85 ?g86;(case g85=>(exact (pv 0)));(case g86=>(refine' pa_c ?g87 ?g88;(case g87=>(exact pe_int));(case g88=>(exact pa_nil))))));(case g83=>(exact rfl));(case g84=>(decide))));(case g78=>(exact po_none));(case g79=>(refine' po_some ?g89;(case g89=>(refine' pe_cl ?g90 ?g91 ?g92 ?g93 ?g94;(case g90=>(exact C__law_take));(case g91=>(exact hr));(case g92=>(refine' pa_c ?g95 ?g96;(case g95=>(exact (pv 0)));(case g96=>(refine' pa_c ?g97 ?g98;(case g97=>(refine' pe_op ?g99 ?g100 ?g101;(case g99=>(exact op_add));(case g100=>(exact (pv 2)));(case g101=>(exact pe_int))));(case g98=>(exact pa_nil))))));(case g93=>(exact rfl));(case g94=>(decide))))))));(case g75=>(exact pa_nil))))))));(case g66=>(refine' pg_name ?g102 ?g103 ?g104 ?g105;(case g102=>(exact sc__law_stand.nd));(case g103=>(exact (ixAt 5)));(case g104=>(exact (Or.inl rfl)));(case g105=>(exact (Or.inl rfl)))));(case g67=>(refine' pss_cons ?g106 ?g107;(case g106=>(refine' ps_set ?g108 ?g109 ?g110 ?g111;(case g108=>(exact sc__law_stand.nd));(case g109=>(exact (ixAt 6)));(case g110=>(exact (Or.inl rfl)));(case g111=>(refine' pe_ix ?g112 ?g113 ?g114 ?g115;(case g112=>(exact ix_D));(case g113=>(refine' pe_ix ?g116 ?g117 ?g118 ?g119;(case g116=>(exact ix_D));(case g117=>(exact (pv 1)));(case g118=>(exact pe_int));(case g119=>(exact (fun _ _=>rfl)))));(case g114=>(refine' pe_cl ?g120 ?g121 ?g122 ?g123 ?g124;(case g120=>(exact C__law_take));(case g121=>(exact hr));(case g122=>(refine' pa_c ?g125 ?g126;(case g125=>(exact (pv 0)));(case g126=>(refine' pa_c ?g127 ?g128;(case g127=>(refine' pe_callB ?g129 ?g130 ?g131 ?g132 ?g133;(case g129=>(exact call_lenD));(case g130=>(exact rfl));(case g131=>(exact T.b_len));(case g132=>(exact PySem.boot_len));(case g133=>(refine' pa_c ?g134 ?g135;(case g134=>(refine' pe_ix ?g136 ?g137 ?g138 ?g139;(case g136=>(exact ix_D));(case g137=>(exact (pv 1)));(case g138=>(exact pe_int));(case g139=>(exact (fun _ _=>rfl)))));(case g135=>(exact pa_nil))))));(case g128=>(exact pa_nil))))));(case g123=>(exact rfl));(case g124=>(decide))));(case g115=>(exact (fun _ _=>rfl)))))));(case g107=>(refine' pss_cons ?g140 ?g141;(case g140=>(refine' ps_set ?g142 ?g143 ?g144 ?g145;(case g142=>(exact sc__law_stand.nd));(case g143=>(exact (ixAt 7)));(case g144=>(exact (Or.inl rfl)));(case g145=>(refine' pe_tupD ?g146;(case g146=>(refine' pa_c ?g147 ?g148;(case g147=>(exact (pv 5)));(case g148=>(refine' pa_c ?g149 ?g150;(case g149=>(refine' pe_ix ?g151 ?g152 ?g153 ?g154;(case g151=>(exact ix_D));(case g152=>(exact (pv 6)));(case g153=>(exact pe_int));(case g154=>(exact (fun _ _=>rfl)))));(case g150=>(refine' pa_c ?g155 ?g156;(case g155=>(refine' pe_cl ?g157 ?g158 ?g159 ?g160 ?g161;(case g157=>(exact C__law_take));(case g158=>(exact hr));(case g159=>(refine' pa_c ?g162 ?g163;(case g162=>(exact (pv 0)));(case g163=>(refine' pa_c ?g164 ?g165;(case g164=>(refine' pe_op ?g166 ?g167 ?g168;(case g166=>(exact op_add));(case g167=>(refine' pe_callB ?g169 ?g170 ?g171 ?g172 ?g173;(case g169=>(exact call_lenD));(case g170=>(exact rfl));(case g171=>(exact T.b_len));(case g172=>(exact PySem.boot_len));(case g173=>(refine' pa_c ?g174 ?g175;(case g174=>(refine' pe_ix ?g176 ?g177 ?g178 ?g179;(case g176=>(exact ix_D));(case g177=>(exact (pv 6)));(case g178=>(exact pe_int));(case g179=>(exact (fun _ _=>rfl)))));(case g175=>(exact pa_nil))))));(case g168=>(exact pe_int))));(case g165=>(exact pa_nil))))));(case g160=>(exact rfl));(case g161=>(decide))));(case g156=>(exact pa_nil))))))))))));(case g141=>(refine' pss_cons ?g180 ?g181;(case g180=>(refine' ps_if ?g182 ?g183 ?g184;(case g182=>(refine' pt_cmpR ?g185 ?g186 ?g187 ?g188;(case g185=>(exact op_ne));(case g186=>(refine' pe_cl ?g189 ?g190 ?g191 ?g192 ?g193;(case g189=>(exact C__law_room));(case g190=>(exact hr));(case g191=>(refine' pa_c ?g194 ?g195;(case g194=>(exact (pv 1)));(case g195=>(refine' pa_c ?g196 ?g197;(case g196=>(exact (pv 3)));(case g197=>(refine' pa_c ?g198 ?g199;(case g198=>(exact (pv 4)));(case g199=>(refine' pa_c ?g200 ?g201;(case g200=>(exact (pv 6)));(case g201=>(refine' pa_c ?g202 ?g203;(case g202=>(refine' pe_cl ?g204 ?g205 ?g206 ?g207 ?g208;(case g204=>(exact C__law_lane));(case g205=>(exact hr));(case g206=>(refine' pa_c ?g209 ?g210;(case g209=>(exact (pv 1)));(case g210=>(refine' pa_c ?g211 ?g212;(case g211=>(exact (pv 7)));(case g212=>(exact pa_nil))))));(case g207=>(exact rfl));(case g208=>(decide))));(case g203=>(exact pa_nil))))))))))));(case g192=>(exact rfl));(case g193=>(decide))));(case g187=>(exact pe_str));(case g188=>(exact (nomark _)))));(case g183=>(refine' pss_one ?g213;(case g213=>(refine' ps_set ?g214 ?g215 ?g216 ?g217;(case g214=>(exact sc__law_stand.nd));(case g215=>(exact (ixAt 7)));(case g216=>(exact (Or.inl rfl)));(case g217=>(refine' pe_tupD ?g218;(case g218=>(refine' pa_c ?g219 ?g220;(case g219=>(exact (pv 5)));(case g220=>(refine' pa_c ?g221 ?g222;(case g221=>(refine' pe_ix ?g223 ?g224 ?g225 ?g226;(case g223=>(exact ix_D));(case g224=>(exact (pv 6)));(case g225=>(exact pe_int));(case g226=>(exact (fun _ _=>rfl)))));(case g222=>(refine' pa_c ?g227 ?g228;(case g227=>(refine' pe_ix ?g229 ?g230 ?g231 ?g232;(case g229=>(exact ix_D));(case g230=>(refine' pe_lstD ?g233;(case g233=>(refine' pa_c ?g234 ?g235;(case g234=>(exact pe_int));(case g235=>(refine' pa_c ?g236 ?g237;(case g236=>(refine' pe_op ?g238 ?g239 ?g240;(case g238=>(exact op_add));(case g239=>(refine' pe_callB ?g241 ?g242 ?g243 ?g244 ?g245;(case g241=>(exact call_lenD));(case g242=>(exact rfl));(case g243=>(exact T.b_len));(case g244=>(exact PySem.boot_len));(case g245=>(refine' pa_c ?g246 ?g247;(case g246=>(refine' pe_ix ?g248 ?g249 ?g250 ?g251;(case g248=>(exact ix_D));(case g249=>(exact (pv 6)));(case g250=>(exact pe_int));(case g251=>(exact (fun _ _=>rfl)))));(case g247=>(exact pa_nil))))));(case g240=>(exact pe_int))));(case g237=>(exact pa_nil))))))));(case g231=>(refine' pe_cl ?g252 ?g253 ?g254 ?g255 ?g256;(case g252=>(exact C__law_take));(case g253=>(exact hr));(case g254=>(refine' pa_c ?g257 ?g258;(case g257=>(exact (pv 0)));(case g258=>(refine' pa_c ?g259 ?g260;(case g259=>(exact pe_int));(case g260=>(exact pa_nil))))));(case g255=>(exact rfl));(case g256=>(decide))));(case g232=>(exact (fun _ _=>rfl)))));(case g228=>(exact pa_nil))))))))))))));(case g184=>(exact pss_nil))));(case g181=>(refine' pss_one ?g261;(case g261=>(refine' ps_expr ?g262;(case g262=>(refine' pe_bm ?g263 ?g264 ?g265 ?g266 ?g267 ?g268;(case g263=>(exact PySem.F.plainAttrs_list));(case g264=>(exact PySem.F.slot_list_append));(case g265=>(exact PySem.F.type_list_append));(case g266=>(exact mt_append));(case g267=>(exact (pv 4)));(case g268=>(refine' pa_c ?g269 ?g270;(case g269=>(refine' pe_op ?g271 ?g272 ?g273;(case g271=>(exact op_catTD));(case g272=>(exact (pv 7)));(case g273=>(refine' pe_tupD ?g274;(case g274=>(refine' pa_c ?g275 ?g276;(case g275=>(refine' pe_and ?g277 ?g278;(case g277=>(refine' pe_cmpR ?g279 ?g280 ?g281 ?g282;(case g279=>(exact op_le));(case g280=>(refine' pe_ix ?g283 ?g284 ?g285 ?g286;(case g283=>(exact ix_D));(case g284=>(exact (pv 7)));(case g285=>(exact pe_int));(case g286=>(exact (fun _ _=>rfl)))));(case g281=>(refine' pe_callB ?g287 ?g288 ?g289 ?g290 ?g291;(case g287=>(exact call_lenD));(case g288=>(exact rfl));(case g289=>(exact T.b_len));(case g290=>(exact PySem.boot_len));(case g291=>(refine' pa_c ?g292 ?g293;(case g292=>(refine' pe_ix ?g294 ?g295 ?g296 ?g297;(case g294=>(exact ix_D));(case g295=>(exact (pv 6)));(case g296=>(exact pe_int));(case g297=>(exact (fun _ _=>rfl)))));(case g293=>(exact pa_nil))))));(case g282=>(exact (nomark _)))));(case g278=>(refine' pe_one ?g298;(case g298=>(refine' pe_cmpR ?g299 ?g300 ?g301 ?g302;(case g299=>(exact op_eq));(case g300=>(refine' pe_cl ?g303 ?g304 ?g305 ?g306 ?g307;(case g303=>(exact C__law_take));(case g304=>(exact hr));(case g305=>(refine' pa_c ?g308 ?g309;(case g308=>(exact (pv 0)));(case g309=>(refine' pa_c ?g310 ?g311;(case g310=>(exact pe_int));(case g311=>(exact pa_nil))))));(case g306=>(exact rfl));(case g307=>(decide))));(case g301=>(exact pe_int));(case g302=>(exact (nomark _)))))))));(case g276=>(exact pa_nil))))))));(case g270=>(exact pa_nil))))))))))))))))));(case g62=>(refine' pss_cons ?g312 ?g313;(case g312=>(refine' ps_set ?g314 ?g315 ?g316 ?g317;(case g314=>(exact sc__law_stand.nd));(case g315=>(exact (ixAt 8)));(case g316=>(exact (Or.inl rfl)));(case g317=>(refine' pe_lst ?g318;(case g318=>(exact pa_nil))))));(case g313=>(refine' pss_cons ?g319 ?g320;(case g319=>(refine' ps_for ?g321 ?g322 ?g323 ?g324 ?g325;(case g321=>(exact PassesOwn.never));(case g322=>(exact rfl));(case g323=>(refine' pi_range1 ?g326 ?g327 ?g328;(case g326=>(exact rfl));(case g327=>(exact T.b_range));(case g328=>(refine' pa_c ?g329 ?g330;(case g329=>(refine' pe_op ?g331 ?g332 ?g333;(case g331=>(exact op_mul));(case g332=>(refine' pe_cl ?g334 ?g335 ?g336 ?g337 ?g338;(case g334=>(exact C__law_take));(case g335=>(exact hr));(case g336=>(refine' pa_c ?g339 ?g340;(case g339=>(exact (pv 0)));(case g340=>(refine' pa_c ?g341 ?g342;(case g341=>(refine' pe_ix ?g343 ?g344 ?g345 ?g346;(case g343=>(exact ix_D));(case g344=>(refine' pe_lstD ?g347;(case g347=>(refine' pa_c ?g348 ?g349;(case g348=>(exact pe_int));(case g349=>(refine' pa_c ?g350 ?g351;(case g350=>(exact pe_int));(case g351=>(refine' pa_c ?g352 ?g353;(case g352=>(exact pe_int));(case g353=>(refine' pa_c ?g354 ?g355;(case g354=>(exact pe_int));(case g355=>(exact pa_nil))))))))))));(case g345=>(refine' pe_cl ?g356 ?g357 ?g358 ?g359 ?g360;(case g356=>(exact C__law_take));(case g357=>(exact hr));(case g358=>(refine' pa_c ?g361 ?g362;(case g361=>(exact (pv 0)));(case g362=>(refine' pa_c ?g363 ?g364;(case g363=>(exact pe_int));(case g364=>(exact pa_nil))))));(case g359=>(exact rfl));(case g360=>(decide))));(case g346=>(exact (fun _ _=>rfl)))));(case g342=>(exact pa_nil))))));(case g337=>(exact rfl));(case g338=>(decide))));(case g333=>(refine' pe_callTy ?g365 ?g366 ?g367 ?g368 ?g369;(case g365=>(exact call_int1));(case g366=>(exact rfl));(case g367=>(exact T.b_int));(case g368=>(exact boot_tint));(case g369=>(refine' pa_c ?g370 ?g371;(case g370=>(refine' pe_cmpR ?g372 ?g373 ?g374 ?g375;(case g372=>(exact (op_neD hu)));(case g373=>(exact (pv 4)));(case g374=>(refine' pe_lstD ?g376;(case g376=>(exact pa_nil))));(case g375=>(exact (nomark _)))));(case g371=>(exact pa_nil))))))));(case g330=>(exact pa_nil))))));(case g324=>(refine' pg_name ?g377 ?g378 ?g379 ?g380;(case g377=>(exact sc__law_stand.nd));(case g378=>(exact (ixAt 9)));(case g379=>(exact (Or.inl rfl)));(case g380=>(exact (Or.inl rfl)))));(case g325=>(refine' pss_cons ?g381 ?g382;(case g381=>(refine' ps_set ?g383 ?g384 ?g385 ?g386;(case g383=>(exact sc__law_stand.nd));(case g384=>(exact (ixAt 7)));(case g385=>(exact (Or.inl rfl)));(case g386=>(refine' pe_ix ?g387 ?g388 ?g389 ?g390;(case g387=>(exact ix_list));(case g388=>(exact (pv 4)));(case g389=>(refine' pe_cl ?g391 ?g392 ?g393 ?g394 ?g395;(case g391=>(exact C__law_take));(case g392=>(exact hr));(case g393=>(refine' pa_c ?g396 ?g397;(case g396=>(exact (pv 0)));(case g397=>(refine' pa_c ?g398 ?g399;(case g398=>(refine' pe_callB ?g400 ?g401 ?g402 ?g403 ?g404;(case g400=>(exact call_len_seq));(case g401=>(exact rfl));(case g402=>(exact T.b_len));(case g403=>(exact PySem.boot_len));(case g404=>(refine' pa_c ?g405 ?g406;(case g405=>(exact (pv 4)));(case g406=>(exact pa_nil))))));(case g399=>(exact pa_nil))))));(case g394=>(exact rfl));(case g395=>(decide))));(case g390=>(exact (fun _ _=>rfl)))))));(case g382=>(refine' pss_cons ?g407 ?g408;(case g407=>(refine' ps_set ?g409 ?g410 ?g411 ?g412;(case g409=>(exact sc__law_stand.nd));(case g410=>(exact (ixAt 10)));(case g411=>(exact (Or.inl rfl)));(case g412=>(refine' pe_ix ?g413 ?g414 ?g415 ?g416;(case g413=>(exact ix_D));(case g414=>(refine' pe_ix ?g417 ?g418 ?g419 ?g420;(case g417=>(exact ix_list));(case g418=>(exact (pv 4)));(case g419=>(refine' pe_cl ?g421 ?g422 ?g423 ?g424 ?g425;(case g421=>(exact C__law_take));(case g422=>(exact hr));(case g423=>(refine' pa_c ?g426 ?g427;(case g426=>(exact (pv 0)));(case g427=>(refine' pa_c ?g428 ?g429;(case g428=>(refine' pe_callB ?g430 ?g431 ?g432 ?g433 ?g434;(case g430=>(exact call_len_seq));(case g431=>(exact rfl));(case g432=>(exact T.b_len));(case g433=>(exact PySem.boot_len));(case g434=>(refine' pa_c ?g435 ?g436;(case g435=>(exact (pv 4)));(case g436=>(exact pa_nil))))));(case g429=>(exact pa_nil))))));(case g424=>(exact rfl));(case g425=>(decide))));(case g420=>(exact (fun _ _=>rfl)))));(case g415=>(exact pe_int));(case g416=>(exact (fun _ _=>rfl)))))));(case g408=>(refine' pss_cons ?g437 ?g438;(case g437=>(refine' ps_set ?g439 ?g440 ?g441 ?g442;(case g439=>(exact sc__law_stand.nd));(case g440=>(exact (ixAt 11)));(case g441=>(exact (Or.inl rfl)));(case g442=>(refine' pe_tupD ?g443;(case g443=>(refine' pa_c ?g444 ?g445;(case g444=>(refine' pe_ix ?g446 ?g447 ?g448 ?g449;(case g446=>(exact ix_D));(case g447=>(exact (pv 7)));(case g448=>(exact pe_int));(case g449=>(exact (fun _ _=>rfl)))));(case g445=>(refine' pa_c ?g450 ?g451;(case g450=>(refine' pe_cl ?g452 ?g453 ?g454 ?g455 ?g456;(case g452=>(exact C__law_take));(case g453=>(exact hr));(case g454=>(refine' pa_c ?g457 ?g458;(case g457=>(exact (pv 0)));(case g458=>(refine' pa_c ?g459 ?g460;(case g459=>(refine' pe_op ?g461 ?g462 ?g463;(case g461=>(exact op_add));(case g462=>(refine' pe_callB ?g464 ?g465 ?g466 ?g467 ?g468;(case g464=>(exact call_lenD));(case g465=>(exact rfl));(case g466=>(exact T.b_len));(case g467=>(exact PySem.boot_len));(case g468=>(refine' pa_c ?g469 ?g470;(case g469=>(refine' pe_ix ?g471 ?g472 ?g473 ?g474;(case g471=>(exact ix_D));(case g472=>(exact (pv 1)));(case g473=>(exact pe_int));(case g474=>(exact (fun _ _=>rfl)))));(case g470=>(exact pa_nil))))));(case g463=>(exact pe_int))));(case g460=>(exact pa_nil))))));(case g455=>(exact rfl));(case g456=>(decide))));(case g451=>(refine' pa_c ?g475 ?g476;(case g475=>(exact (pv 10)));(case g476=>(exact pa_nil))))))))))));(case g438=>(refine' pss_one ?g477;(case g477=>(refine' ps_if ?g478 ?g479 ?g480;(case g478=>(refine' PW.pt ?g481;(case g481=>(refine' pw_or ?g482 ?g483;(case g482=>(refine' pt_cmpR ?g484 ?g485 ?g486 ?g487;(case g484=>(exact op_lt));(case g485=>(refine' pe_cl ?g488 ?g489 ?g490 ?g491 ?g492;(case g488=>(exact C__law_lane));(case g489=>(exact hr));(case g490=>(refine' pa_c ?g493 ?g494;(case g493=>(exact (pv 1)));(case g494=>(refine' pa_c ?g495 ?g496;(case g495=>(exact (pv 7)));(case g496=>(exact pa_nil))))));(case g491=>(exact rfl));(case g492=>(decide))));(case g486=>(refine' pe_ix ?g497 ?g498 ?g499 ?g500;(case g497=>(exact ix_D));(case g498=>(exact (pv 11)));(case g499=>(exact pe_int));(case g500=>(exact (fun _ _=>rfl)))));(case g487=>(exact (nomark _)))));(case g483=>(refine' pw_or1 ?g501;(case g501=>(refine' pt_not ?g502;(case g502=>(refine' pt_val ?g503;(case g503=>(refine' pe_cl ?g504 ?g505 ?g506 ?g507 ?g508;(case g504=>(exact C__law_bars));(case g505=>(exact hr));(case g506=>(refine' pa_c ?g509 ?g510;(case g509=>(exact (pv 1)));(case g510=>(refine' pa_c ?g511 ?g512;(case g511=>(exact (pv 4)));(case g512=>(refine' pa_c ?g513 ?g514;(case g513=>(exact (pv 11)));(case g514=>(exact pa_nil))))))));(case g507=>(exact rfl));(case g508=>(decide))))))))))))));(case g479=>(refine' pss_one ?g515;(case g515=>(refine' ps_expr ?g516;(case g516=>(refine' pe_bm ?g517 ?g518 ?g519 ?g520 ?g521 ?g522;(case g517=>(exact PySem.F.plainAttrs_list));(case g518=>(exact PySem.F.slot_list_append));(case g519=>(exact PySem.F.type_list_append));(case g520=>(exact mt_append));(case g521=>(exact (pv 8)));(case g522=>(refine' pa_c ?g523 ?g524;(case g523=>(exact (pv 11)));(case g524=>(exact pa_nil))))))))));(case g480=>(exact pss_nil))))))))))))));(case g320=>(refine' pss_one ?g525;(case g525=>(refine' ps_ret ?g526;(case g526=>(refine' pe_tupD ?g527;(case g527=>(refine' pa_c ?g528 ?g529;(case g528=>(refine' pe_callTy ?g530 ?g531 ?g532 ?g533 ?g534;(case g530=>(exact call_tupleD));(case g531=>(exact rfl));(case g532=>(exact T.b_tuple));(case g533=>(exact boot_ttuple));(case g534=>(refine' pa_c ?g535 ?g536;(case g535=>(exact (pv 3)));(case g536=>(exact pa_nil))))));(case g529=>(refine' pa_c ?g537 ?g538;(case g537=>(refine' pe_callTy ?g539 ?g540 ?g541 ?g542 ?g543;(case g539=>(exact call_tuple_of));(case g540=>(exact rfl));(case g541=>(exact T.b_tuple));(case g542=>(exact boot_ttuple));(case g543=>(refine' pa_c ?g544 ?g545;(case g544=>(exact (pv 4)));(case g545=>(exact pa_nil))))));(case g538=>(refine' pa_c ?g546 ?g547;(case g546=>(refine' pe_callTy ?g548 ?g549 ?g550 ?g551 ?g552;(case g548=>(exact call_tupleD));(case g549=>(exact rfl));(case g550=>(exact T.b_tuple));(case g551=>(exact boot_ttuple));(case g552=>(refine' pa_c ?g553 ?g554;(case g553=>(refine' pe_slice ?g555 ?g556 ?g557 ?g558;(case g555=>(exact sl_listD));(case g556=>(refine' pe_callB ?g559 ?g560 ?g561 ?g562 ?g563;(case g559=>(exact (call_sortW rfl)));(case g560=>(exact rfl));(case g561=>(exact T.b_sorted));(case g562=>(exact boot_sorted));(case g563=>(refine' pa_c ?g564 ?g565;(case g564=>(refine' pe_callTy ?g566 ?g567 ?g568 ?g569 ?g570;(case g566=>(exact (call_setW rfl hu)));(case g567=>(exact rfl));(case g568=>(exact T.b_set));(case g569=>(exact boot_tset));(case g570=>(refine' pa_c ?g571 ?g572;(case g571=>(exact (pv 8)));(case g572=>(exact pa_nil))))));(case g565=>(exact pa_nil))))));(case g557=>(exact po_none));(case g558=>(refine' po_some ?g573;(case g573=>(exact pe_int))))));(case g554=>(exact pa_nil))))));(case g547=>(exact pa_nil)))))))))))))))))))))))
 refine ⟨_,rfl,z,_,_,_,.inl hp,rfl,by decide,rfl,fun v1 hv1=>?_⟩
 obtain ⟨la,lv,rfl,nla,hla,hls⟩:=hv1
 have elv : lv.length = p.ls.length:=by rw [hls.length,List.length_map]
 have nlap : la ∉ [z.p]:=fun h=>nla (by rw [List.mem_singleton.mp h];exact c.mem)
 refine ⟨la,rfl,⟨lv,SqT.of hla⟩,lcomp_by0 (yields_tup (ys:=lv)) (fun i xs H2=>Stp z H H2/\∃ bs : List Int,xs = bs.map V.int/\bs.length = i/\∀ x ∈ bs,1 <= x/\x <= 99) ⟨Stp.refl c,[],rfl,rfl,by simp⟩ (fun _ _ _ h=>SqT.of (h.1.ext.tup nlap hla)) ?_ ?_⟩
 ·rintro i y xs H2 hy hi ⟨s2,bs,rfl,hbl,hbb⟩
  obtain ⟨ln,hln,hdy⟩:=hls.nth hy
  have hdy2:=hdy.stp s2
  have gl:=G.ln ln (List.mem_of_getElem? hln)
  refine ⟨_,rfl,z,_,_,_,.inl hdy2,rfl,by decide,rfl,fun vb hvb=>?_⟩
  refine ⟨_,rfl,z,rfl,s2.cz,fun b H3 b1 b2 s3=>?_⟩
  refine ⟨z,[.int ln.2,.int b],⟨_,_,rfl,hvb.stp s3,_,_,rfl,rfl,rfl⟩,(by show 2 <= 1000;decide),s3.cz,fun v4 H4 s4 f4=>?_⟩
  refine ⟨_,rfl,z,2,rfl,s4.cz,by decide,by decide,fun k H5 k0 k1 s5=>?_⟩
  obtain ⟨b',hb',g1,g2⟩ : ∃ b' : Int,([.int ln.2,.int b] : List PyData)[k.toNat]? = some (.int b')/\1 <= b'/\b' <= 99:=by
   rcases (show k = 0\/k = 1 by omega) with rfl | rfl
   ·exact ⟨ln.2,rfl,gl.2⟩
   ·exact ⟨b,rfl,b1,b2⟩
  refine ⟨z,_,_,_,.inr (f4.stp s5),rfl,k0,hb',fun v6 hv6=>?_⟩
  obtain rfl : v6 = .int b':=hv6
  refine ⟨?_,nx hi ⟨((s2.trans s3).trans s4).trans s5,bs ++ [b'],by rw [List.map_append];rfl,by simp [hbl],fun x hx=>?_⟩⟩
  ·rw [List.length_map,hbl]
   have:=G.l6
   exact small1000 (by omega)
  ·rcases List.mem_append.mp hx with h | h
   ·exact hbb x h
   ·rw [List.mem_singleton.mp h]
    exact ⟨g1,g2⟩
 rintro xs H2 ⟨s2,bs,rfl,hbl,hbb⟩ ba hba0
 rw [elv] at hbl
 have s3 : Stp z H2 (upd H2 ba (.lst (bs.map V.int))):=Stp.of s2.cz (Ext.new hba0 _)
 have hba : (upd H2 ba (.lst (bs.map V.int))) ba = some (.lst (bs.map V.int)):=upd_same
 generalize upd H2 ba (.lst (bs.map V.int)) = H3 at s3 hba ⊢
 have bap : ba ≠ z.p:=fun e=>by
  obtain ⟨n,h⟩:=s2.cz.held
  rw [e,h] at hba0
  cases hba0
 have sB3:=s2.trans s3
 refine ⟨(by show 0 <= sizeLine;decide),fun l hl=>?_⟩
 have lp : l ≠ z.p:=fun e=>by
  obtain ⟨n,h⟩:=s3.cz.held
  rw [e,h] at hl
  cases hl
 have bal : ba ≠ l:=fun e=>by
  rw [<- e,hba] at hl
  cases hl
 have nlp : l ∉ [z.p]:=fun h=>lp (List.mem_singleton.mp h)
 have nbap : ba ∉ [z.p]:=fun h=>bap (List.mem_singleton.mp h)
 have hp4 : IsD (z.with l).ex H3 p.d v:=IsD.more hl (hp.stp sB3)
 have a4 : Stl z l H3 (upd H3 l (.lst [])):=Stl.new s3.cz hl
 have hl4 : (upd H3 l (.lst [])) l = some (.lst []):=upd_same
 have hba4 : (upd H3 l (.lst [])) ba = some (.lst (bs.map V.int)):=by rw [upd_ne bal];exact hba
 generalize upd H3 l (.lst []) = H4 at a4 hl4 hba4 ⊢
 refine ⟨_,rfl,z.with l,30,rfl,by decide,by decide,a4.cz,fun ns v5 H5 hn hnd hm s5 f5=>?_⟩
 refine ⟨_,rfl,_,rfl,_,_,rfl,rfl,z.with l,m + 1,rfl,s5.cz,by omega,by omega,fun t H6 t0 t1 s6=>?_⟩
 refine ⟨_,rfl,z.with l,_,f5.stp s6,s6.cz,fun v7 H7 s7 f7=>?_⟩
 obtain ⟨k,hk⟩ : ∃ k,L2.cutD (ns.map PyData.str) none (some t) = (ns.take k).map PyData.str:=⟨_,by unfold L2.cutD;rw [HT.sIx_none,List.drop_zero,<- List.map_take]⟩
 rw [hk] at f7
 obtain ⟨a7,x7,rfl,n7,h7,d7⟩:=f7
 obtain rfl:=IsDs.strs_of d7
 have hk30 : (ns.take k).length <= 30:=by
  have:=List.length_take_le k ns
  rw [List.length_take]
  omega
 refine ⟨a7,ns.take k,rfl,SqL.of h7,by omega,fun sl zs hsl hperm hsorted=>?_⟩
 have s8 : Stp (z.with l) H7 (upd H7 sl (.lst (zs.map V.str))):=Stp.of s7.cz (Ext.new hsl _)
 have hsl8 : (upd H7 sl (.lst (zs.map V.str))) sl = some (.lst (zs.map V.str)):=upd_same
 have s58:=(s5.trans s6).trans (s7.trans s8)
 have hl8 : (upd H7 sl (.lst (zs.map V.str))) l = some (.lst []):=s58.ext.lst nlp hl4
 have hba8 : (upd H7 sl (.lst (zs.map V.str))) ba = some (.lst (bs.map V.int)):=s58.ext.lst nbap hba4
 have a8:=a4.stp s58
 have slp : sl ≠ z.p:=fun e=>by
  obtain ⟨n,h⟩:=s7.cz.held
  have h : H7 z.p = some (.lst [.int n]):=h
  rw [e,h] at hsl
  cases hsl
 have sll : sl ≠ l:=fun e=>by
  have:=((s5.trans s6).trans s7).ext.lst nlp hl4
  rw [e,this] at hsl
  cases hsl
 have nslp : sl ∉ [z.p]:=fun h=>slp (List.mem_singleton.mp h)
 generalize upd H7 sl (.lst (zs.map V.str)) = H8 at s8 hsl8 s58 hl8 hba8 a8 ⊢
 have hzn : ∀ x ∈ zs,nm x = true:=fun x hx=>hm x (List.mem_of_mem_take (hperm.mem_iff.mp hx))
 have hznd : zs.Nodup:=hperm.nodup_iff.mpr (hnd.sublist (List.take_sublist _ _))
 have hzl : zs.length <= 30:=by rw [hperm.length_eq];exact hk30
 clear hperm d7 h7 n7 f5 hm hnd hn
 refine ⟨sl,rfl,⟨_,SqL.of hsl8⟩,for_list (xs:=zs.map V.str) (fun i σ H9=>∃ (cs : List Cd) (cv : List V) (x5 x6 x7 : Option V),σ = [some (V.ref z.p),some v,some (V.int m),some (V.ref ba),some (V.ref l),x5,x6,x7,none,none,none,none]/\Stl z l H3 H9/\H9 l = some (.lst cv)/\H9 ba = some (.lst (bs.map V.int))/\H9 sl = some (.lst (zs.map V.str)) /\
   IsDs (z.with l).ex H9 (cs.map Cd.d) cv/\cs.map (·.nm) = zs.take i/\(∀ c ∈ cs,COk p c)/\∀ c ∈ cs,c.bk = true->∀ k,p.kd? c.kd = some k->c.pl <= k.way.length)
  ⟨[],[],_,_,_,rfl,a8,hl8,hba8,hsl8,rfl,rfl,by simp,by simp⟩ ?_ ?_ ?_⟩
 ·rintro i σ H9 hi ⟨cs,cv,x5,x6,x7,rfl,a9,hl9,hba9,hsl9,hcs9,hnm9,hco9,hbk9⟩
  exact SqL.of hsl9
 ·rintro i x σ H9 hx ⟨cs,cv,x5,x6,x7,rfl,a9,hl9,hba9,hsl9,hcs9,hnm9,hco9,hbk9⟩
  rw [List.getElem?_map] at hx
  obtain ⟨nme,hnme,rfl⟩:=Option.map_eq_some_iff.mp hx
  have hp9 : IsD (z.with l).ex H9 p.d v:=hp4.stl a9
  have nmG:=hzn nme (List.mem_of_getElem? hnme)
  have kks : 1 <= p.ks.length:=G.k1
  have ic : cs.length <= 30:=by
   have:=congrArg List.length hnm9
   rw [List.length_map,List.length_take] at this
   omega
  refine ⟨_,rfl,z.with l,_,_,_,.inl hp9,rfl,by decide,rfl,fun v1 hv1=>?_⟩
  refine ⟨_,rfl,_,rfl,z.with l,_,_,_,.inl hp9,rfl,by decide,rfl,fun v2 hv2=>?_⟩
  refine ⟨z.with l,v2,_,rfl,.inl hv2,z.with l,_,rfl,a9.cz,?_,?_,fun t10 H10 t100 t101 s10=>?_⟩
  ·rw [List.length_map];omega
  ·rw [List.length_map];have:=G.k6;omega
  rw [List.length_map] at t101
  have hkin : t10.toNat < p.ks.length:=by omega
  refine ⟨z.with l,_,_,(p.ks[t10.toNat]).d,.inl (hv1.stp s10),rfl,t100,by simp [hkin],fun vk hvk=>?_⟩
  have hkm : p.ks[t10.toNat] ∈ p.ks:=List.getElem_mem hkin
  generalize p.ks[t10.toNat] = kd at hvk hkm
  have kg:=G.kn kd hkm
  have hkf : p.kd? kd.nm = some kd:=by
   unfold Pl.kd?
   refine find_nodup G.knd hkm
  refine ⟨_,rfl,_,rfl,z.with l,_,_,_,.inl hvk,rfl,by decide,rfl,fun vn hvn=>?_⟩
  refine ⟨_,rfl,_,rfl,z.with l,_,_,_,.inl hvk,rfl,by decide,rfl,fun vw hvw=>?_⟩
  refine ⟨z.with l,vw,_,rfl,.inl hvw,_,_,rfl,rfl,z.with l,_,rfl,s10.cz,by omega,?_,fun j H11 j0 j1 s11=>?_⟩
  ·rw [List.length_map];have:=G.l6;omega
  rw [List.length_map] at j1
  refine ⟨z.with l,[.str nme,.str kd.nm,.int j],⟨_,_,rfl,rfl,_,_,rfl,hvn.stp s11,_,_,rfl,rfl,rfl⟩,(by show 3 <= 1000;decide),s11.cz,fun vo H12 s12 f12=>?_⟩
  have b12 : Stp (z.with l) H9 H12:=(s10.trans s11).trans s12
  have g12 : IsD (z.with l).ex H12 (.tuple [.str nme,.str kd.nm,.int j]) vo:=f12
  obtain ⟨oa,ov,rfl,_,hoa,hov⟩:=f12
  obtain ⟨_,_,rfl,rfl,_,_,rfl,rfl,_,_,rfl,rfl,rfl⟩:=hov
  refine ⟨_,rfl,_,rfl,_,rfl,_,rfl,_,rfl,_,rfl,p,v,oa,nme,kd.nm,j,[],kd,rfl,IsD.less (by simp) (hp9.stp b12),G.ok,hoa,hkf,kg.2.1,j0,by omega,fun H13 e13=>?_⟩
  have s13' : Stp (z.with l) H12 H13:=Stp.of s12.cz e13
  have b13:=b12.trans s13'
  have hvk13 : IsD (z.with l).ex H13 kd.d vk:=(hvk.stp (s11.trans s12)).stp s13'
  refine ⟨p,v,vk,ba,l,bs,cs,cv,kd,p.at kd.nm j,rfl,IsD.less (by simp) (hp9.stp b13),G,b13.ext.lst nbap hba9,hbl,b13.ext.lst nlp hl9,IsDs.less (by simp) (hcs9.stp b13),by omega,hco9,IsD.less (by simp) hvk13,hkm,?_,fun x H14 hx14 e14=>?_⟩
  ·intro g0 g1
   rcases (show j = 0\/(1 <= j/\j <= kd.way.length)\/(kd.way.length : Int) < j by omega) with rfl | ⟨q1,q2⟩ | q1
   ·rw [at_zero] at g0;omega
   ·obtain ⟨wv,hw,ew⟩:=at_way hkf q1 q2
    rw [ew]
    exact List.mem_of_getElem? hw
   ·rw [at_out hkf q1] at g1;omega
  have s14 : Stp (z.with l) H13 H14:=Stp.of s13'.cz e14
  have b14:=b13.trans s14
  refine ⟨rfl,_,rfl,?_⟩
  refine ite2 (fun c1=>?yes) (fun c1=>?no)
  case' yes =>
   refine ⟨_,rfl,_,rfl,z.with l,_,_,_,.inl (hvk13.stp s14),rfl,by decide,rfl,fun vn2 hvn2=>?_⟩
   refine ⟨_,rfl,z.with l,_,_,_,.inl (hvk13.stp s14),rfl,by decide,rfl,fun vw2 hvw2=>?_⟩
   refine ⟨z.with l,vw2,_,rfl,.inl hvw2,_,_,rfl,rfl,?_⟩
   rw [List.length_map]
   refine ⟨z.with l,[.int 0,.int ((kd.way.length : Nat) + 1)],⟨_,_,rfl,rfl,_,_,rfl,rfl,rfl⟩,(by show 2 <= 1000;decide),s14.cz,fun vl H15 s15 f15=>?_⟩
   refine ⟨_,rfl,z.with l,2,rfl,s15.cz,by decide,by decide,fun k2 H16 k20 k21 s16=>?_⟩
   obtain ⟨jj,hjj,jj0,jj1⟩ : ∃ jj : Int,([.int 0,.int ((kd.way.length : Nat) + 1)] : List PyData)[k2.toNat]? = some (.int jj)/\0 <= jj/\jj <= kd.way.length + 1:=by
    rcases (show k2 = 0\/k2 = 1 by omega) with rfl | rfl
    ·exact ⟨0,rfl,by omega,by omega⟩
    ·exact ⟨_,rfl,by omega,by omega⟩
   refine ⟨z.with l,_,_,_,.inr (f15.stp s16),rfl,k20,hjj,fun vj hvj=>?_⟩
   refine ⟨z.with l,[.str nme,.str kd.nm,.int jj],⟨_,_,rfl,rfl,_,_,rfl,hvn2.stp (s15.trans s16),_,_,rfl,hvj,rfl⟩,(by show 3 <= 1000;decide),s16.cz,fun vo2 HH s17 ff=>?_⟩
   have bb : Stp (z.with l) H9 HH:=b14.trans ((s15.trans s16).trans s17)
   have hvkH : IsD (z.with l).ex HH kd.d vk:=(hvk13.stp s14).stp ((s15.trans s16).trans s17)
   clear hjj hvj hvw2 hvn2 f15
  case' no =>
   have bb : Stp (z.with l) H9 H14:=b14
   obtain ⟨jj,jj0,jj1,ff⟩ : ∃ jj : Int,0 <= jj/\jj <= kd.way.length + 1/\IsD (z.with l).ex H14 (.tuple [.str nme,.str kd.nm,.int jj]) (.ref oa):=⟨j,j0,by omega,(g12.stp s13').stp s14⟩
   have hvkH : IsD (z.with l).ex H14 kd.d vk:=hvk13.stp s14
  all_goals
   refine ⟨_,rfl,.inl ⟨rfl,cv,SqL.of (bb.ext.lst nlp hl9)⟩,_,rfl,?_⟩
   refine ⟨_,rfl,z.with l,_,_,_,.inl ff,rfl,by decide,rfl,fun va hva=>?_⟩
   obtain rfl : va = .int jj:=hva
   refine ⟨_,rfl,z.with l,_,_,_,.inl hvkH,rfl,by decide,rfl,fun vw3 hvw3=>?_⟩
   refine ⟨z.with l,vw3,_,rfl,.inl hvw3,_,_,rfl,rfl,_,rfl,?_⟩
   rw [List.length_map]
   refine ite2 (fun c2=>?_) (fun c2=>?_)
   refine ⟨_,rfl,z.with l,5,rfl,bb.cz,by decide,by decide,fun t20 H20 t200 t201 s20=>?_⟩
   refine ⟨rfl,?_⟩
   have c3 : decide (V.int t20 = V.int 0) = true->jj <= kd.way.length:=fun _=>of_decide_eq_true c2
   generalize decide (V.int t20 = V.int 0) = bq at c3 ⊢
   rotate_left
   have s20:=Stp.refl bb.cz
   obtain ⟨bq,ebq,c3⟩ : ∃ bq : Bool,bq = false/\(bq = true->jj <= kd.way.length):=⟨false,rfl,fun z=>nomatch z⟩
   rw [<- ebq]
   all_goals
    refine ⟨z.with l,[.bool bq],⟨_,_,rfl,rfl,rfl⟩,(by show 1 <= 1000;decide),s20.cz,fun v21 H21 s21 f21=>?_⟩
    refine ⟨z.with l,_,_,ff.stp (s20.trans s21),f21,(by show 3 + 1 <= 1000;decide),s21.cz,fun v22 H22 s22 f22=>?_⟩
    have b22:=bb.trans ((s20.trans s21).trans s22)
    refine ⟨l,cv,v22,rfl,rfl,b22.ext.lst nlp hl9,?_,?_⟩
    ·rw [hcs9.length,List.length_map]
     exact small1000 (by omega)
    have fc : IsD (z.with l).ex H22 (Cd.d ⟨nme,kd.nm,jj,bq⟩) v22:=f22
    refine ⟨cs ++ [⟨nme,kd.nm,jj,bq⟩],cv ++ [v22],_,_,_,rfl,(a9.stp b22).put lp,upd_same,?_,?_,?_,?_,?_,?_⟩
    ·rw [upd_ne bal];exact b22.ext.lst nbap hba9
    ·rw [upd_ne sll];exact b22.ext.lst nslp hsl9
    ·rw [List.map_append]
     exact put_ext List.mem_cons_self (IsDs.append (hcs9.stp b22) ⟨v22,_,rfl,fc,rfl⟩)
    ·rw [List.map_append,hnm9,List.take_add_one,hnme]
     rfl
    ·intro c' hc'
     rcases List.mem_append.mp hc' with h | h
     ·exact hco9 c' h
     ·rw [List.mem_singleton.mp h]
      exact ⟨nm_len1000 nmG,kd,hkf,jj0,jj1⟩
    ·intro c' hc'
     rcases List.mem_append.mp hc' with h | h
     ·exact hbk9 c' h
     ·rw [List.mem_singleton.mp h]
      intro e k' hk'
      have hk' : p.kd? kd.nm = some k':=hk'
      rw [hkf] at hk'
      obtain rfl:=Option.some.inj hk'
      exact c3 e
 ·rintro σ H9 ⟨cs,cv,x5,x6,x7,rfl,a9,hl9,hba9,hsl9,hcs9,hnm9,hco9,hbk9⟩
  rw [List.length_map,List.take_length] at hnm9
  have ic : cs.length <= 30:=by
   have:=congrArg List.length hnm9
   rw [List.length_map] at this
   omega
  have icv : cv.length = cs.length:=by rw [hcs9.length,List.length_map]
  have hcn : ∀ c ∈ cs,nm c.nm = true:=fun c hc=>hzn _ (by rw [<- hnm9];exact List.mem_map_of_mem hc)
  have hcd : (cs.map (·.nm)).Nodup:=by rw [hnm9];exact hznd
  clear hsl9 hnm9 hzn hznd hzl hsl8 hl8 hba8 hsl
  refine ⟨(by show 0 <= sizeLine;decide),fun l2 hl2=>?_⟩
  have l2p : l2 ≠ z.p:=fun e=>by
   obtain ⟨n,h⟩:=a9.cz.held
   have h : H9 z.p = some (.lst [.int n]):=h
   rw [e,h] at hl2
   cases hl2
  have l2l : l ≠ l2:=fun e=>by
   rw [<- e,hl9] at hl2
   cases hl2
  have l2b : ba ≠ l2:=fun e=>by
   rw [<- e,hba9] at hl2
   cases hl2
  have nl2p : l2 ∉ [z.p]:=fun h=>l2p (List.mem_singleton.mp h)
  have nl2 : l2 ∉ (z.with l).ex:=a9.cz.free hl2
  have a10 : Stl (z.with l) l2 H9 (upd H9 l2 (.lst [])):=Stl.new a9.cz hl2
  have hl10 : (upd H9 l2 (.lst [])) l = some (.lst cv):=by rw [upd_ne l2l];exact hl9
  have hba10 : (upd H9 l2 (.lst [])) ba = some (.lst (bs.map V.int)):=by rw [upd_ne l2b];exact hba9
  have hw10 : (upd H9 l2 (.lst [])) l2 = some (.lst []):=upd_same
  have hp10 : IsD ((z.with l).with l2).ex H9 p.d v:=IsD.more hl2 (hp4.stl a9)
  have hcs10 : IsDs ((z.with l).with l2).ex H9 (cs.map Cd.d) cv:=IsDs.more hl2 hcs9
  generalize upd H9 l2 (.lst []) = H10 at a10 hl10 hba10 hw10 ⊢
  refine ⟨_,rfl,(z.with l).with l2,[.int 3,.int 7,.int 7,.int 90],⟨_,_,rfl,rfl,_,_,rfl,rfl,_,_,rfl,rfl,_,_,rfl,rfl,rfl⟩,(by show 4 <= 1000;decide),a10.cz,fun v11 H11 s11 f11=>?_⟩
  refine ⟨_,rfl,(z.with l).with l2,4,rfl,s11.cz,by decide,by decide,fun t12 H12 t120 t121 s12=>?_⟩
  obtain ⟨mm,hmm,mm0,mm1⟩ : ∃ mm : Int,([.int 3,.int 7,.int 7,.int 90] : List PyData)[t12.toNat]? = some (.int mm)/\0 < mm/\mm <= 90:=by
   rcases (show t12 = 0\/t12 = 1\/t12 = 2\/t12 = 3 by omega) with rfl | rfl | rfl | rfl
   ·exact ⟨3,rfl,by omega,by omega⟩
   ·exact ⟨7,rfl,by omega,by omega⟩
   ·exact ⟨7,rfl,by omega,by omega⟩
   ·exact ⟨90,rfl,by omega,by omega⟩
  refine ⟨(z.with l).with l2,_,_,_,.inr (f11.stp s12),rfl,t120,hmm,fun v13 hv13=>?_⟩
  obtain rfl : v13 = .int mm:=hv13
  refine ⟨(z.with l).with l2,mm,rfl,s12.cz,mm0,by omega,fun r H13 r0 r1 s13=>?_⟩
  have b13:=(s11.trans s12).trans s13
  have nlp2 : l ∉ [((z.with l).with l2).p]:=nlp
  refine ⟨_,rfl,(z.with l).with l2,[],rfl,(by show 0 <= 1000;decide),s13.cz,fun v14 H14 s14 f14=>?_⟩
  have b14:=b13.trans s14
  have a14:=a10.stp b14
  have hl14 : H14 l = some (.lst cv):=b14.ext.lst nlp hl10
  refine ⟨.list (cs.map Cd.d),.list [],⟨l,cv,rfl,by simp,hl14,IsDs.less (by simp) (hcs10.stl a14)⟩,IsD.less (by simp) f14,?_,rfl,?_⟩
  ·refine Sh.shaped (n:=2) (Sh.lst fun d hd=>?_)
   obtain ⟨c',hc',rfl⟩:=List.mem_map.mp hd
   obtain ⟨_,k',hk',_⟩:=hco9 c' hc'
   have hkn : nm c'.kd = true:=by rw [<- (kd_in hk').2];exact (G.kn k' (kd_in hk').1).1
   refine Sh.tup fun d hd=>?_
   simp only [List.mem_cons,List.not_mem_nil,or_false] at hd
   rcases hd with rfl | rfl | rfl | rfl
   ·exact sh_nm (hcn c' hc')
   ·exact sh_nm hkn
   ·exact sh_int _
   ·exact sh_bool _
  have ene : (!PyData.eqv (.list (cs.map Cd.d)) (.list [])) = !cs.isEmpty:=by cases cs <;> rfl
  rw [ene]
  refine .inr ⟨_,rfl,?_⟩
  have rb : 0 <= r * (if (!cs.isEmpty) = true then 1 else 0)/\r * (if (!cs.isEmpty) = true then 1 else 0) <= 89/\(0 < r * (if (!cs.isEmpty) = true then 1 else 0)->0 < cs.length):=by
   cases cs with
   | nil=>simp
   | cons c' cs'=>simp;omega
  refine ⟨r,_,rfl,rfl,?_,?_⟩
  ·refine .inl ⟨?_,?_⟩ <;> (have : (2 : Int) ^ 64 = 18446744073709551616:=by decide) <;> omega
  obtain ⟨rr0,rr1,rr2⟩:=rb
  have hba14 : H14 ba = some (.lst (bs.map V.int)):=b14.ext.lst nbap hba10
  have hw14 : H14 l2 = some (.lst []):=b14.ext.lst nl2p hw10
  refine ⟨_,rfl,by omega,by omega,?_⟩
  refine for_range (n:=(r * (if (!cs.isEmpty) = true then 1 else 0)).toNat) (fun i σ H15=>∃ (ws : List Wt) (wv : List V) (y7 y9 y10 y11 : Option V),σ = [some (V.ref z.p),some v,some (V.int m),some (V.ref ba),some (V.ref l),x5,x6,y7,some (V.ref l2),y9,y10,y11]/\Stl (z.with l) l2 H9 H15/\H15 l = some (.lst cv)/\H15 ba = some (.lst (bs.map V.int))/\H15 l2 = some (.lst wv) /\
    IsDs ((z.with l).with l2).ex H15 (ws.map Wt.d) wv/\ws.length <= i/\∀ w ∈ ws,(∃ c ∈ cs,c.nm = w.cd)/\(∃ c ∈ cs,c.nm = w.ot)/\0 <= w.ln/\w.ln <= p.n)
   ⟨[],[],_,_,_,_,rfl,a14,hl14,hba14,hw14,rfl,Nat.le_refl _,by simp⟩ ?_ ?_
  ·rintro i σ H15 hi ⟨ws,wv,y7,y9,y10,y11,rfl,a15,hl15,hba15,hw15,hws15,hwl,hwg⟩
   have hc0 : 0 < cs.length:=rr2 (by omega)
   have i89 : i < 89:=by omega
   refine ⟨_,rfl,_,rfl,_,rfl,l,cv,rfl,.inl (SqL.of hl15),(z.with l).with l2,_,rfl,a15.cz,by omega,by omega,fun t16 H16 t160 t161 s16=>?_⟩
   obtain ⟨c1,hc1,hc1m⟩:=get_in (xs:=cs) t160 (by omega)
   have hcs16:=(hcs10.stl a15).stp s16
   have hl16 : H16 l = some (.lst cv):=s16.ext.lst nlp hl15
   obtain ⟨u1,hu1,f1⟩:=hcs16.nth' hc1
   refine ⟨l,cv,_,u1,rfl,rfl,SqL.of hl16,atI_pos t160 hu1,?_⟩
   refine ⟨_,rfl,_,rfl,_,rfl,l,cv,rfl,.inl (SqL.of hl16),(z.with l).with l2,_,rfl,s16.cz,by omega,by omega,fun t17 H17 t170 t171 s17=>?_⟩
   obtain ⟨c2,hc2,hc2m⟩:=get_in (xs:=cs) t170 (by omega)
   have hl17 : H17 l = some (.lst cv):=s17.ext.lst nlp hl16
   obtain ⟨u2,hu2,f2⟩:=(hcs16.stp s17).nth' hc2
   refine ⟨l,cv,_,u2,rfl,rfl,SqL.of hl17,atI_pos t170 hu2,(z.with l).with l2,_,_,_,.inl f2,rfl,by decide,rfl,fun v2 hv2=>?_⟩
   have b17:=s16.trans s17
   have f1':=f1.stp s17
   have hp17 : IsD ((z.with l).with l2).ex H17 p.d v:=(hp10.stl a15).stp b17
   refine ⟨_,rfl,(z.with l).with l2,_,_,_,.inl f1',rfl,by decide,rfl,fun v1 hv1=>?_⟩
   refine ⟨_,rfl,_,rfl,(z.with l).with l2,_,_,_,.inl hp17,rfl,by decide,rfl,fun v3 hv3=>?_⟩
   refine ⟨(z.with l).with l2,v3,_,rfl,.inl hv3,_,_,rfl,rfl,(z.with l).with l2,_,rfl,s17.cz,by omega,?_,fun ln H18 ln0 ln1 s18=>?_⟩
   ·rw [List.length_map];have:=G.l6;omega
   rw [List.length_map] at ln1
   refine ⟨_,rfl,(z.with l).with l2,[.str c1.nm,.int ln,.str c2.nm],⟨_,_,rfl,hv1.stp s18,_,_,rfl,rfl,_,_,rfl,hv2.stp s18,rfl⟩,(by show 3 <= 1000;decide),s18.cz,fun vw H19 s19 fw=>?_⟩
   have fwt : IsD ((z.with l).with l2).ex H19 (Wt.d ⟨c1.nm,ln,c2.nm⟩) vw:=fw
   obtain ⟨wa,rfl,hwa⟩:=Wt.view fwt
   have b19:=b17.trans (s18.trans s19)
   have f119:=f1'.stp (s18.trans s19)
   obtain ⟨oa,rfl,hoa⟩:=Cd.view f119
   obtain ⟨_,kd,hkd,q0,q1⟩:=hco9 c1 hc1m
   have hp19 : IsD ((z.with l).with l2).ex H19 p.d v:=(hp10.stl a15).stp b19
   refine ⟨_,rfl,_,rfl,p,v,oa,c1.nm,c1.kd,c1.pl,[.bl c1.bk],kd,rfl,IsD.less (by simp) hp19,G.ok,hoa,hkd,(G.kn kd (kd_in hkd).1).2.1,q0,q1,fun H20 e20=>?_⟩
   have s20 : Stp ((z.with l).with l2) H19 H20:=Stp.of s19.cz e20
   refine ⟨_,rfl,(z.with l).with l2,_,_,_,.inl (fw.stp s20),rfl,by decide,rfl,fun v4 hv4=>?_⟩
   obtain rfl : v4 = .int ln:=hv4
   refine ⟨_,_,rfl,rfl,_,rfl,?_⟩
   refine ite2 (fun d1=>?g1) (fun d1=>?g2)
   case' g1 =>
    have bX : Stp ((z.with l).with l2) H15 H20:=b19.trans s20
    have fX:=fwt.stp s20
   case' g2 =>
    refine ⟨_,rfl,_,rfl,_,rfl,p,v,l,wa,cs,cv,c1.nm,c2.nm,ln,rfl,IsD.less (by simp) (hp19.stp s20),G,(b19.trans s20).ext.lst nlp hl15,IsDs.less (by simp) ((hcs10.stl a15).stp (b19.trans s20)),by omega,hco9,e20.tup (by simp) hwa,⟨c2,hc2m,rfl⟩,fun bb H21 e21=>?_⟩
    have s21 : Stp ((z.with l).with l2) H20 H21:=Stp.of s20.cz e21
    have bX : Stp ((z.with l).with l2) H15 H21:=(b19.trans s20).trans s21
    have fX:=(fwt.stp s20).stp s21
    refine ⟨_,rfl,?_⟩
    refine ite2 (fun d2=>?g3) (fun d2=>?g4)
   case g4=>exact ⟨ws,wv,_,_,_,_,rfl,a15.stp bX,bX.ext.lst nlp hl15,bX.ext.lst nbap hba15,bX.ext.lst nl2p hw15,hws15.stp bX,Nat.le_succ_of_le hwl,hwg⟩
   all_goals
    refine ⟨_,rfl,.inl ⟨rfl,wv,SqL.of (bX.ext.lst nl2p hw15)⟩,_,rfl,l2,wv,.ref wa,rfl,rfl,bX.ext.lst nl2p hw15,?_,?_⟩
    ·rw [hws15.length,List.length_map]
     exact small1000 (by omega)
    refine ⟨ws ++ [⟨c1.nm,ln,c2.nm⟩],wv ++ [.ref wa],_,_,_,_,rfl,(a15.stp bX).put l2p,?_,?_,upd_same,?_,?_,?_⟩
    ·rw [upd_ne l2l];exact bX.ext.lst nlp hl15
    ·rw [upd_ne l2b];exact bX.ext.lst nbap hba15
    ·rw [List.map_append]
     exact put_ext List.mem_cons_self (IsDs.append (hws15.stp bX) ⟨_,_,rfl,fX,rfl⟩)
    ·rw [List.length_append]
     exact Nat.succ_le_succ hwl
    ·intro w' hw'
     rcases List.mem_append.mp hw' with h | h
     ·exact hwg w' h
     ·rw [List.mem_singleton.mp h]
      exact ⟨⟨c1,hc1m,rfl⟩,⟨c2,hc2m,rfl⟩,ln0,by show ln <= (p.ls.length : Int);omega⟩
  ·rintro σ H15 ⟨ws,wv,y7,y9,y10,y11,rfl,a15,hl15,hba15,hw15,hws15,hwl,hwg⟩
   have nbex : ba ∉ (z.with l).ex:=fun h=>by
    rcases List.mem_cons.mp h with h | h
    ·exact bal h
    ·exact s2.cz.free hba0 h
   have cz1 : Cz (z.with l) H15:=a15.cz.less a9.cz.mem
   have rl89 : ws.length <= 89:=by omega
   refine ⟨_,rfl,z.with l,_,bs.map .int,rfl,⟨ba,_,rfl,nbex,hba15,IsDs.ints _⟩,cz1,fun t1 H16 s16 f16=>?_⟩
   refine ⟨_,rfl,l,cv,rfl,.inl ⟨SqL.of (s16.ext.lst nlp hl15),fun t2 ht2=>?_⟩⟩
   have s17 : Stp (z.with l) H16 (upd H16 t2 (.tup cv)):=Stp.of s16.cz (Ext.new ht2 _)
   have hcs15 : IsDs (z.with l).ex H15 (cs.map Cd.d) cv:=IsDs.less (fun b hb=>List.mem_cons_of_mem _ hb) (hcs10.stl a15)
   have f17 : IsD (z.with l).ex (upd H16 t2 (.tup cv)) (.tuple (cs.map Cd.d)) (.ref t2):=⟨t2,cv,rfl,s16.cz.free ht2,upd_same,hcs15.stp (s16.trans s17)⟩
   generalize upd H16 t2 (.tup cv) = H17 at s17 f17 ⊢
   have b17:=s16.trans s17
   have hws17 : IsDs (z.with l).ex H17 (ws.map Wt.d) wv:=(IsDs.less (fun b hb=>List.mem_cons_of_mem _ hb) hws15).stp b17
   refine ⟨_,rfl,z.with l,ws,.ref l2,rfl,⟨l2,wv,rfl,nl2,b17.ext.lst nl2p hw15,hws17⟩,by omega,s17.cz,fun sp ps H18 s18 hsp hpl hps=>?_⟩
   refine ⟨z.with l,ws,sp,ps,rfl,hsp,by omega,s18.cz,hps,fun ws' hl' hm' v19 H19 s19 f19=>?_⟩
   refine ⟨_,rfl,z.with l,_,f19,s19.cz,fun v20 H20 s20 f20=>?_⟩
   obtain ⟨k2,hk2,hk60⟩ : ∃ k2,L2.cutD (ws'.map Wt.d) none (some 60) = (ws'.take k2).map Wt.d/\k2 <= 60:=⟨_,by unfold L2.cutD;rw [HT.sIx_none,List.drop_zero,<- List.map_take],by
    have:=HT.sIx_nat (ws'.map Wt.d).length (ws'.map Wt.d).length 60
    have e60 : ((60 : Nat) : Int) = 60:=rfl
    rw [e60] at this
    rw [this]
    omega⟩
   rw [hk2] at f20
   refine ⟨z.with l,v20,_,rfl,f20,s20.cz,fun v21 H21 s21 f21=>?_⟩
   have b21:=s18.trans (s19.trans (s20.trans s21))
   refine ⟨z.with l,[.tuple (bs.map .int),.tuple (cs.map Cd.d),.tuple ((ws'.take k2).map Wt.d)],⟨_,_,rfl,(f16.stp s17).stp b21,_,_,rfl,f17.stp b21,_,_,rfl,f21,rfl⟩,(by show 3 <= 1000;decide),s21.cz,fun u H22 s22 f22=>?_⟩
   have b22 : Stp (z.with l) H9 H22:=(a15.back hl2 a9.cz.mem).trans (b17.trans (b21.trans s22))
   have c22 : Stp z H3 H22:=(a9.stp b22).back hl c.mem
   refine q ⟨bs,cs,ws'.take k2⟩ u H22 ?_ (sB3.trans c22) (IsD.less (fun b hb=>List.mem_cons_of_mem _ hb) f22)
   refine ⟨hbl,hbb,ic,hco9,hcn,hcd,hbk9,?_,fun w' hw'=>hwg w' (hm' w' (List.mem_of_mem_take hw'))⟩
   show (ws'.take k2).length <= 60
   have:=List.length_take_le k2 ws'
   omega
end
end K08
end

section
set_option Elab.async false
set_option linter.all false
set_option maxRecDepth 100000
namespace L2
open PySem PySem.Spec PyProof.Rows
section
variable {X : Cx}
theorem pi_zipTL {elts : List Expr} {q tpos} {l m : Expr} {ta : TA} {p pos : Pos} (hg : Gl X "zip") (hm : X.mg "zip" = none) (ha : PA X [l,m] ta) (hs : starEach [l,m] X.env = (false,eval l X.env) :: starEach [m] X.env:=by rfl) (hs2 : (backTo pos (starEach [m] X.env)).any (·.1) = false:=by rfl) :
  PI X (.Tuple elts q tpos) (.Call (.Name "zip" p) [l,m] [] pos) (fun σ H R=>iZip X.K ta σ H R\/iZipXL X.K ta σ H R):=by
 intro pins s σ H R I h
 rcases h with h | h
 ·exact pi_zip hg hm ha hs hs2 pins s σ H R I h
 ·exact pi_zipXL hg hm ha hs hs2 pins s σ H R I h
end
theorem lcomp_zipL {K : PySem.W.Frag} {a c : Addr} {xs ys : List V} {g : TG} {te : TE} {σc : St} {H : Hp} {Q : VK} (hlen : ys.length = xs.length) (Pv : Nat->List V->Hp->Prop) (h0 : Pv 0 [] H) (hok : ∀ i vs H,Pv i vs H->SqL K H a xs/\SqL K H c ys)
  (step : ∀ i x y T vs H,xs[i]? = some x->ys[i]? = some y->i < xs.length->Pv i vs H->H T = none->g (.ref T) σc (upd H T (.tup [x,y])) fun σ2 H2=>te σ2 H2 fun v H4=>vs.length < sizeLine/\Nx xs.length i (Pv (i + 1) (vs ++ [v]) H4))
  (fin : ∀ vs H,Pv xs.length vs H->∀ p,H p = none->Q (.ref p) (upd H p (.lst vs))) : LComp (ItzxL K a c) g tYes te σc Q H:=by
 refine ⟨fun i m vs H=>m = xs.length - i/\i <= xs.length/\Pv i vs H,⟨xs.length,by simp,Nat.zero_le _,h0⟩,?_⟩
 rintro i m vs H ⟨rfl,hi,p⟩
 obtain ⟨o1,o2⟩:=hok i vs H p
 by_cases hlt : i < xs.length
 ·have hlt' : i < ys.length:=by omega
  refine .inr ⟨⟨xs,ys,xs[i],ys[i],o1,o2,by simp [hlt],by simp [hlt']⟩,fun v H' yy=>?_⟩
  obtain ⟨T,x,y,rfl,hT,rfl,y1,y2⟩:=yy
  have e : (fun (σ2 : St) (H2 : Hp)=>tYes σ2 H2 fun b H3=>if b = true then te σ2 H3 fun v H4=>vs.length < sizeLine/\∃ m',m' < xs.length - i/\(m' = xs.length - (i + 1)/\i + 1 <= xs.length/\Pv (i + 1) (vs ++ [v]) H4) else ∃ m',m' < xs.length - i/\(m' = xs.length - (i + 1)/\i + 1 <= xs.length/\Pv (i + 1) vs H3)) =
    fun σ2 H2=>te σ2 H2 fun v H4=>vs.length < sizeLine/\Nx xs.length i (Pv (i + 1) (vs ++ [v]) H4):=by
   funext σ2 H2
   unfold tYes
   dsimp only
   rw [if_pos rfl]
   rfl
  rw [e]
  exact step i x y T vs H (y1 xs o1) (y2 ys o2) hlt p hT
 ·have e : i = xs.length:=by omega
  subst e
  exact .inl ⟨⟨xs,ys,o1,o2,.inl rfl⟩,fin vs H p⟩
end L2
end

section
set_option Elab.async false
set_option linter.all false
set_option maxRecDepth 100000
set_option maxHeartbeats 1000000
namespace K08
open PySem PySem.Spec L2 PyProof.Rows
def flatD (d : PyData) : Prop:=(∃ x,d = .str x/\PySem.PyData.strOk x = true)\/(∃ i,d = .int i)\/∃ b,d = .bool b
def okS : Nat->PyData->Prop
 | 0,d=>flatD d
 | n + 1,d=>flatD d\/∃ ds,(d = .tuple ds\/d = .list ds)/\ds.length <= 100/\∀ e ∈ ds,okS n e
def spS : Nat->Sp
 | 0=>fun _ _ _ _=>False
 | n + 1=>fun vs H Q _=>∃ (d : PyData) (v u : V),vs = [v,u]/\IsD [] H d v/\IsD [] H d u/\okS n d/\∀ H',Ext [] H H'->Q (.bl true) H'
theorem okS_cases {n : Nat} {d : PyData} (h : okS n d) : flatD d\/∃ m ds,n = m + 1/\(d = .tuple ds\/d = .list ds)/\ds.length <= 100/\∀ e ∈ ds,okS m e:=by
 cases n with
 | zero=>exact .inl h
 | succ n =>
  rcases h with hf | ⟨ds,hd,hl,hds⟩
  ·exact .inl hf
  ·exact .inr ⟨n,ds,rfl,hd,hl,hds⟩
theorem flat_sh {d : PyData} (h : flatD d) : Sh 0 d:=by
 rcases h with ⟨x,rfl,hx⟩ | ⟨i,rfl⟩ | ⟨b,rfl⟩
 ·exact ⟨hx,Nat.le_refl _⟩
 ·exact sh_int i
 ·exact sh_bool b
section
variable {P : Program} {w : World} {K : PySem.W.Frag} {mg : Str->Option Value} {base : Heap} {ts : List Addr}
abbrev s__law_same : Stmt:=top 27
theorem sc__law_same : FnScope ["_law_found","_law_due"] ["_law_found","_law_due"] (defScope s__law_same):=⟨rfl,rfl,rfl,by decide +kernel,rfl,by decide +kernel,by decide +kernel⟩
theorem ok_same {f : Addr} {fd : FuncData} (n : Nat) (F : Fun K "_law_same" "_law_same" s__law_same f fd) (T : Txt K mg) (C__law_same : CallOk P w K mg base "_law_same" n ["_law_found","_law_due"] (spS n)) : FnOk P w K mg base CX0 (n + 1) f fd ["_law_found","_law_due"] (spS (n + 1)):=by
 refine F.ok sc__law_same (fun vs H Q E h=>?_) (fun cdv A outer s H vs Q E hr h=>?_)
 ·obtain ⟨d,v,u,rfl,_⟩:=h
  rfl
 obtain ⟨d,v,u,rfl,hv,hu',ok,q⟩:=h
 have hu:=hr.units
 refine' ⟨_,?hh,?rr⟩
 case hh=>(refine' pss_cons ?hzb ?hAb;(case hzb=>refine' ps_if ?hmb ?hnb pss_nil;(case hmb=>refine' PW.pt ?hk;(case hk=>refine' pw_or ?hi ?hj;(case hi=>refine' pt_val ?hd;(case hd=>refine' pe_callB call_isi rfl T.b_isinstance boot_isi ?hc;(case hc=>refine' pa_c (pv 1) ?hb;(case hb=>refine' pa_c (pe_bltn (v:=.ty "tuple") rfl T.b_tuple boot_ttuple rfl) pa_nil))));(case hj=>refine' pw_or1 ?hh;(case hh=>refine' pt_val ?hg;(case hg=>refine' pe_callB call_isi rfl T.b_isinstance boot_isi ?hf;(case hf=>refine' pa_c (pv 1) ?he;(case he=>refine' pa_c (pe_bltn (v:=.ty "list") rfl T.b_list boot_tlist rfl) pa_nil)))))));(case hnb=>refine' pss_cons ?hkb ?hlb;(case hkb=>refine' ps_if ?hs ?ht pss_nil;(case hs=>refine' pt_cmpR op_ne ?hp ?hq (nomark _);(case hp=>refine' pe_callB call_isi rfl T.b_isinstance boot_isi ?hm;(case hm=>refine' pa_c (pv 0) ?hl;(case hl=>refine' pa_c (pe_bltn (v:=.ty "tuple") rfl T.b_tuple boot_ttuple rfl) pa_nil)));(case hq=>refine' pe_callB call_isi rfl T.b_isinstance boot_isi ?ho;(case ho=>refine' pa_c (pv 1) ?hn;(case hn=>refine' pa_c (pe_bltn (v:=.ty "tuple") rfl T.b_tuple boot_ttuple rfl) pa_nil))));(case ht=>refine' pss_one ?hr;(case hr=>refine' ps_ret pe_bl)));(case hlb=>refine' pss_cons ?hib ?hjb;(case hib=>refine' ps_if ?hJ ?hK pss_nil;(case hJ=>refine' PW.pt ?hH;(case hH=>refine' pw_or ?hF ?hG;(case hF=>refine' pt_cmpR op_ne ?hy ?hz (nomark _);(case hy=>refine' pe_callB call_isi rfl T.b_isinstance boot_isi ?hv;(case hv=>refine' pa_c (pv 0) ?hu;(case hu=>refine' pa_c (pe_bltn (v:=.ty "list") rfl T.b_list boot_tlist rfl) pa_nil)));(case hz=>refine' pe_callB call_isi rfl T.b_isinstance boot_isi ?hx;(case hx=>refine' pa_c (pv 1) ?hw;(case hw=>refine' pa_c (pe_bltn (v:=.ty "list") rfl T.b_list boot_tlist rfl) pa_nil))));(case hG=>refine' pw_or1 ?hE;(case hE=>refine' pt_cmpR op_ne ?hC ?hD (nomark _);(case hC=>refine' pe_callB call_len_seq rfl T.b_len PySem.boot_len ?hA;(case hA=>refine' pa_c (pv 0) pa_nil));(case hD=>refine' pe_callB call_len_seq rfl T.b_len PySem.boot_len ?hB;(case hB=>refine' pa_c (pv 1) pa_nil))))));(case hK=>refine' pss_one ?hI;(case hI=>refine' ps_ret pe_bl)));(case hjb=>refine' pss_one ?hhb;(case hhb=>refine' ps_ret ?hgb;(case hgb=>refine' pe_callB (call_all_list rfl) rfl T.b_all boot_ball ?hfb;(case hfb=>refine' pa_c ?heb pa_nil;(case heb=>refine' pe_lcomp rfl ?hW (compN ["_law_one","_law_other"] 2 []) ?hX ?hY ?hZ ?hab ?hbb ?hcb ?hdb;(case hW=>exact ⟨rfl,by decide +kernel,by decide +kernel,(show ∀ y : Str × NameKind,y ∈ _->y.2 = NameKind.free->(defScope s__law_same).names.lookup y.1 = some .cell\/(defScope s__law_same).names.lookup y.1 = some .free from by decide +kernel)⟩);(case hX=>decide +kernel);(case hY=>decide);(case hZ=>refine' pi_zipTL rfl T.b_zip ?hM;(case hM=>refine' pa_c (pv 0) ?hL;(case hL=>refine' pa_c (pv 1) pa_nil)));(case hab=>intro _ _ _ _;refine' pg_tupK (K:=K) (n:=2) rfl rfl ?hS;(case hS=>refine' pgs_cons ?hQ ?hR;(case hQ=>refine' pg_name ?hN (ixAt 0) (Or.inl rfl) (Or.inr rfl);(case hN=>exact (show (["_law_one","_law_other"] : List Str).Nodup from by decide +kernel)));(case hR=>refine' pgs_cons ?hP pgs_nil;(case hP=>refine' pg_name ?hO (ixAt 1) (Or.inl rfl) (Or.inr rfl);(case hO=>exact (show (["_law_one","_law_other"] : List Str).Nodup from by decide +kernel))))));(case hbb=>exact (gown_tup (gsown_cons (by decide) (gsown_cons (by decide) gsown_nil))));(case hcb=>intro _ _ _ _;exact pts_nil);(case hdb=>intro _ _ _ _;refine' pe_cl C__law_same hr ?hU rfl ?hV;(case hU=>refine' pa_c (pv 0) ?hT;(case hT=>refine' pa_c (pv 1) pa_nil));(case hV=>first | decide | exact Nat.le_refl _))))))))));(case hAb=>refine' pss_one ?hyb;(case hyb=>refine' ps_ret ?hxb;(case hxb=>refine' pe_and ?hvb ?hwb;(case hvb=>refine' pe_cmpR op_eq ?hsb ?htb (nomark _);(case hsb=>refine' pe_callB call_isi rfl T.b_isinstance boot_isi ?hpb;(case hpb=>refine' pa_c (pv 0) ?hob;(case hob=>refine' pa_c (pe_bltn (v:=.ty "bool") rfl T.b_bool boot_tbool rfl) pa_nil)));(case htb=>refine' pe_callB call_isi rfl T.b_isinstance boot_isi ?hrb;(case hrb=>refine' pa_c (pv 1) ?hqb;(case hqb=>refine' pa_c (pe_bltn (v:=.ty "bool") rfl T.b_bool boot_tbool rfl) pa_nil))));(case hwb=>refine' pe_one ?hub;(case hub=>refine' pe_cmpR (op_eqD hu) (pv 0) (pv 1) (nomark _)))))))
 rcases okS_cases ok with hf | ⟨m,ds,rfl,rfl | rfl,hl,hds⟩
 ·skip
  have sh:=flat_sh hf
  refine ⟨_,rfl,_,_,_,_,rfl,hu'.ty,kit_tuple d,_,rfl,?_⟩
  have e1 : isiD "tuple" d = false:=by rcases hf with ⟨x,rfl,hx⟩ | ⟨i,rfl⟩ | ⟨b,rfl⟩ <;> rfl
  have e2 : isiD "list" d = false:=by rcases hf with ⟨x,rfl,hx⟩ | ⟨i,rfl⟩ | ⟨b,rfl⟩ <;> rfl
  rw [e1]
  refine iteF ?_
  refine ⟨_,rfl,_,_,_,_,rfl,hu'.ty,kit_list d,_,rfl,?_⟩
  rw [e2]
  refine iteF ?_
  refine ⟨_,rfl,_,_,_,_,rfl,hv.ty,kit_bool d,_,rfl,_,_,_,_,rfl,hu'.ty,kit_bool d,rfl,_,rfl,?_⟩
  rw [decide_eq_true rfl]
  refine iteT ?_
  refine ⟨_,rfl,_,rfl,d,d,hv,hu',sh.shaped,sh.shaped,?_⟩
  rw [sh.refl]
  exact q H Ext.refl
 ·skip
  obtain ⟨a,xs,rfl,na,ha,hxs⟩:=id hv
  obtain ⟨c,ys,rfl,nc,hc,hys⟩:=id hu'
  have lx:=hxs.length
  have ly:=hys.length
  refine ⟨_,rfl,_,_,_,_,rfl,hu'.ty,kit_tuple _,_,rfl,?_⟩
  refine iteT (iteT ?_)
  refine ⟨_,rfl,_,_,_,_,rfl,hv.ty,kit_tuple _,_,rfl,_,_,_,_,rfl,hu'.ty,kit_tuple _,rfl,_,rfl,?_⟩
  rw [decide_eq_true rfl]
  refine iteF ?_
  refine ⟨_,rfl,_,_,_,_,rfl,hv.ty,kit_list _,_,rfl,_,_,_,_,rfl,hu'.ty,kit_list _,rfl,_,rfl,?_⟩
  rw [decide_eq_true rfl]
  refine iteF ?_
  refine ⟨_,rfl,a,_,rfl,.inr (SqT.of ha),_,rfl,c,_,rfl,.inr (SqT.of hc),rfl,_,rfl,?_⟩
  rw [lx,ly,decide_eq_true rfl]
  refine iteF ?_
  refine .inl ⟨_,rfl,_,rfl,a,c,rfl,⟨xs,SqT.of ha⟩,⟨ys,SqT.of hc⟩,lcomp_zip (xs:=xs) (ys:=ys) (by omega) (fun i vs H2=>Ext [] H H2/\vs = (List.replicate i true).map V.bl) ⟨Ext.refl,rfl⟩ (fun _ _ _ h=>⟨SqT.of (h.1.tup (by simp) ha),SqT.of (h.1.tup (by simp) hc)⟩) ?_ ?_⟩
  ·rintro i x1 y1 T1 vs H2 hx1 hy1 hi ⟨e,rfl⟩ hT
   have hi' : i < ds.length:=by omega
   have hdi:=List.getElem?_eq_getElem hi'
   obtain ⟨x1',hx1',dx⟩:=hxs.get hdi
   rw [hx1] at hx1'
   cases hx1'
   obtain ⟨y1',hy1',dy⟩:=hys.get hdi
   rw [hy1] at hy1'
   cases hy1'
   have x3 : Ext [] H2 (upd H2 T1 (.tup [x1,y1])):=Ext.new hT _
   have hT3 : upd H2 T1 (.tup [x1,y1]) T1 = some (.tup [x1,y1]):=upd_same
   generalize upd H2 T1 (.tup [x1,y1]) = H3 at x3 hT3 ⊢
   have e3:=e.trans x3
   refine ⟨T1,_,rfl,SqT.of hT3,rfl,_,_,rfl,_,_,rfl,rfl,?_⟩
   refine ⟨_,rfl,_,rfl,ds[i],x1,y1,rfl,IsD.ext e3 dx,IsD.ext e3 dy,hds _ (List.getElem_mem hi'),fun H4 e4=>⟨?_,nx hi ⟨e3.trans e4,?_⟩⟩⟩
   ·rw [List.length_map,List.length_replicate]
    exact small1000 (by omega)
   ·rw [List.replicate_succ',List.map_append]
    rfl
  ·rintro vs H2 ⟨e,rfl⟩ p hp
   refine ⟨p,_,rfl,SqL.of upd_same,?_⟩
   have : (List.replicate xs.length true).all id = true:=by simp
   rw [this]
   exact q _ (e.trans (Ext.new hp _))
 ·skip
  obtain ⟨a,xs,rfl,na,ha,hxs⟩:=id hv
  obtain ⟨c,ys,rfl,nc,hc,hys⟩:=id hu'
  have lx:=hxs.length
  have ly:=hys.length
  refine ⟨_,rfl,_,_,_,_,rfl,hu'.ty,kit_tuple _,_,rfl,?_⟩
  refine iteF ?_
  refine ⟨_,rfl,_,_,_,_,rfl,hu'.ty,kit_list _,_,rfl,?_⟩
  refine iteT ?_
  refine ⟨_,rfl,_,_,_,_,rfl,hv.ty,kit_tuple _,_,rfl,_,_,_,_,rfl,hu'.ty,kit_tuple _,rfl,_,rfl,?_⟩
  rw [decide_eq_true rfl]
  refine iteF ?_
  refine ⟨_,rfl,_,_,_,_,rfl,hv.ty,kit_list _,_,rfl,_,_,_,_,rfl,hu'.ty,kit_list _,rfl,_,rfl,?_⟩
  rw [decide_eq_true rfl]
  refine iteF ?_
  refine ⟨_,rfl,a,_,rfl,.inl (SqL.of ha),_,rfl,c,_,rfl,.inl (SqL.of hc),rfl,_,rfl,?_⟩
  rw [lx,ly,decide_eq_true rfl]
  refine iteF ?_
  refine .inr ⟨_,rfl,_,rfl,a,c,rfl,⟨xs,SqL.of ha⟩,⟨ys,SqL.of hc⟩,lcomp_zipL (xs:=xs) (ys:=ys) (by omega) (fun i vs H2=>Ext [] H H2/\vs = (List.replicate i true).map V.bl) ⟨Ext.refl,rfl⟩ (fun _ _ _ h=>⟨SqL.of (h.1.lst (by simp) ha),SqL.of (h.1.lst (by simp) hc)⟩) ?_ ?_⟩
  ·rintro i x1 y1 T1 vs H2 hx1 hy1 hi ⟨e,rfl⟩ hT
   have hi' : i < ds.length:=by omega
   have hdi:=List.getElem?_eq_getElem hi'
   obtain ⟨x1',hx1',dx⟩:=hxs.get hdi
   rw [hx1] at hx1'
   cases hx1'
   obtain ⟨y1',hy1',dy⟩:=hys.get hdi
   rw [hy1] at hy1'
   cases hy1'
   have x3 : Ext [] H2 (upd H2 T1 (.tup [x1,y1])):=Ext.new hT _
   have hT3 : upd H2 T1 (.tup [x1,y1]) T1 = some (.tup [x1,y1]):=upd_same
   generalize upd H2 T1 (.tup [x1,y1]) = H3 at x3 hT3 ⊢
   have e3:=e.trans x3
   refine ⟨T1,_,rfl,SqT.of hT3,rfl,_,_,rfl,_,_,rfl,rfl,?_⟩
   refine ⟨_,rfl,_,rfl,ds[i],x1,y1,rfl,IsD.ext e3 dx,IsD.ext e3 dy,hds _ (List.getElem_mem hi'),fun H4 e4=>⟨?_,nx hi ⟨e3.trans e4,?_⟩⟩⟩
   ·rw [List.length_map,List.length_replicate]
    exact small1000 (by omega)
   ·rw [List.replicate_succ',List.map_append]
    rfl
  ·rintro vs H2 ⟨e,rfl⟩ p hp
   refine ⟨p,_,rfl,SqL.of upd_same,?_⟩
   have : (List.replicate xs.length true).all id = true:=by simp
   rw [this]
   exact q _ (e.trans (Ext.new hp _))
theorem call_same {f : Addr} {fd : FuncData} (F : Fun K "_law_same" "_law_same" s__law_same f fd) (T : Txt K mg) (hm : mg "_law_same" = some (.ref f)) (hk : PySem.W.keepIn K (.ref f) = true) (hb : Binds K fd ["_law_found","_law_due"] []) : ∀ n,CallOk P w K mg base "_law_same" n ["_law_found","_law_due"] (spS n)
 | 0=>⟨f,fd,⟨fun _ _ _ _ h=>h.elim,fun _ _ _ _ _ _ _ _ _ _ _ _ _ h=>h.elim⟩,hm,hk,hb⟩
 | n + 1=>⟨f,fd,ok_same n F T (call_same F T hm hk hb n),hm,hk,hb⟩
end
end K08
end

section
set_option Elab.async false
set_option linter.all false
set_option maxRecDepth 100000
set_option maxHeartbeats 1000000
namespace K08
open PySem PySem.Spec L2 PyProof.Rows PySem.W
structure XcC (K : PySem.W.Frag) (CE CC CK CL CO : Addr) : Prop where
 m : mroIn K CC (.ref CE) = some true
 k : kindIn K CC = true
 a : attrIn K CC "card" = true
 iC : kitOne K (.ref CC) (.ref CC) = some true
 iV : kitOne K (.ref CC) (.type "ValueError") = some true
 iO : kitAny K (.ref CC) [.ref CK,.ref CL,.ref CO] = some false
structure TxC (K : PySem.W.Frag) (mg : Str->Option Value) (CE CC CK CL CO : Addr) : Prop where
 b_isinstance : mg "isinstance" = none
 b_ValueError : mg "ValueError" = none
 c_NoCard : ∃ u,mg "NoCard" = some u/\RelV (.ref CC) u
 c_NoKind : ∃ u,mg "NoKind" = some u/\RelV (.ref CK) u
 c_NoLane : ∃ u,mg "NoLane" = some u/\RelV (.ref CL) u
 c_Out : ∃ u,mg "Out" = some u/\RelV (.ref CO) u
 d_LaneError : mg "LaneError" = some (.ref CE)
 x_LaneError : excClsIn K CE = true
def spRef : Sp:=fun vs H Q _=>∃ (p : Pl) (s : Sd) (v u : V) (x : Str) (wy : Int),vs = [v,u,.str x,.int wy]/\IsD [] H p.d v/\IsD [] H s.d u/\POk p/\SOk p s/\x.length <= 1000/\s.cd? x = none/\∀ H',Ext [] H H'->Q (.bl true) H'
section
variable {P : Program} {w : World} {K : PySem.W.Frag} {mg : Str->Option Value} {base : Heap} {CE CC CK CL CO : Addr}
abbrev s__law_refused : Stmt:=top 28
theorem sc__law_refused : FnScope ["_law_plan_here","_law_stand_here","_law_name","_law_way","_law_told","e"] ["_law_plan_here","_law_stand_here","_law_name","_law_way"] (defScope s__law_refused):=⟨rfl,rfl,rfl,by decide +kernel,rfl,by decide +kernel,by decide +kernel⟩
theorem ok_refused {f : Addr} {fd : FuncData} (F : Fun K "_law_refused" "_law_refused" s__law_refused f fd) (T : TxC K mg CE CC CK CL CO) (Xc : XcC K CE CC CK CL CO) (C_card_of : CallOkX P w K mg base "card_of" 4 ["stand","card"] (spCard CC)) (C_lane_of : CallOkX P w K mg base "lane_of" 7 ["plan","stand","card"] (spLaneOf CC)) : FnOk P w K mg base CX0 8 f fd ["_law_plan_here","_law_stand_here","_law_name","_law_way"] spRef:=by
 refine F.ok sc__law_refused (fun vs H Q E h=>?_) (fun cdv A outer s H vs Q E hr h=>?_)
 ·obtain ⟨p,sd,v,u,x,wy,rfl,_⟩:=h
  rfl
 obtain ⟨p,sd,v,u,x,wy,rfl,hp,hs,Po,So,hx,hn,q⟩:=h
 refine' ⟨_,?hh,?rr⟩
 case hh=>(refine' pss_cons ?hT ?hU;(case hT=>refine' ps_set sc__law_refused.nd (ixAt 4) (Or.inl rfl) pe_bl);(case hU=>refine' pss_cons ?hR ?hS;(case hR=>refine' ps_try ?hO ?hP sc__law_refused.nd (ixAt 5) T.d_LaneError T.x_LaneError;(case hO=>intro _ _;refine' pss_one ?hp;(case hp=>refine' ps_if ?hm ?hn ?ho;(case hm=>refine' pt_cmpR op_eq (pv 3) pe_int (nomark _));(case hn=>refine' pss_one ?hf;(case hf=>refine' ps_expr ?he;(case he=>refine' pe_clX xe_tr C_card_of hr ?hc rfl ?hd;(case hc=>refine' pa_c (pv 1) ?hb;(case hb=>refine' pa_c (pv 2) pa_nil));(case hd=>decide))));(case ho=>refine' pss_one ?hl;(case hl=>refine' ps_expr ?hk;(case hk=>refine' pe_clX xe_tr C_lane_of hr ?hi rfl ?hj;(case hi=>refine' pa_c (pv 0) ?hh;(case hh=>refine' pa_c (pv 1) ?hg;(case hg=>refine' pa_c (pv 2) pa_nil)));(case hj=>decide))))));(case hP=>intro _;refine' pss_cons ?hM ?hN;(case hM=>refine' ps_set sc__law_refused.nd (ixAt 4) (Or.inl rfl) ?hA;(case hA=>refine' pe_and ?hy ?hz;(case hy=>refine' pe_callB call_isix rfl T.b_isinstance boot_isi ?hr;(case hr=>refine' pa_c (pv 5) ?hq;(case hq=>refine' pa_c (pe_gl T.c_NoCard) pa_nil)));(case hz=>refine' pe_and ?hw ?hx;(case hw=>refine' pe_callB call_isix rfl T.b_isinstance boot_isi ?ht;(case ht=>refine' pa_c (pv 5) ?hs;(case hs=>refine' pa_c (pe_bltn (v:=.ty "ValueError") rfl T.b_ValueError boot_tVE rfl) pa_nil)));(case hx=>refine' pe_one ?hv;(case hv=>refine' pe_cmpR op_eq ?hu (pv 2) (nomark _);(case hu=>refine' pe_xfld (pv 5)))))));(case hN=>refine' pss_one ?hL;(case hL=>refine' ps_if ?hJ ?hK pss_nil;(case hJ=>refine' pt_val ?hH;(case hH=>refine' pe_callB call_isixT rfl T.b_isinstance boot_isi ?hG;(case hG=>refine' pa_c (pv 5) ?hF;(case hF=>refine' pa_c ?hE pa_nil;(case hE=>refine' pe_tup ?hD;(case hD=>refine' pa_c (pe_gl T.c_NoKind) ?hC;(case hC=>refine' pa_c (pe_gl T.c_NoLane) ?hB;(case hB=>refine' pa_c (pe_gl T.c_Out) pa_nil))))))));(case hK=>refine' pss_one ?hI;(case hI=>refine' ps_set sc__law_refused.nd (ixAt 4) (Or.inl rfl) pe_bl))))));(case hS=>refine' pss_one ?hQ;(case hQ=>refine' ps_ret (pv 4)))))
 refine ⟨_,rfl,rfl,_,rfl,?_⟩
 refine ite2 (fun c1=>?_) (fun c1=>?_)
 ·refine ⟨_,rfl,_,rfl,sd,u,x,rfl,hs,hx,fun c' u' H' z=>absurd (hn.symm.trans z) (by simp),fun _ ex dx H2 e2 he2 hdx e' C' h1 h2=>?_⟩
  cases h1
  obtain ⟨rfl,_⟩:=excO_inj (Option.some.inj (he2.symm.trans h2))
  refine ⟨Xc.m,?_⟩
  refine ⟨_,rfl,ex,CC,dx,_,_,_,_,rfl,he2,hdx,Xc.k,rfl,Xc.iC,_,rfl,iteT ?_⟩
  refine ⟨_,rfl,ex,CC,dx,_,_,_,_,rfl,he2,hdx,Xc.k,rfl,Xc.iV,_,rfl,iteT ?_⟩
  refine ⟨_,rfl,ex,CC,dx,_,_,rfl,he2,hdx,Xc.a,rfl,_,rfl,rfl,?_⟩
  refine ⟨_,rfl,(show 3 <= sizeLine by decide),fun p3 hp3=>?_⟩
  have e3 : Ext [] H2 (upd H2 p3 (.tup [.ref CK,.ref CL,.ref CO])):=Ext.new hp3 _
  have he3:=e3.old _ _ (by simp) he2 (by intro ps z;cases z)
  have hd3:=e3.old _ _ (by simp) hdx (by intro ps z;cases z)
  refine ⟨ex,CC,dx,_,p3,[CK,CL,CO],_,rfl,he3,hd3,Xc.k,upd_same,Xc.iO,_,rfl,iteF ?_⟩
  refine ⟨_,rfl,?_⟩
  rw [decide_eq_true rfl]
  exact q _ (e2.trans e3)
 ·refine ⟨_,rfl,_,rfl,_,rfl,p,sd,v,u,x,rfl,hp,hs,hx,Po,So,fun c' H' z=>absurd (hn.symm.trans z) (by simp),fun _ ex dx H2 e2 he2 hdx e' C' h1 h2=>?_⟩
  cases h1
  obtain ⟨rfl,_⟩:=excO_inj (Option.some.inj (he2.symm.trans h2))
  refine ⟨Xc.m,?_⟩
  refine ⟨_,rfl,ex,CC,dx,_,_,_,_,rfl,he2,hdx,Xc.k,rfl,Xc.iC,_,rfl,iteT ?_⟩
  refine ⟨_,rfl,ex,CC,dx,_,_,_,_,rfl,he2,hdx,Xc.k,rfl,Xc.iV,_,rfl,iteT ?_⟩
  refine ⟨_,rfl,ex,CC,dx,_,_,rfl,he2,hdx,Xc.a,rfl,_,rfl,rfl,?_⟩
  refine ⟨_,rfl,(show 3 <= sizeLine by decide),fun p3 hp3=>?_⟩
  have e3 : Ext [] H2 (upd H2 p3 (.tup [.ref CK,.ref CL,.ref CO])):=Ext.new hp3 _
  have he3:=e3.old _ _ (by simp) he2 (by intro ps z;cases z)
  have hd3:=e3.old _ _ (by simp) hdx (by intro ps z;cases z)
  refine ⟨ex,CC,dx,_,p3,[CK,CL,CO],_,rfl,he3,hd3,Xc.k,upd_same,Xc.iO,_,rfl,iteF ?_⟩
  refine ⟨_,rfl,?_⟩
  rw [decide_eq_true rfl]
  exact q _ (e2.trans e3)
end
end K08
end

section
set_option Elab.async false
set_option linter.all false
set_option maxRecDepth 100000
set_option maxHeartbeats 1000000
namespace K08
open PySem PySem.Spec L2 PyProof.Rows PySem.W
def spRight : Sp:=fun vs H Q _=>∃ (p : Pl) (s : Sd) (v u nv : V) (ns : List Str),vs = [v,u,nv]/\IsD [] H p.d v/\IsD [] H s.d u/\IsD [] H (.list (ns.map .str)) nv/\PlG p/\SdG p s/\ns.length <= 100/\(∀ x ∈ ns,x.length <= 1000)/\∀ H',Ext [] H H'->Q (.bl true) H'
section
variable {P : Program} {w : World} {K : PySem.W.Frag} {mg : Str->Option Value} {base : Heap} {CC CE CK CL CO : Addr}
theorem _root_.L2.Ext.drop {H H1 : Hp} {fa : Addr} {o : HO} (e : Ext [] H H1) (h : H fa = none) : Ext [] H (upd H1 fa o) where
 old:=fun b u hb hu ht=>by rw [upd_ne (ne_of_none hu h)];exact e.old b u hb hu ht
 tab:=fun b ps hb hu=>by rw [upd_ne (ne_of_none hu h)];exact e.tab b ps hb hu
abbrev s__law_right : Stmt:=top 29
theorem sc__law_right : FnScope ["_law_plan_here","_law_stand_here","_law_names","_law_there","_law_one","_law_name","_law_lane_here","_law_due","_law_turn","_law_found","_law_kind_here","_law_many"] ["_law_plan_here","_law_stand_here","_law_names"] (defScope s__law_right):=⟨rfl,rfl,rfl,by decide +kernel,rfl,by decide +kernel,by decide +kernel⟩
theorem ok_right {f : Addr} {fd : FuncData} (F : Fun K "_law_right" "_law_right" s__law_right f fd) (T : Txt K mg) (C__law_lane : CallOk P w K mg base "_law_lane" 2 ["_law_plan_here","_law_one"] spLLane) (C__law_same : CallOk P w K mg base "_law_same" 2 ["_law_found","_law_due"] (spS 2)) (C__law_refused : CallOk P w K mg base "_law_refused" 8 ["_law_plan_here","_law_stand_here","_law_name","_law_way"] spRef)
  (C_card_of : CallOkX P w K mg base "card_of" 4 ["stand","card"] (spCard CC)) (C_lane_of : CallOkX P w K mg base "lane_of" 7 ["plan","stand","card"] (spLaneOf CC)) (C_cards_in : CallOk P w K mg base "cards_in" 7 ["plan","stand","lane"] spIn) (C_many_of : CallOk P w K mg base "many_of" 7 ["plan","stand","lane","kind"] spMany) :
  FnOk P w K mg base CX0 9 f fd ["_law_plan_here","_law_stand_here","_law_names"] spRight:=by
 refine F.ok sc__law_right (fun vs H Q E h=>?_) (fun cdv A outer s H vs Q E hr h=>?_)
 ·obtain ⟨p,sd,v,u,nv,ns,rfl,_⟩:=h
  rfl
 obtain ⟨p,sd,v,u,nv,ns,rfl,hp,hs,hns,G,SG,hnl,hnx,q⟩:=h
 have Po:=G.ok
 have So:=SG.ok
 refine' ⟨_,?hh,?rr⟩
 case hh=>(refine' pss_cons ?hPd ?hQd;(case hPd=>refine' ps_setC sc__law_right.nd (ixAt 3) (Or.inl rfl) rfl ?he (compN ["_law_one"] 1 []) ?hf ?hg ?hh ?hi ?hj ?hk ?hl;(case he=>exact ⟨rfl,by decide +kernel,by decide +kernel,(show ∀ y : Str × NameKind,y ∈ _->y.2 = NameKind.free->(defScope s__law_right).names.lookup y.1 = some .cell\/(defScope s__law_right).names.lookup y.1 = some .free from by decide +kernel)⟩);(case hf=>decide +kernel);(case hg=>decide);(case hh=>refine' pi_tup ?hb;(case hb=>refine' pe_ix ix_tup (pv 1) pe_int (fun _ _=>rfl)));(case hi=>intro _ _ _ _;refine' pg_name ?hc (ixAt 0) (Or.inl rfl) (Or.inr rfl);(case hc=>exact (show (["_law_one"] : List Str).Nodup from by decide +kernel)));(case hj=>exact (gown_name (by decide)));(case hk=>intro _ _ _ _;exact pts_nil);(case hl=>intro _ _ _ _;refine' pe_ix ?hd (pv 0) pe_int (fun _ _=>rfl);(case hd=>exact (show IxR _ (rIxT K) from ix_tup))));(case hQd=>refine' pss_cons ?hNd ?hOd;(case hNd=>refine' ps_for PassesOwn.never rfl ?hV ?hW ?hX;(case hV=>refine' pi_tup ?hm;(case hm=>refine' pe_ix ix_tup (pv 1) pe_int (fun _ _=>rfl)));(case hW=>refine' pg_name sc__law_right.nd (ixAt 4) (Or.inl rfl) (Or.inl rfl));(case hX=>refine' pss_cons ?hT ?hU;(case hT=>refine' ps_if ?hy ?hz pss_nil;(case hy=>refine' pt_not ?hw;(case hw=>refine' pt_val ?hv;(case hv=>refine' pe_cl C__law_same hr ?ht rfl ?hu;(case ht=>refine' pa_c ?hr ?hs;(case hr=>refine' pe_clX xe_never C_card_of hr ?hp rfl ?hq;(case hp=>refine' pa_c (pv 1) ?ho;(case ho=>refine' pa_c ?hn pa_nil;(case hn=>refine' pe_ix ix_tup (pv 4) pe_int (fun _ _=>rfl))));(case hq=>decide));(case hs=>refine' pa_c (pv 4) pa_nil));(case hu=>first | decide | exact Nat.le_refl _))));(case hz=>refine' pss_one ?hx;(case hx=>refine' ps_ret pe_bl)));(case hU=>refine' pss_one ?hS;(case hS=>refine' ps_if ?hQ ?hR pss_nil;(case hQ=>refine' pt_not ?hO;(case hO=>refine' pt_val ?hN;(case hN=>refine' pe_cl C__law_same hr ?hL rfl ?hM;(case hL=>refine' pa_c ?hJ ?hK;(case hJ=>refine' pe_clX xe_never C_lane_of hr ?hD rfl ?hE;(case hD=>refine' pa_c (pv 0) ?hC;(case hC=>refine' pa_c (pv 1) ?hB;(case hB=>refine' pa_c ?hA pa_nil;(case hA=>refine' pe_ix ix_tup (pv 4) pe_int (fun _ _=>rfl)))));(case hE=>decide));(case hK=>refine' pa_c ?hI pa_nil;(case hI=>refine' pe_cl C__law_lane hr ?hG rfl ?hH;(case hG=>refine' pa_c (pv 0) ?hF;(case hF=>refine' pa_c (pv 4) pa_nil));(case hH=>decide))));(case hM=>first | decide | exact Nat.le_refl _))));(case hR=>refine' pss_one ?hP;(case hP=>refine' ps_ret pe_bl))))));(case hOd=>refine' pss_cons ?hLd ?hMd;(case hLd=>refine' ps_for PassesOwn.never rfl ?hFb ?hGb ?hHb;(case hFb=>refine' pi_list (pv 2));(case hGb=>refine' pg_name sc__law_right.nd (ixAt 5) (Or.inl rfl) (Or.inl rfl));(case hHb=>refine' pss_cons ?hDb ?hEb;(case hDb=>refine' ps_if ?hlb ?hmb pss_nil;(case hlb=>refine' PW.pt ?hjb;(case hjb=>refine' pw_and ?hhb ?hib;(case hhb=>refine' pt_cmpR op_notIn_seq (pv 5) (pv 3) ?hY;(case hY=>with_unfolding_all rfl));(case hib=>refine' pw_and1 ?hgb;(case hgb=>refine' pt_not ?hfb;(case hfb=>refine' pt_val ?heb;(case heb=>refine' pe_cl C__law_refused hr ?hcb rfl ?hdb;(case hcb=>refine' pa_c (pv 0) ?hbb;(case hbb=>refine' pa_c (pv 1) ?hab;(case hab=>refine' pa_c (pv 5) ?hZ;(case hZ=>refine' pa_c pe_int pa_nil))));(case hdb=>decide)))))));(case hmb=>refine' pss_one ?hkb;(case hkb=>refine' ps_ret pe_bl)));(case hEb=>refine' pss_one ?hCb;(case hCb=>refine' ps_if ?hAb ?hBb pss_nil;(case hAb=>refine' PW.pt ?hyb;(case hyb=>refine' pw_and ?hwb ?hxb;(case hwb=>refine' pt_cmpR op_notIn_seq (pv 5) (pv 3) ?hnb;(case hnb=>with_unfolding_all rfl));(case hxb=>refine' pw_and1 ?hvb;(case hvb=>refine' pt_not ?hub;(case hub=>refine' pt_val ?htb;(case htb=>refine' pe_cl C__law_refused hr ?hrb rfl ?hsb;(case hrb=>refine' pa_c (pv 0) ?hqb;(case hqb=>refine' pa_c (pv 1) ?hpb;(case hpb=>refine' pa_c (pv 5) ?hob;(case hob=>refine' pa_c pe_int pa_nil))));(case hsb=>decide)))))));(case hBb=>refine' pss_one ?hzb;(case hzb=>refine' ps_ret pe_bl))))));(case hMd=>refine' pss_cons ?hJd ?hKd;(case hJd=>refine' ps_for PassesOwn.never rfl ?hFd ?hGd ?hHd;(case hFd=>refine' pi_range2 rfl T.b_range ?hOb;(case hOb=>refine' pa_c ?hMb ?hNb;(case hMb=>refine' pe_un un_neg pe_int);(case hNb=>refine' pa_c ?hLb pa_nil;(case hLb=>refine' pe_op op_add ?hKb pe_int;(case hKb=>refine' pe_callB call_len_seq rfl T.b_len PySem.boot_len ?hJb;(case hJb=>refine' pa_c ?hIb pa_nil;(case hIb=>refine' pe_ix ix_tup (pv 0) pe_int (fun _ _=>rfl))))))));(case hGd=>refine' pg_name sc__law_right.nd (ixAt 6) (Or.inr rfl) (Or.inl rfl));(case hHd=>refine' pss_cons ?hDd ?hEd;(case hDd=>refine' ps_setC sc__law_right.nd (ixAt 7) (Or.inl rfl) rfl ?hWb (compN ["_law_one","_law_plan_here","_law_lane_here"] 1 [0,6]) ?hXb ?hYb ?hZb ?hac ?hbc ?hcc ?hdc;(case hWb=>exact ⟨rfl,by decide +kernel,by decide +kernel,(show ∀ y : Str × NameKind,y ∈ _->y.2 = NameKind.free->(defScope s__law_right).names.lookup y.1 = some .cell\/(defScope s__law_right).names.lookup y.1 = some .free from by decide +kernel)⟩);(case hXb=>decide +kernel);(case hYb=>decide);(case hZb=>refine' pi_tup ?hPb;(case hPb=>refine' pe_ix ix_tup (pv 1) pe_int (fun _ _=>rfl)));(case hac=>intro _ _ _ _;refine' pg_name ?hQb (ixAt 0) (Or.inl rfl) (Or.inr rfl);(case hQb=>exact (show (["_law_one","_law_plan_here","_law_lane_here"] : List Str).Nodup from by decide +kernel)));(case hbc=>exact (gown_name (by decide)));(case hcc=>intro _ _ _ _;refine' pts_one ?hVb;(case hVb=>refine' pt_cmpR op_eq ?hUb (pv 2) (nomark _);(case hUb=>refine' pe_cl C__law_lane hr ?hSb rfl ?hTb;(case hSb=>refine' pa_c (pv 1) ?hRb;(case hRb=>refine' pa_c (pv 0) pa_nil));(case hTb=>decide))));(case hdc=>intro _ _ _ _;exact (pv 0)));(case hEd=>refine' pss_cons ?hBd ?hCd;(case hBd=>refine' ps_for PassesOwn.never rfl ?hKc ?hLc ?hMc;(case hKc=>refine' pi_range1 rfl T.b_range ?hec;(case hec=>refine' pa_c pe_int pa_nil));(case hLc=>refine' pg_name sc__law_right.nd (ixAt 8) (Or.inl rfl) (Or.inl rfl));(case hMc=>refine' pss_cons ?hIc ?hJc;(case hIc=>refine' ps_set sc__law_right.nd (ixAt 9) (Or.inl rfl) ?hjc;(case hjc=>refine' pe_cl C_cards_in hr ?hhc rfl ?hic;(case hhc=>refine' pa_c (pv 0) ?hgc;(case hgc=>refine' pa_c (pv 1) ?hfc;(case hfc=>refine' pa_c (pv 6) pa_nil)));(case hic=>decide)));(case hJc=>refine' pss_cons ?hGc ?hHc;(case hGc=>refine' ps_if ?hBc ?hCc pss_nil;(case hBc=>refine' pt_not ?hzc;(case hzc=>refine' pt_val ?hyc;(case hyc=>refine' pe_cl C__law_same hr ?hwc rfl ?hxc;(case hwc=>refine' pa_c (pv 9) ?hvc;(case hvc=>refine' pa_c ?huc pa_nil;(case huc=>refine' pe_lcomp rfl ?hmc (compN ["_law_one"] 1 []) ?hnc ?hoc ?hpc ?hqc ?hrc ?hsc ?htc;(case hmc=>exact ⟨rfl,by decide +kernel,by decide +kernel,(show ∀ y : Str × NameKind,y ∈ _->y.2 = NameKind.free->(defScope s__law_right).names.lookup y.1 = some .cell\/(defScope s__law_right).names.lookup y.1 = some .free from by decide +kernel)⟩);(case hnc=>decide +kernel);(case hoc=>decide);(case hpc=>refine' pi_list (pv 7));(case hqc=>intro _ _ _ _;refine' pg_name ?hkc (ixAt 0) (Or.inl rfl) (Or.inr rfl);(case hkc=>exact (show (["_law_one"] : List Str).Nodup from by decide +kernel)));(case hrc=>exact (gown_name (by decide)));(case hsc=>intro _ _ _ _;exact pts_nil);(case htc=>intro _ _ _ _;refine' pe_ix ?hlc (pv 0) pe_int (fun _ _=>rfl);(case hlc=>exact (show IxR _ (rIxT K) from ix_tup))))));(case hxc=>first | decide | exact Nat.le_refl _))));(case hCc=>refine' pss_one ?hAc;(case hAc=>refine' ps_ret pe_bl)));(case hHc=>refine' pss_one ?hFc;(case hFc=>refine' ps_expr ?hEc;(case hEc=>refine' pe_bm PySem.F.plainAttrs_list PySem.F.slot_list_append PySem.F.type_list_append mt_append (pv 9) ?hDc;(case hDc=>refine' pa_c pe_str pa_nil)))))));(case hCd=>refine' pss_one ?hAd;(case hAd=>refine' ps_for PassesOwn.never rfl ?hxd ?hyd ?hzd;(case hxd=>refine' pi_tup ?hNc;(case hNc=>refine' pe_ix ix_tup (pv 0) pe_int (fun _ _=>rfl)));(case hyd=>refine' pg_name sc__law_right.nd (ixAt 10) (Or.inr rfl) (Or.inl rfl));(case hzd=>refine' pss_cons ?hvd ?hwd;(case hvd=>refine' ps_set sc__law_right.nd (ixAt 11) (Or.inl rfl) ?hed;(case hed=>refine' pe_callB call_len_seq rfl T.b_len PySem.boot_len ?hdd;(case hdd=>refine' pa_c ?hcd pa_nil;(case hcd=>refine' pe_lcomp rfl ?hUc (compN ["_law_one","_law_kind_here"] 1 [10]) ?hVc ?hWc ?hXc ?hYc ?hZc ?had ?hbd;(case hUc=>exact ⟨rfl,by decide +kernel,by decide +kernel,(show ∀ y : Str × NameKind,y ∈ _->y.2 = NameKind.free->(defScope s__law_right).names.lookup y.1 = some .cell\/(defScope s__law_right).names.lookup y.1 = some .free from by decide +kernel)⟩);(case hVc=>decide +kernel);(case hWc=>decide);(case hXc=>refine' pi_list (pv 7));(case hYc=>intro _ _ _ _;refine' pg_name ?hOc (ixAt 0) (Or.inl rfl) (Or.inr rfl);(case hOc=>exact (show (["_law_one","_law_kind_here"] : List Str).Nodup from by decide +kernel)));(case hZc=>exact (gown_name (by decide)));(case had=>intro _ _ _ _;refine' pts_one ?hTc;(case hTc=>refine' pt_cmpR op_eq ?hRc ?hSc (nomark _);(case hRc=>refine' pe_ix ?hPc (pv 0) pe_int (fun _ _=>rfl);(case hPc=>exact (show IxR _ (rIxT K) from ix_tup)));(case hSc=>refine' pe_ix ?hQc (pv 1) pe_int (fun _ _=>rfl);(case hQc=>exact (show IxR _ (rIxT K) from ix_tup)))));(case hbd=>intro _ _ _ _;exact (pv 0))))));(case hwd=>refine' pss_one ?hud;(case hud=>refine' ps_if ?hsd ?htd pss_nil;(case hsd=>refine' pt_not ?hqd;(case hqd=>refine' pt_val ?hpd;(case hpd=>refine' pe_cl C__law_same hr ?hnd rfl ?hod;(case hnd=>refine' pa_c ?hld ?hmd;(case hld=>refine' pe_cl C_many_of hr ?hjd rfl ?hkd;(case hjd=>refine' pa_c (pv 0) ?hid;(case hid=>refine' pa_c (pv 1) ?hhd;(case hhd=>refine' pa_c (pv 6) ?hgd;(case hgd=>refine' pa_c ?hfd pa_nil;(case hfd=>refine' pe_ix ix_tup (pv 10) pe_int (fun _ _=>rfl))))));(case hkd=>decide));(case hmd=>refine' pa_c (pv 11) pa_nil));(case hod=>first | decide | exact Nat.le_refl _))));(case htd=>refine' pss_one ?hrd;(case hrd=>refine' ps_ret pe_bl))))))))));(case hKd=>refine' pss_one ?hId;(case hId=>refine' ps_ret pe_bl))))))
 obtain ⟨a,ba,ca,wa,cv,wv,rfl,ha,hba,hca,hcs,hwa,hws,ec,ew⟩:=Sd.view hs
 have ic:=SG.nc
 refine ⟨_,rfl,a,_,_,.ref ca,rfl,rfl,SqT.of ha,rfl,ca,rfl,⟨cv,SqT.of hca⟩,lcomp_by0 (yields_tup (ys:=cv)) (fun i xs H2=>Ext [] H H2/\xs = (((sd.cs.take i).map (·.nm)).map V.str)) ⟨Ext.refl,rfl⟩ (fun _ _ _ h=>SqT.of (h.1.tup (by simp) hca)) ?_ ?_⟩
 ·rintro i y xs H2 hy hi ⟨e,rfl⟩
  obtain ⟨c,hc,hdy⟩:=hcs.nth hy
  obtain ⟨b,rfl,hb⟩:=Cd.view (IsD.ext e hdy)
  have tk : sd.cs.take (i + 1) = sd.cs.take i ++ [c]:=by rw [List.take_add_one,hc];rfl
  refine ⟨_,rfl,b,_,_,.str c.nm,rfl,rfl,SqT.of hb,rfl,?_,nx hi ⟨e,?_⟩⟩
  ·rw [List.length_map,List.length_map,List.length_take]
   exact small1000 (by omega)
  ·rw [tk,List.map_append,List.map_append]
   rfl
 rintro xs H2 ⟨e2,rfl⟩ th hth
 rw [ec,List.take_length]
 have e3 : Ext [] H2 (upd H2 th (.lst ((sd.cs.map (·.nm)).map V.str))):=Ext.new hth _
 have h3 : (upd H2 th (.lst ((sd.cs.map (·.nm)).map V.str))) th = some (.lst ((sd.cs.map (·.nm)).map V.str)):=upd_same
 generalize upd H2 th (.lst ((sd.cs.map (·.nm)).map V.str)) = H3 at e3 h3 ⊢
 have E3:=e2.trans e3
 have find : ∀ c ∈ sd.cs,sd.cd? c.nm = some c:=fun c hc=>by
  unfold Sd.cd?
  exact find_nodup SG.nd hc
 refine ⟨_,rfl,a,_,_,.ref ca,rfl,rfl,SqT.of (E3.tup (by simp) ha),rfl,ca,rfl,⟨cv,SqT.of (E3.tup (by simp) hca)⟩,for_tup (xs:=cv) (fun i σ H4=>∃ x4 : Option V,σ = [some v,some (V.ref a),some nv,some (V.ref th),x4,none,none,none,none,none,none,none]/\Ext [] H3 H4) ⟨_,rfl,Ext.refl⟩ ?_ ?_ ?_⟩
 ·rintro i σ H4 hi ⟨x4,rfl,e4⟩
  exact SqT.of ((E3.trans e4).tup (by simp) hca)
 ·rintro i x σ H4 hx ⟨x4,rfl,e4⟩
  have E4:=E3.trans e4
  obtain ⟨c,hc,hdy⟩:=hcs.nth hx
  have hcm:=List.mem_of_getElem? hc
  have hdy4:=IsD.ext E4 hdy
  obtain ⟨b,rfl,hb⟩:=Cd.view hdy4
  have cn:=SG.cn c hcm
  have hkn : nm c.kd = true:=by
   obtain ⟨_,k',hk',_⟩:=SG.c c hcm
   rw [<- (kd_in hk').2];exact (G.kn k' (kd_in hk').1).1
  refine ⟨_,rfl,_,rfl,b,_,_,.str c.nm,rfl,rfl,SqT.of hb,rfl,sd,_,c.nm,rfl,IsD.ext E4 hs,nm_len1000 cn,fun c' u' H5 hc' e5 d5=>?_,fun hn=>absurd (hn.symm.trans (find c hcm)) (by simp)⟩
  obtain rfl:=Option.some.inj ((find c hcm).symm.trans hc')
  refine ⟨_,rfl,c.d,u',_,rfl,d5,IsD.ext e5 hdy4,.inr ⟨_,.inl rfl,(by show 4 <= 100;decide),fun d hd=>?_⟩,fun H6 e6=>?_⟩
  ·simp only [List.mem_cons,List.not_mem_nil,or_false] at hd
   rcases hd with rfl | rfl | rfl | rfl
   ·exact .inl ⟨_,rfl,(nm_ok cn).1⟩
   ·exact .inl ⟨_,rfl,(nm_ok hkn).1⟩
   ·exact .inr (.inl ⟨_,rfl⟩)
   ·exact .inr (.inr ⟨_,rfl⟩)
  have E6:=(E4.trans e5).trans e6
  refine ⟨_,rfl,iteF ?_⟩
  refine ⟨_,rfl,_,rfl,_,rfl,b,_,_,.str c.nm,rfl,rfl,SqT.of ((e5.trans e6).tup (by simp) hb),rfl,p,sd,_,_,c.nm,rfl,IsD.ext E6 hp,IsD.ext E6 hs,nm_len1000 cn,Po,So,fun c' H7 hc' e7=>?_,fun hn=>absurd (hn.symm.trans (find c hcm)) (by simp)⟩
  obtain rfl:=Option.some.inj ((find c hcm).symm.trans hc')
  obtain ⟨_,kd,hkd,q0,q1⟩:=SG.c c hcm
  have E7:=E6.trans e7
  refine ⟨_,rfl,_,rfl,p,_,b,c.nm,c.kd,c.pl,[.bl c.bk],kd,rfl,IsD.ext E7 hp,Po,((e5.trans e6).trans e7).tup (by simp) hb,hkd,(G.kn kd (kd_in hkd).1).2.1,q0,q1,fun H8 e8=>?_⟩
  refine ⟨.int (p.lane c),_,_,rfl,rfl,rfl,.inl (.inr (.inl ⟨_,rfl⟩)),fun H9 e9=>?_⟩
  refine ⟨_,rfl,iteF ?_⟩
  exact ⟨_,rfl,e4.trans (((e5.trans e6).trans e7).trans (e8.trans e9))⟩
 rintro σ H4 ⟨x4,rfl,e4⟩
 have E4:=E3.trans e4
 have h4 : H4 th = some (.lst ((sd.cs.map (·.nm)).map V.str)):=e4.lst (by simp) h3
 clear e3 e4 h3 E3
 obtain ⟨na,nvs,rfl,nna,hna,hnd⟩:=hns
 obtain rfl:=IsDs.strs_of hnd
 refine ⟨_,rfl,na,rfl,⟨_,SqL.of (E4.lst (by simp) hna)⟩,for_list (xs:=ns.map V.str) (fun i σ H5=>∃ x5 : Option V,σ = [some v,some (V.ref a),some (V.ref na),some (V.ref th),x4,x5,none,none,none,none,none,none]/\Ext [] H4 H5) ⟨_,rfl,Ext.refl⟩ ?_ ?_ ?_⟩
 ·rintro i σ H5 hi ⟨x5,rfl,e5⟩
  exact SqL.of ((E4.trans e5).lst (by simp) hna)
 ·rintro i x σ H5 hx ⟨x5,rfl,e5⟩
  rw [List.getElem?_map] at hx
  obtain ⟨n1,hn1,rfl⟩:=Option.map_eq_some_iff.mp hx
  have n1l:=hnx n1 (List.mem_of_getElem? hn1)
  have E5:=E4.trans e5
  have hin : ∀ b : Bool,(!inV (V.str n1) ((sd.cs.map (·.nm)).map V.str)) = b->b = true->sd.cd? n1 = none:=by
   rintro _ rfl hb
   unfold Sd.cd?
   rw [List.find?_eq_none]
   intro c hc z
   have z : c.nm = n1:=by simpa using z
   have : inV (V.str n1) ((sd.cs.map (·.nm)).map V.str) = true:=by
    unfold inV
    rw [List.any_eq_true]
    exact ⟨.str c.nm,List.mem_map_of_mem (List.mem_map_of_mem hc),by simp [eqV,z]⟩
   rw [this] at hb
   exact nomatch hb
  have hfl : ((sd.cs.map (·.nm)).map V.str).all flatV = true:=by simp [flatV]
  refine ⟨_,rfl,_,rfl,th,_,rfl,.inl (SqL.of (e5.lst (by simp) h4)),rfl,hfl,_,rfl,?_⟩
  refine ite2 (fun c1=>?_) (fun c1=>?_)
  refine ⟨_,rfl,_,rfl,_,rfl,p,sd,_,_,n1,0,rfl,IsD.ext E5 hp,IsD.ext E5 hs,Po,So,n1l,hin _ rfl c1,fun H6 e6=>?_⟩
  refine ⟨_,rfl,iteF ?_⟩
  have e56:=e5.trans e6
  rotate_left
  refine iteF ?_
  have e56:=e5
  all_goals
   have E6:=E4.trans e56
   refine ⟨_,rfl,_,rfl,th,_,rfl,.inl (SqL.of (e56.lst (by simp) h4)),rfl,hfl,_,rfl,?_⟩
   refine ite2 (fun c2=>?_) (fun c2=>?_)
   refine ⟨_,rfl,_,rfl,_,rfl,p,sd,_,_,n1,1,rfl,IsD.ext E6 hp,IsD.ext E6 hs,Po,So,n1l,hin _ rfl c2,fun H7 e7=>?_⟩
   refine ⟨_,rfl,iteF ?_⟩
   exact ⟨_,rfl,e56.trans e7⟩
   refine iteF ?_
   exact ⟨_,rfl,e56⟩
 rintro σ H5 ⟨x5,rfl,e5⟩
 have E5:=E4.trans e5
 clear h4 E4 e5
 obtain ⟨pa,la,ka,lv,kv,rfl,hpa,hla,hls,hka,hks,el,ek⟩:=Pl.view hp
 refine ⟨_,rfl,_,rfl,pa,_,_,.ref la,rfl,rfl,SqT.of (E5.tup (by simp) hpa),rfl,la,lv,rfl,.inr (SqT.of (E5.tup (by simp) hla)),_,_,rfl,rfl,?_⟩
 have l6:=G.l6
 refine ⟨_,_,rfl,⟨by omega,by omega,by omega,by omega⟩,?_⟩
 refine for_range (fun i σ H6=>∃ x6 x7 x8 x9 x10 x11 : Option V,σ = [some (V.ref pa),some (V.ref a),some (V.ref na),some (V.ref th),x4,x5,x6,x7,x8,x9,x10,x11]/\Ext [] H5 H6) ⟨_,_,_,_,_,_,rfl,Ext.refl⟩ ?_ ?_
 ·rintro i σ H6 hi ⟨x6,x7,x8,x9,x10,x11,rfl,e6⟩
  generalize (-1 : Int) + (i : Nat) = l
  have E6:=E5.trans e6
  refine ⟨_,rfl,a,_,_,.ref ca,rfl,rfl,SqT.of (E6.tup (by simp) ha),rfl,ca,rfl,⟨cv,SqT.of (E6.tup (by simp) hca)⟩,lcomp_by (yields_tup (ys:=cv)) (fun i xs H2=>Ext [] H6 H2/\IsDs [] H2 (((sd.cs.take i).filter fun c=>p.lane c == l).map Cd.d) xs) ⟨Ext.refl,rfl⟩ (fun _ _ _ h=>SqT.of ((E6.trans h.1).tup (by simp) hca)) ?_ ?_⟩
  ·rintro i y xs H7 hy hi ⟨e7,hxs⟩
   obtain ⟨c,hc,hdy⟩:=hcs.nth hy
   have E7:=E6.trans e7
   have hdy2:=IsD.ext E7 hdy
   obtain ⟨b,rfl,hb⟩:=Cd.view hdy2
   obtain ⟨_,kd,hkd,q0,q1⟩:=SG.c c (List.mem_of_getElem? hc)
   have tk : sd.cs.take (i + 1) = sd.cs.take i ++ [c]:=by rw [List.take_add_one,hc];rfl
   refine ⟨_,rfl,_,rfl,p,_,b,c.nm,c.kd,c.pl,[.bl c.bk],kd,rfl,IsD.ext E7 hp,Po,hb,hkd,(G.kn kd (kd_in hkd).1).2.1,q0,q1,fun H8 e8=>?_⟩
   refine ⟨_,rfl,rfl,_,rfl,?_⟩
   have small : xs.length < 1000:=by
    rw [hxs.length,List.length_map]
    have:=List.length_filter_le (fun c : Cd=>p.lane c == l) (sd.cs.take i)
    rw [List.length_take] at this
    omega
   have et : decide (V.int (p.at c.kd c.pl) = V.int l) = (p.lane c == l):=by
    unfold Pl.lane
    by_cases h : p.at c.kd c.pl = l <;> simp [h]
   refine ite2 (fun cc=>?_) (fun cc=>?_)
   ·rw [et] at cc
    refine ⟨_,rfl,small1000 (by omega),nx hi ⟨e7.trans e8,?_⟩⟩
    rw [tk,List.filter_append,List.map_append]
    refine IsDs.append (IsDs.ext e8 hxs) ?_
    have : ([c].filter fun c=>p.lane c == l) = [c]:=by simp [List.filter_cons,cc]
    rw [this]
    exact ⟨_,_,rfl,IsD.ext e8 hdy2,rfl⟩
   ·rw [et] at cc
    refine nx hi ⟨e7.trans e8,?_⟩
    rw [tk,List.filter_append,List.map_append]
    have : ([c].filter fun c=>p.lane c == l) = []:=by simp [List.filter_cons,cc]
    rw [this,List.map_nil,List.append_nil]
    exact IsDs.ext e8 hxs
  rintro xs H7 ⟨e7,hxs⟩ du hdu
  rw [ec,List.take_length] at hxs
  have e8 : Ext [] H7 (upd H7 du (.lst xs)):=Ext.new hdu _
  have h8 : (upd H7 du (.lst xs)) du = some (.lst xs):=upd_same
  generalize upd H7 du (.lst xs) = H8 at e8 h8 ⊢
  have e68:=e7.trans e8
  have E8:=E6.trans e68
  have hx8 : IsDs [] H8 ((sd.cs.filter fun c=>p.lane c == l).map Cd.d) xs:=IsDs.ext e8 hxs
  have nfl : (sd.cs.filter fun c=>p.lane c == l).length <= 30:=Nat.le_trans (List.length_filter_le _ _) ic
  clear hxs
  refine ⟨_,rfl,by decide,by decide,?_⟩
  refine for_range (fun j σ H9=>∃ y8 y9 : Option V,σ = [some (V.ref pa),some (V.ref a),some (V.ref na),some (V.ref th),x4,x5,some (V.int l),some (V.ref du),y8,y9,x10,x11]/\Ext [] H8 H9) ⟨_,_,rfl,Ext.refl⟩ ?_ ?_
  ·rintro j σ H9 hj ⟨y8,y9,rfl,e9⟩
   have E9:=E8.trans e9
   refine ⟨_,rfl,_,rfl,_,rfl,p,sd,_,_,l,rfl,IsD.ext E9 hp,IsD.ext E9 hs,Po,So,fun fa H10 hfa e10 hf=>?_⟩
   have E10:=E9.trans e10
   have e8t:=e9.trans e10
   have hx10 : IsDs [] H10 ((sd.cs.filter fun c=>p.lane c == l).map Cd.d) xs:=IsDs.ext e8t hx8
   have exl : xs.length = (sd.cs.filter fun c=>p.lane c == l).length:=by rw [hx8.length,List.length_map]
   refine ⟨_,rfl,_,rfl,du,rfl,⟨xs,SqL.of (e8t.lst (by simp) h8)⟩,lcomp_by0 (yields_list (ys:=xs)) (fun i ys H2=>Ext [] H10 H2/\ys = ((((sd.cs.filter fun c=>p.lane c == l).take i).map (·.nm)).map V.str)) ⟨Ext.refl,rfl⟩ (fun _ _ _ h=>SqL.of ((e8t.trans h.1).lst (by simp) h8)) ?_ ?_⟩
   ·rintro k y ys H11 hy hk ⟨e11,rfl⟩
    obtain ⟨c,hc,hdy⟩:=hx10.nth hy
    obtain ⟨b,rfl,hb⟩:=Cd.view (IsD.ext e11 hdy)
    have tk : (sd.cs.filter fun c=>p.lane c == l).take (k + 1) = (sd.cs.filter fun c=>p.lane c == l).take k ++ [c]:=by rw [List.take_add_one,hc];rfl
    refine ⟨_,rfl,b,_,_,.str c.nm,rfl,rfl,SqT.of hb,rfl,?_,nx hk ⟨e11,?_⟩⟩
    ·rw [List.length_map,List.length_map,List.length_take]
     exact small1000 (by omega)
    ·rw [tk,List.map_append,List.map_append]
     rfl
   rintro ys H11 ⟨e11,rfl⟩ q1 hq1
   rw [exl,List.take_length]
   have e12 : Ext [] H11 (upd H11 q1 (.lst ((sd.inL p l).map V.str))):=Ext.new hq1 _
   have h12 : (upd H11 q1 (.lst ((sd.inL p l).map V.str))) q1 = some (.lst ((sd.inL p l).map V.str)):=upd_same
   have ein : ((sd.cs.filter fun c=>p.lane c == l).map (·.nm)).map V.str = (sd.inL p l).map V.str:=rfl
   rw [ein]
   generalize upd H11 q1 (.lst ((sd.inL p l).map V.str)) = H12 at e12 h12 ⊢
   have e1012:=e11.trans e12
   refine ⟨.list ((sd.inL p l).map .str),_,_,rfl,⟨fa,_,rfl,by simp,e1012.lst (by simp) hf,IsDs.strs _⟩,⟨q1,_,rfl,by simp,h12,IsDs.strs _⟩,.inr ⟨_,.inr rfl,?_,fun d hd=>?_⟩,fun H13 e13=>?_⟩
   ·rw [List.length_map]
    show ((sd.cs.filter fun c=>p.lane c == l).map (·.nm)).length <= 100
    rw [List.length_map]
    omega
   ·obtain ⟨y,hy,rfl⟩:=List.mem_map.mp hd
    obtain ⟨c,hc,rfl⟩:=List.mem_map.mp hy
    exact .inl ⟨_,rfl,(nm_ok (SG.cn c (List.mem_filter.mp hc).1)).1⟩
   refine ⟨_,rfl,iteF ?_⟩
   have e1013:=e1012.trans e13
   have hf13:=e1013.lst (by simp) hf
   refine ⟨_,rfl,.inl ⟨rfl,_,SqL.of hf13⟩,fa,_,.str "a",rfl,rfl,hf13,?_,?_⟩
   ·rw [List.length_map]
    show ((sd.cs.filter fun c=>p.lane c == l).map (·.nm)).length < sizeLine
    rw [List.length_map]
    exact small1000 (by omega)
   exact ⟨_,_,rfl,e9.trans ((e10.trans e1013).drop hfa)⟩
  ·rintro σ H9 ⟨y8,y9,rfl,e9⟩
   have E9:=E8.trans e9
   have exl : xs.length = (sd.cs.filter fun c=>p.lane c == l).length:=by rw [hx8.length,List.length_map]
   refine ⟨_,rfl,pa,_,_,.ref ka,rfl,rfl,SqT.of (E9.tup (by simp) hpa),rfl,ka,rfl,⟨kv,SqT.of (E9.tup (by simp) hka)⟩,for_tup (xs:=kv) (fun j σ H10=>∃ y10 y11 : Option V,σ = [some (V.ref pa),some (V.ref a),some (V.ref na),some (V.ref th),x4,x5,some (V.int l),some (V.ref du),y8,y9,y10,y11]/\Ext [] H8 H10) ⟨_,_,rfl,e9⟩ ?_ ?_ ?_⟩
   ·rintro j σ H10 hj ⟨y10,y11,rfl,e10⟩
    exact SqT.of ((E8.trans e10).tup (by simp) hka)
   ·rintro j x σ H10 hx ⟨y10,y11,rfl,e10⟩
    have E10:=E8.trans e10
    obtain ⟨k,hk,hdk⟩:=hks.nth hx
    have hkm:=List.mem_of_getElem? hk
    have hdk10:=IsD.ext E10 hdk
    obtain ⟨kb,wb,bb,rfl,hkb,_⟩:=Kd.view hdk10
    have hx10 : IsDs [] H10 ((sd.cs.filter fun c=>p.lane c == l).map Cd.d) xs:=IsDs.ext e10 hx8
    have kn:=(G.kn k hkm).1
    have hkf : p.kd? k.nm = some k:=by unfold Pl.kd?;exact find_nodup G.knd hkm
    refine ⟨_,rfl,du,rfl,⟨xs,SqL.of (e10.lst (by simp) h8)⟩,lcomp_by (yields_list (ys:=xs)) (fun i ys H2=>Ext [] H10 H2/\ys.length = (((sd.cs.filter fun c=>p.lane c == l).take i).filter fun c=>c.kd == k.nm).length) ⟨Ext.refl,rfl⟩ (fun _ _ _ h=>SqL.of ((e10.trans h.1).lst (by simp) h8)) ?_ ?_⟩
    ·rintro i y ys H11 hy hi ⟨e11,hyl⟩
     obtain ⟨c,hc,hdy⟩:=hx10.nth hy
     obtain ⟨b,rfl,hb⟩:=Cd.view (IsD.ext e11 hdy)
     have tk : (sd.cs.filter fun c=>p.lane c == l).take (i + 1) = (sd.cs.filter fun c=>p.lane c == l).take i ++ [c]:=by rw [List.take_add_one,hc];rfl
     refine ⟨_,rfl,b,_,_,.str c.kd,rfl,rfl,SqT.of hb,rfl,_,rfl,kb,_,_,.str k.nm,rfl,rfl,SqT.of (e11.tup (by simp) hkb),rfl,rfl,_,rfl,?_⟩
     have small : ys.length < 1000:=by
      rw [hyl]
      have:=List.length_filter_le (fun c : Cd=>c.kd == k.nm) ((sd.cs.filter fun c=>p.lane c == l).take i)
      rw [List.length_take] at this
      omega
     refine ite2 (fun cc=>?_) (fun cc=>?_)
     ·have ck : c.kd = k.nm:=by simpa using cc
      refine ⟨_,rfl,small1000 (by omega),nx hi ⟨e11,?_⟩⟩
      rw [tk,List.filter_append,List.length_append,List.length_append,hyl]
      simp [ck]
     ·have ck : ¬ c.kd = k.nm:=by simpa using cc
      refine nx hi ⟨e11,?_⟩
      rw [tk,List.filter_append,List.length_append,hyl]
      simp [ck]
    rintro ys H11 ⟨e11,hyl⟩ q1 hq1
    rw [exl,List.take_length] at hyl
    have emany : ys.length = sd.many p l k.nm:=by
     rw [hyl,List.filter_filter]
     unfold Sd.many
     congr 1
     apply List.filter_congr
     intro c _
     show ((c.kd == k.nm) && (p.lane c == l)) = ((c.kd == k.nm) && (p.at k.nm c.pl == l))
     unfold Pl.lane
     cases h : c.kd == k.nm with
     | false=>rfl
     | true=>rw [show c.kd = k.nm from eq_of_beq h]
    refine ⟨q1,ys,rfl,.inl (SqL.of upd_same),?_⟩
    have e12 : Ext [] H11 (upd H11 q1 (.lst ys)):=Ext.new hq1 _
    generalize upd H11 q1 (.lst ys) = H12 at e12 ⊢
    have e1012:=e11.trans e12
    have E12:=E10.trans e1012
    refine ⟨_,rfl,_,rfl,_,rfl,_,rfl,kb,_,_,.str k.nm,rfl,rfl,SqT.of (e1012.tup (by simp) hkb),rfl,p,sd,_,_,l,k.nm,k,rfl,IsD.ext E12 hp,IsD.ext E12 hs,Po,So,nm_len1000 kn,hkf,fun H13 e13=>?_⟩
    refine ⟨_,rfl,.int (sd.many p l k.nm : Nat),_,_,rfl,rfl,by rw [emany];rfl,.inl (.inr (.inl ⟨_,rfl⟩)),fun H14 e14=>?_⟩
    refine ⟨_,rfl,iteF ?_⟩
    exact ⟨_,_,rfl,e10.trans (e1012.trans (e13.trans e14))⟩
   ·rintro σ H10 ⟨y10,y11,rfl,e10⟩
    exact ⟨_,_,_,_,_,_,rfl,e6.trans (e68.trans e10)⟩
 ·rintro σ H6 ⟨x6,x7,x8,x9,x10,x11,rfl,e6⟩
  exact q _ (E5.trans e6)
end
end K08
end

section
set_option Elab.async false
set_option linter.all false
set_option maxRecDepth 100000
set_option maxHeartbeats 1000000
namespace K08
open PySem PySem.Spec L2 PyProof.Rows PySem.W
theorem ext_drop {H H' : Hp} {p : Addr} {o : HO} (h : H p = none) (e : Ext [p] (upd H p o) H') : Ext [] H H':=by
 refine ⟨fun b u _ q n=>?_,fun b ps _ q=>?_⟩
 ·have hb:=ne_of_none q h
  exact e.old b u (by simpa using hb) (by rw [upd_ne hb];exact q) n
 ·have hb:=ne_of_none q h
  exact e.tab b ps (by simpa using hb) (by rw [upd_ne hb];exact q)
def spLaw (ts : List Addr) (K : PySem.W.Frag) : Sp:=fun vs H Q _=>∃ (a : Addr) (ns : List Int),vs = [.ref a]/\SqL K H a (ns.map V.int)/\ns.length <= 63/\Tb ts H/\∀ H',Q (.bl true) H'
section
variable {P : Program} {w : World} {K : PySem.W.Frag} {mg : Str->Option Value} {base : Heap} {ts : List Addr}
abbrev s_law : Stmt:=top 30
theorem sc_law : FnScope ["_law_script","_law_k","_law_held","_law_plan_here","_law_stand_here"] ["_law_script"] (defScope s_law):=⟨rfl,rfl,rfl,by decide +kernel,rfl,by decide +kernel,by decide +kernel⟩
theorem ok_law {f : Addr} {fd : FuncData} (F : Fun K "law" "law" s_law f fd) (T : Txt K mg) (C__law_digits : CallOk P w K mg base "_law_digits" 1 ["_law_script","_law_k"] (spDigits K)) (C__law_take : CallOk P w K mg base "_law_take" 1 ["_law_held","_law_many"] spTake) (C__law_plan : CallOk P w K mg base "_law_plan" 3 ["_law_held"] spPlanG)
  (C__law_words : CallOk P w K mg base "_law_words" 2 ["_law_held","_law_many"] spWordsN) (C__law_stand : CallOk P w K mg base "_law_stand" 4 ["_law_held","_law_plan_here","_law_most"] spLStand) (C__law_right : CallOk P w K mg base "_law_right" 9 ["_law_plan_here","_law_stand_here","_law_names"] spRight) : FnOk P w K mg base CX0 10 f fd ["_law_script"] (spLaw ts K):=by
 refine F.ok sc_law (fun vs H Q E h=>?_) (fun cdv A outer s H vs Q E hr h=>?_)
 ·obtain ⟨a,ns,rfl,_⟩:=h
  rfl
 obtain ⟨a,ns,rfl,hS,h63,tb,q⟩:=h
 have hu:=hr.units
 refine' ⟨_,?hh,?rr⟩
 case hh=>(refine' pss_cons ?hgb ?hhb;(case hgb=>refine' ps_for PassesOwn.never rfl ?hcb ?hdb ?heb;(case hcb=>refine' pi_range1 rfl T.b_range ?hh;(case hh=>refine' pa_c ?hg pa_nil;(case hg=>refine' pe_op op_add ?hf pe_int;(case hf=>refine' pe_callB (call_min2 rfl) rfl T.b_min boot_bmin ?he;(case he=>refine' pa_c pe_int ?hd;(case hd=>refine' pa_c ?hc pa_nil;(case hc=>refine' pe_callB call_len_seq rfl T.b_len PySem.boot_len ?hb;(case hb=>refine' pa_c (pv 0) pa_nil))))))));(case hdb=>refine' pg_name sc_law.nd (ixAt 1) (Or.inl rfl) (Or.inl rfl));(case heb=>refine' pss_cons ?hab ?hbb;(case hab=>refine' ps_set sc_law.nd (ixAt 2) (Or.inl rfl) ?hl;(case hl=>refine' pe_cl C__law_digits hr ?hj rfl ?hk;(case hj=>refine' pa_c (pv 0) ?hi;(case hi=>refine' pa_c (pv 1) pa_nil));(case hk=>decide)));(case hbb=>refine' pss_cons ?hY ?hZ;(case hY=>refine' ps_set sc_law.nd (ixAt 3) (Or.inl rfl) ?ho;(case ho=>refine' pe_cl C__law_plan hr ?hm rfl ?hn;(case hm=>refine' pa_c (pv 2) pa_nil);(case hn=>decide)));(case hZ=>refine' pss_cons ?hW ?hX;(case hW=>refine' ps_set sc_law.nd (ixAt 4) (Or.inl rfl) ?hE;(case hE=>refine' pe_cl C__law_stand hr ?hC rfl ?hD;(case hC=>refine' pa_c (pv 2) ?hB;(case hB=>refine' pa_c (pv 3) ?hA;(case hA=>refine' pa_c ?hz pa_nil;(case hz=>refine' pe_ix ix_D ?hx ?hy (fun _ _=>rfl);(case hx=>refine' pe_lstD ?hq;(case hq=>refine' pa_c pe_int ?hp;(case hp=>refine' pa_c pe_int pa_nil)));(case hy=>refine' pe_callTy call_int1 rfl T.b_int boot_tint ?hw;(case hw=>refine' pa_c ?hv pa_nil;(case hv=>refine' pe_cmpR op_eq ?hu pe_int (nomark _);(case hu=>refine' pe_cl C__law_take hr ?hs rfl ?ht;(case hs=>refine' pa_c (pv 2) ?hr;(case hr=>refine' pa_c pe_int pa_nil));(case ht=>decide)))))))));(case hD=>decide)));(case hX=>refine' pss_one ?hV;(case hV=>refine' ps_if ?hT ?hU pss_nil;(case hT=>refine' pt_not ?hR;(case hR=>refine' pt_val ?hQ;(case hQ=>refine' pe_cl C__law_right hr ?hO rfl ?hP;(case hO=>refine' pa_c (pv 3) ?hN;(case hN=>refine' pa_c (pv 4) ?hM;(case hM=>refine' pa_c ?hL pa_nil;(case hL=>refine' pe_op op_catLD ?hJ ?hK;(case hJ=>refine' pe_cl C__law_words hr ?hG rfl ?hH;(case hG=>refine' pa_c (pv 2) ?hF;(case hF=>refine' pa_c pe_int pa_nil));(case hH=>decide));(case hK=>refine' pe_lstD ?hI;(case hI=>refine' pa_c pe_str pa_nil))))));(case hP=>decide))));(case hU=>refine' pss_one ?hS;(case hS=>refine' ps_ret pe_bl))))))));(case hhb=>refine' pss_one ?hfb;(case hfb=>refine' ps_ret pe_bl)))
 have hl : (ns.map V.int).length = ns.length:=List.length_map _
 refine ⟨_,rfl,a,_,rfl,.inl hS,_,_,rfl,_,_,rfl,rfl,?_⟩
 have j0 : 1 <= (if (((ns.map V.int).length : Nat) : Int) < 10 then (((ns.map V.int).length : Nat) : Int) else 10) + 1:=by
  split <;> omega
 have j1 : (if (((ns.map V.int).length : Nat) : Int) < 10 then (((ns.map V.int).length : Nat) : Int) else 10) + 1 <= 11:=by
  split <;> omega
 refine ⟨_,rfl,Int.le_trans (by decide) j0,Int.lt_of_le_of_lt j1 (by decide),for_range (fun i σ H2=>∃ (x1 x2 x3 x4 : Option V),σ = [some (V.ref a),x1,x2,x3,x4]/\Ext [] H H2) ⟨_,_,_,_,rfl,Ext.refl⟩ ?_ ?_⟩
 ·rintro i σ H2 hi ⟨x1,x2,x3,x4,rfl,e⟩
  have hi2 : i < 11:=Nat.lt_of_lt_of_le hi (Int.toNat_le.mpr j1)
  refine ⟨_,rfl,_,rfl,a,ns,_,rfl,e.sql (by simp) hS,h63,by omega,by omega,fun pp n hp=>?_⟩
  have tb2:=e.tb tb (by simp)
  obtain ⟨z,ez⟩ : ∃ z : Zn,z = ⟨[pp],pp,ts⟩:=⟨_,rfl⟩
  have zp : z.p = pp:=by rw [ez]
  have c : Cz z (upd H2 pp (.lst [.int n])):=by
   rw [ez]
   exact ⟨by simp,fun b hb=>⟨[.int n],by rw [List.mem_singleton.mp hb];exact upd_same⟩,⟨n,upd_same⟩,(Ext.new (ex:=[]) hp (.lst [.int n])).tb tb2 (by simp)⟩
  have fin : ∀ H9,Stp z (upd H2 pp (.lst [.int n])) H9->Ext [] H H9:=fun H9 s9=>by
   rw [ez] at s9
   exact e.trans (ext_drop hp s9.ext)
  rw [<- zp]
  rw [<- zp] at c fin
  generalize upd H2 z.p (.lst [.int n]) = H3 at c fin ⊢
  refine ⟨_,rfl,z,rfl,c,fun p v H4 G s4 fp=>?_⟩
  show tSeq _ _ _ [_,_,_,_,_] _
  refine ⟨_,rfl,_,rfl,z,[.int 8,.int 30],⟨_,_,rfl,rfl,_,_,rfl,rfl,rfl⟩,(by show 2 <= 1000;decide),s4.cz,fun v5 H5 s5 f5=>?_⟩
  refine ⟨_,rfl,z,6,rfl,s5.cz,by decide,by decide,fun t6 H6 t60 t61 s6=>?_⟩
  refine ⟨rfl,.inr ⟨_,rfl,?_⟩⟩
  obtain ⟨mm,i0,hmm,m0,m1⟩ : ∃ mm : Int,(0 : Int) <= (if decide (V.int t6 = V.int 1) = true then 1 else 0)/\([.int 8,.int 30] : List PyData)[(if decide (V.int t6 = V.int 1) = true then 1 else 0 : Int).toNat]? = some (.int mm)/\0 <= mm/\mm <= 30:=by
   cases decide (V.int t6 = V.int 1) with
   | true=>exact ⟨30,by decide,rfl,by decide,by decide⟩
   | false=>exact ⟨8,by decide,rfl,by decide,by decide⟩
  refine ⟨z,_,_,_,.inr (f5.stp s6),rfl,i0,hmm,fun vm hvm=>?_⟩
  obtain rfl : vm = .int mm:=hvm
  have s46:=s4.trans (s5.trans s6)
  refine ⟨z,p,v,mm,rfl,s6.cz,fp.stp (s5.trans s6),G,m0,m1,fun sd u H7 SG s7 fu=>?_⟩
  show tSeq _ _ _ [_,_,_,_,_] _
  refine ⟨_,rfl,_,rfl,_,rfl,z,30,rfl,by decide,by decide,s7.cz,fun ns2 v8 H8 hn2 hnd2 hm2 s8 f8=>?_⟩
  refine ⟨z,[.str "zzzzzzzz"],⟨_,_,rfl,rfl,rfl⟩,(by show 1 <= 1000;decide),s8.cz,fun v9 H9 s9 f9=>?_⟩
  refine ⟨z,_,_,f8.stp s9,f9,?_,s9.cz,fun v10 H10 s10 f10=>?_⟩
  ·rw [List.length_map]
   show ns2.length + 1 <= 1000
   omega
  have b10:=s7.trans (s8.trans (s9.trans s10))
  have f10' : IsD z.ex H10 (.list ((ns2 ++ [("zzzzzzzz" : Str)]).map .str)) v10:=by rw [List.map_append];exact f10
  refine ⟨p,sd,v,u,v10,ns2 ++ [("zzzzzzzz" : Str)],rfl,IsD.less (by simp) ((fp.stp (s5.trans s6)).stp b10),IsD.less (by simp) (fu.stp (s8.trans (s9.trans s10))),IsD.less (by simp) f10',G,SG,?_,fun x hx=>?_,fun H11 e11=>?_⟩
  ·rw [List.length_append]
   show ns2.length + 1 <= 100
   omega
  ·rcases List.mem_append.mp hx with h | h
   ·exact nm_len1000 (hm2 x h)
   ·rw [List.mem_singleton.mp h]
    decide +kernel
  refine ⟨_,rfl,iteF ?_⟩
  exact ⟨_,_,_,_,rfl,(fin H10 (s46.trans b10)).trans e11⟩
 ·rintro σ H2 ⟨x1,x2,x3,x4,rfl,e⟩
  exact q H2
end
end K08
end

section
set_option Elab.async false
set_option linter.all false
set_option maxRecDepth 100000
set_option maxHeartbeats 4000000
namespace K08
open PySem L2 PyProof.Rows
abbrev gnames : List Str:=[]
theorem all_mk {l : PySem.W.OpenLaw} {w : World} {K : PySem.W.Frag} {h : Heap} {mg : Str->Option Value} {fa : Addr} (X : K.In h) (G : h.Ns mainGlobals mg) (hfa : mg "law" = some (.ref fa))
  {t0 : Tok}
  {f0 : Addr} {od0 an0 : Option Addr} {sl0 : Array (Option Value)} {oc0 kV0 dc0 pm0 ct0 cd0 : Value}
  (a0 : PySem.W.nsIn K mainGlobals "kind_of" = some (some (.ref f0))) (l0 : K.lookup f0 = some ⟨oc0,od0,.func (PySem.W.fnOf "kind_of" "kind_of" (defArgs s_kind_of) (defBody s_kind_of) (defScope s_kind_of) .none kV0 dc0 pm0 an0 cd0 ct0),sl0⟩) (c0 : PySem.W.codeIn K cd0 "kind_of" = true) (k0 : PySem.W.keepIn K (.ref f0) = true)
  {f1 : Addr} {od1 an1 : Option Addr} {sl1 : Array (Option Value)} {oc1 kV1 dc1 pm1 ct1 cd1 : Value}
  (a1 : PySem.W.nsIn K mainGlobals "way_of" = some (some (.ref f1))) (l1 : K.lookup f1 = some ⟨oc1,od1,.func (PySem.W.fnOf "way_of" "way_of" (defArgs s_way_of) (defBody s_way_of) (defScope s_way_of) .none kV1 dc1 pm1 an1 cd1 ct1),sl1⟩) (c1 : PySem.W.codeIn K cd1 "way_of" = true) (k1 : PySem.W.keepIn K (.ref f1) = true)
  {f2 : Addr} {od2 an2 : Option Addr} {sl2 : Array (Option Value)} {oc2 kV2 dc2 pm2 ct2 cd2 : Value}
  (a2 : PySem.W.nsIn K mainGlobals "lane_at" = some (some (.ref f2))) (l2 : K.lookup f2 = some ⟨oc2,od2,.func (PySem.W.fnOf "lane_at" "lane_at" (defArgs s_lane_at) (defBody s_lane_at) (defScope s_lane_at) .none kV2 dc2 pm2 an2 cd2 ct2),sl2⟩) (c2 : PySem.W.codeIn K cd2 "lane_at" = true) (k2 : PySem.W.keepIn K (.ref f2) = true)
  {f3 : Addr} {od3 an3 : Option Addr} {sl3 : Array (Option Value)} {oc3 kV3 dc3 pm3 ct3 cd3 : Value}
  (a3 : PySem.W.nsIn K mainGlobals "card_of" = some (some (.ref f3))) (l3 : K.lookup f3 = some ⟨oc3,od3,.func (PySem.W.fnOf "card_of" "card_of" (defArgs s_card_of) (defBody s_card_of) (defScope s_card_of) .none kV3 dc3 pm3 an3 cd3 ct3),sl3⟩) (c3 : PySem.W.codeIn K cd3 "card_of" = true) (k3 : PySem.W.keepIn K (.ref f3) = true)
  {f4 : Addr} {od4 an4 : Option Addr} {sl4 : Array (Option Value)} {oc4 kV4 dc4 pm4 ct4 cd4 : Value}
  (a4 : PySem.W.nsIn K mainGlobals "lane_of" = some (some (.ref f4))) (l4 : K.lookup f4 = some ⟨oc4,od4,.func (PySem.W.fnOf "lane_of" "lane_of" (defArgs s_lane_of) (defBody s_lane_of) (defScope s_lane_of) .none kV4 dc4 pm4 an4 cd4 ct4),sl4⟩) (c4 : PySem.W.codeIn K cd4 "lane_of" = true) (k4 : PySem.W.keepIn K (.ref f4) = true)
  {f5 : Addr} {od5 an5 : Option Addr} {sl5 : Array (Option Value)} {oc5 kV5 dc5 pm5 ct5 cd5 : Value}
  (a5 : PySem.W.nsIn K mainGlobals "cards_in" = some (some (.ref f5))) (l5 : K.lookup f5 = some ⟨oc5,od5,.func (PySem.W.fnOf "cards_in" "cards_in" (defArgs s_cards_in) (defBody s_cards_in) (defScope s_cards_in) .none kV5 dc5 pm5 an5 cd5 ct5),sl5⟩) (c5 : PySem.W.codeIn K cd5 "cards_in" = true) (k5 : PySem.W.keepIn K (.ref f5) = true)
  {f6 : Addr} {od6 an6 : Option Addr} {sl6 : Array (Option Value)} {oc6 kV6 dc6 pm6 ct6 cd6 : Value}
  (a6 : PySem.W.nsIn K mainGlobals "many_of" = some (some (.ref f6))) (l6 : K.lookup f6 = some ⟨oc6,od6,.func (PySem.W.fnOf "many_of" "many_of" (defArgs s_many_of) (defBody s_many_of) (defScope s_many_of) .none kV6 dc6 pm6 an6 cd6 ct6),sl6⟩) (c6 : PySem.W.codeIn K cd6 "many_of" = true) (k6 : PySem.W.keepIn K (.ref f6) = true)
  {f7 : Addr} {od7 an7 : Option Addr} {sl7 : Array (Option Value)} {oc7 kV7 dc7 pm7 ct7 cd7 : Value}
  (a7 : PySem.W.nsIn K mainGlobals "_law_take" = some (some (.ref f7))) (l7 : K.lookup f7 = some ⟨oc7,od7,.func (PySem.W.fnOf "_law_take" "_law_take" (defArgs s__law_take) (defBody s__law_take) (defScope s__law_take) .none kV7 dc7 pm7 an7 cd7 ct7),sl7⟩) (c7 : PySem.W.codeIn K cd7 "_law_take" = true) (k7 : PySem.W.keepIn K (.ref f7) = true)
  {f8 : Addr} {od8 an8 : Option Addr} {sl8 : Array (Option Value)} {oc8 kV8 dc8 pm8 ct8 cd8 : Value}
  (a8 : PySem.W.nsIn K mainGlobals "_law_digits" = some (some (.ref f8))) (l8 : K.lookup f8 = some ⟨oc8,od8,.func (PySem.W.fnOf "_law_digits" "_law_digits" (defArgs s__law_digits) (defBody s__law_digits) (defScope s__law_digits) .none kV8 dc8 pm8 an8 cd8 ct8),sl8⟩) (c8 : PySem.W.codeIn K cd8 "_law_digits" = true) (k8 : PySem.W.keepIn K (.ref f8) = true)
  {f9 : Addr} {od9 an9 : Option Addr} {sl9 : Array (Option Value)} {oc9 kV9 dc9 pm9 ct9 cd9 : Value}
  (a9 : PySem.W.nsIn K mainGlobals "_law_words" = some (some (.ref f9))) (l9 : K.lookup f9 = some ⟨oc9,od9,.func (PySem.W.fnOf "_law_words" "_law_words" (defArgs s__law_words) (defBody s__law_words) (defScope s__law_words) .none kV9 dc9 pm9 an9 cd9 ct9),sl9⟩) (c9 : PySem.W.codeIn K cd9 "_law_words" = true) (k9 : PySem.W.keepIn K (.ref f9) = true)
  {f10 : Addr} {od10 an10 : Option Addr} {sl10 : Array (Option Value)} {oc10 kV10 dc10 pm10 ct10 cd10 : Value}
  (a10 : PySem.W.nsIn K mainGlobals "_law_bound" = some (some (.ref f10))) (l10 : K.lookup f10 = some ⟨oc10,od10,.func (PySem.W.fnOf "_law_bound" "_law_bound" (defArgs s__law_bound) (defBody s__law_bound) (defScope s__law_bound) .none kV10 dc10 pm10 an10 cd10 ct10),sl10⟩) (c10 : PySem.W.codeIn K cd10 "_law_bound" = true) (k10 : PySem.W.keepIn K (.ref f10) = true)
  {f11 : Addr} {od11 an11 : Option Addr} {sl11 : Array (Option Value)} {oc11 kV11 dc11 pm11 ct11 cd11 : Value}
  (a11 : PySem.W.nsIn K mainGlobals "_law_plan" = some (some (.ref f11))) (l11 : K.lookup f11 = some ⟨oc11,od11,.func (PySem.W.fnOf "_law_plan" "_law_plan" (defArgs s__law_plan) (defBody s__law_plan) (defScope s__law_plan) .none kV11 dc11 pm11 an11 cd11 ct11),sl11⟩) (c11 : PySem.W.codeIn K cd11 "_law_plan" = true) (k11 : PySem.W.keepIn K (.ref f11) = true)
  {f12 : Addr} {od12 an12 : Option Addr} {sl12 : Array (Option Value)} {oc12 kV12 dc12 pm12 ct12 cd12 : Value}
  (a12 : PySem.W.nsIn K mainGlobals "_law_kind" = some (some (.ref f12))) (l12 : K.lookup f12 = some ⟨oc12,od12,.func (PySem.W.fnOf "_law_kind" "_law_kind" (defArgs s__law_kind) (defBody s__law_kind) (defScope s__law_kind) .none kV12 dc12 pm12 an12 cd12 ct12),sl12⟩) (c12 : PySem.W.codeIn K cd12 "_law_kind" = true) (k12 : PySem.W.keepIn K (.ref f12) = true)
  {f13 : Addr} {od13 an13 : Option Addr} {sl13 : Array (Option Value)} {oc13 kV13 dc13 pm13 ct13 cd13 : Value}
  (a13 : PySem.W.nsIn K mainGlobals "_law_lane" = some (some (.ref f13))) (l13 : K.lookup f13 = some ⟨oc13,od13,.func (PySem.W.fnOf "_law_lane" "_law_lane" (defArgs s__law_lane) (defBody s__law_lane) (defScope s__law_lane) .none kV13 dc13 pm13 an13 cd13 ct13),sl13⟩) (c13 : PySem.W.codeIn K cd13 "_law_lane" = true) (k13 : PySem.W.keepIn K (.ref f13) = true)
  {f14 : Addr} {od14 an14 : Option Addr} {sl14 : Array (Option Value)} {oc14 kV14 dc14 pm14 ct14 cd14 : Value}
  (a14 : PySem.W.nsIn K mainGlobals "_law_room" = some (some (.ref f14))) (l14 : K.lookup f14 = some ⟨oc14,od14,.func (PySem.W.fnOf "_law_room" "_law_room" (defArgs s__law_room) (defBody s__law_room) (defScope s__law_room) .none kV14 dc14 pm14 an14 cd14 ct14),sl14⟩) (c14 : PySem.W.codeIn K cd14 "_law_room" = true) (k14 : PySem.W.keepIn K (.ref f14) = true)
  {f15 : Addr} {od15 an15 : Option Addr} {sl15 : Array (Option Value)} {oc15 kV15 dc15 pm15 ct15 cd15 : Value}
  (a15 : PySem.W.nsIn K mainGlobals "_law_bars" = some (some (.ref f15))) (l15 : K.lookup f15 = some ⟨oc15,od15,.func (PySem.W.fnOf "_law_bars" "_law_bars" (defArgs s__law_bars) (defBody s__law_bars) (defScope s__law_bars) .none kV15 dc15 pm15 an15 cd15 ct15),sl15⟩) (c15 : PySem.W.codeIn K cd15 "_law_bars" = true) (k15 : PySem.W.keepIn K (.ref f15) = true)
  {f16 : Addr} {od16 an16 : Option Addr} {sl16 : Array (Option Value)} {oc16 kV16 dc16 pm16 ct16 cd16 : Value}
  (a16 : PySem.W.nsIn K mainGlobals "_law_stand" = some (some (.ref f16))) (l16 : K.lookup f16 = some ⟨oc16,od16,.func (PySem.W.fnOf "_law_stand" "_law_stand" (defArgs s__law_stand) (defBody s__law_stand) (defScope s__law_stand) .none kV16 dc16 pm16 an16 cd16 ct16),sl16⟩) (c16 : PySem.W.codeIn K cd16 "_law_stand" = true) (k16 : PySem.W.keepIn K (.ref f16) = true)
  {f17 : Addr} {od17 an17 : Option Addr} {sl17 : Array (Option Value)} {oc17 kV17 dc17 pm17 ct17 cd17 : Value}
  (a17 : PySem.W.nsIn K mainGlobals "_law_same" = some (some (.ref f17))) (l17 : K.lookup f17 = some ⟨oc17,od17,.func (PySem.W.fnOf "_law_same" "_law_same" (defArgs s__law_same) (defBody s__law_same) (defScope s__law_same) .none kV17 dc17 pm17 an17 cd17 ct17),sl17⟩) (c17 : PySem.W.codeIn K cd17 "_law_same" = true) (k17 : PySem.W.keepIn K (.ref f17) = true)
  {f18 : Addr} {od18 an18 : Option Addr} {sl18 : Array (Option Value)} {oc18 kV18 dc18 pm18 ct18 cd18 : Value}
  (a18 : PySem.W.nsIn K mainGlobals "_law_refused" = some (some (.ref f18))) (l18 : K.lookup f18 = some ⟨oc18,od18,.func (PySem.W.fnOf "_law_refused" "_law_refused" (defArgs s__law_refused) (defBody s__law_refused) (defScope s__law_refused) .none kV18 dc18 pm18 an18 cd18 ct18),sl18⟩) (c18 : PySem.W.codeIn K cd18 "_law_refused" = true) (k18 : PySem.W.keepIn K (.ref f18) = true)
  {f19 : Addr} {od19 an19 : Option Addr} {sl19 : Array (Option Value)} {oc19 kV19 dc19 pm19 ct19 cd19 : Value}
  (a19 : PySem.W.nsIn K mainGlobals "_law_right" = some (some (.ref f19))) (l19 : K.lookup f19 = some ⟨oc19,od19,.func (PySem.W.fnOf "_law_right" "_law_right" (defArgs s__law_right) (defBody s__law_right) (defScope s__law_right) .none kV19 dc19 pm19 an19 cd19 ct19),sl19⟩) (c19 : PySem.W.codeIn K cd19 "_law_right" = true) (k19 : PySem.W.keepIn K (.ref f19) = true)
  {f20 : Addr} {od20 an20 : Option Addr} {sl20 : Array (Option Value)} {oc20 kV20 dc20 pm20 ct20 cd20 : Value}
  (a20 : PySem.W.nsIn K mainGlobals "law" = some (some (.ref f20))) (l20 : K.lookup f20 = some ⟨oc20,od20,.func (PySem.W.fnOf "law" "law" (defArgs s_law) (defBody s_law) (defScope s_law) .none kV20 dc20 pm20 an20 cd20 ct20),sl20⟩) (c20 : PySem.W.codeIn K cd20 "law" = true) (k20 : PySem.W.keepIn K (.ref f20) = true)
  {CE CC CK CL CO : Addr}
  (qE : PySem.W.nsIn K mainGlobals "LaneError" = some (some (.ref CE)))
  (qC : PySem.W.nsIn K mainGlobals "NoCard" = some (some (.ref CC)))
  (qK : PySem.W.nsIn K mainGlobals "NoKind" = some (some (.ref CK)))
  (qL : PySem.W.nsIn K mainGlobals "NoLane" = some (some (.ref CL)))
  (qO : PySem.W.nsIn K mainGlobals "Out" = some (some (.ref CO)))
  {fiC caC ccC : Addr} {oiC kiC diC piC tiC : Value} {odC aiC : Option Addr} {siC : Array (Option Value)} {clC : Value} {cdC : Option Addr} {cvC : Array Value} {csC : Array (Option Value)} {fxC : Str} {txC : Tok} {elC : Value} {edC : Option Addr} {esC : Array (Option Value)}
  (inC : PySem.W.findIn K (.ref CC) "__init__" = some (some (.ref fiC))) (lfC : K.lookup fiC = some ⟨oiC,odC,.func (PySem.W.ksFn "__init__" "NoCard.__init__" (defArgs s_NoCard) (defBody s_NoCard) (defScope s_NoCard) .none kiC diC piC aiC (.ref caC) tiC ccC),siC⟩) (coC : PySem.W.codeIn K (.ref caC) "NoCard.__init__" = true) (lkC : K.lookup caC = some ⟨clC,cdC,.fields cvC,csC⟩) (hvC : (cvC[2]? : Option Value) = some (.str fxC txC)) (hfC : ((l.prog.main.file : Str) == fxC) = true) (leC : K.lookup ccC = some ⟨elC,edC,.cell (some (.ref CC)),esC⟩) (fnC : PySem.W.isFn K (.ref fiC) = true) (kpC : PySem.W.keepIn K (.ref CC) = true) (mkC : excMkIn K CC = true) (alC : excAll K CC = true) (atC0 : attrIn K CC "card" = true) (rsC : raisesIn K CC = true)
  {fiK caK ccK : Addr} {oiK kiK diK piK tiK : Value} {odK aiK : Option Addr} {siK : Array (Option Value)} {clK : Value} {cdK : Option Addr} {cvK : Array Value} {csK : Array (Option Value)} {fxK : Str} {txK : Tok} {elK : Value} {edK : Option Addr} {esK : Array (Option Value)}
  (inK : PySem.W.findIn K (.ref CK) "__init__" = some (some (.ref fiK))) (lfK : K.lookup fiK = some ⟨oiK,odK,.func (PySem.W.ksFn "__init__" "NoKind.__init__" (defArgs s_NoKind) (defBody s_NoKind) (defScope s_NoKind) .none kiK diK piK aiK (.ref caK) tiK ccK),siK⟩) (coK : PySem.W.codeIn K (.ref caK) "NoKind.__init__" = true) (lkK : K.lookup caK = some ⟨clK,cdK,.fields cvK,csK⟩) (hvK : (cvK[2]? : Option Value) = some (.str fxK txK)) (hfK : ((l.prog.main.file : Str) == fxK) = true) (leK : K.lookup ccK = some ⟨elK,edK,.cell (some (.ref CK)),esK⟩) (fnK : PySem.W.isFn K (.ref fiK) = true) (kpK : PySem.W.keepIn K (.ref CK) = true) (mkK : excMkIn K CK = true) (alK : excAll K CK = true) (atK0 : attrIn K CK "kind" = true) (rsK : raisesIn K CK = true)
  (topS : (l.prog.main.scope.names.lookup ("super" : Str)).isSome = false) (xE : excClsIn K CE = true)
  (xm : PySem.W.mroIn K CC (.ref CE) = some true)
  (xk : kindIn K CC = true)
  (xi : PySem.W.kitOne K (.ref CC) (.ref CC) = some true)
  (xv : PySem.W.kitOne K (.ref CC) (.type "ValueError") = some true)
  (xo : PySem.W.kitAny K (.ref CC) [.ref CK,.ref CL,.ref CO] = some false)
  (z0 : PySem.W.nsIn K mainGlobals "len" = some none)
  (z1 : PySem.W.nsIn K mainGlobals "range" = some none)
  (z2 : PySem.W.nsIn K mainGlobals "sorted" = some none)
  (z3 : PySem.W.nsIn K mainGlobals "set" = some none)
  (z4 : PySem.W.nsIn K mainGlobals "zip" = some none)
  (z5 : PySem.W.nsIn K mainGlobals "tuple" = some none)
  (z6 : PySem.W.nsIn K mainGlobals "list" = some none)
  (z7 : PySem.W.nsIn K mainGlobals "isinstance" = some none)
  (z8 : PySem.W.nsIn K mainGlobals "ValueError" = some none)
  (z9 : PySem.W.nsIn K mainGlobals "int" = some none)
  (z10 : PySem.W.nsIn K mainGlobals "bool" = some none)
  (z11 : PySem.W.nsIn K mainGlobals "all" = some none)
  (z12 : PySem.W.nsIn K mainGlobals "min" = some none)
  (z13 : PySem.W.nsIn K mainGlobals "super" = some none)
  (gl0 : PySem.W.nsIn K mainGlobals "YARD" = some (some (.int (-1) t0)))
  :
  ∃ fd : FuncData,(∀ (s : Shared) (v : Value),BindsTo s fd ⟨[v],[]⟩ [("_law_script",v)])/\∀ base : Heap,K.In base->base.Ns mainGlobals mg->BltMod mg base->FnOk l.prog w K mg base CX0 10 fa fd ["_law_script"] (spLaw (tabsOf K gnames) K):=by
 have e:=hfa.symm.trans (PySem.W.mg_of X G a20)
 cases e
 have T : Txt K mg:=⟨PySem.W.mg_none_of X G z0,PySem.W.mg_none_of X G z1,PySem.W.mg_none_of X G z2,PySem.W.mg_none_of X G z3,PySem.W.mg_none_of X G z4,PySem.W.mg_none_of X G z5,PySem.W.mg_none_of X G z6,PySem.W.mg_none_of X G z7,PySem.W.mg_none_of X G z8,PySem.W.mg_none_of X G z9,PySem.W.mg_none_of X G z10,PySem.W.mg_none_of X G z11,PySem.W.mg_none_of X G z12⟩
 have TP : TxP K mg:=⟨PySem.W.mg_none_of X G z0,⟨_,PySem.W.mg_of X G gl0,⟨_,rfl⟩⟩⟩
 have TC : TxC K mg CE CC CK CL CO:=⟨PySem.W.mg_none_of X G z7,PySem.W.mg_none_of X G z8,⟨_,PySem.W.mg_of X G qC,rfl⟩,⟨_,PySem.W.mg_of X G qK,rfl⟩,⟨_,PySem.W.mg_of X G qL,rfl⟩,⟨_,PySem.W.mg_of X G qO,rfl⟩,PySem.W.mg_of X G qE,xE⟩
 have Xc : XcC K CE CC CK CL CO:=⟨xm,xk,atC0,xi,xv,xo⟩
 have F0:=fun_mk (st:=s_kind_of) l0 c0 k0
 have b0:=F0.binds (ps:=["plan","kind"]) fun _ _ _ _ _ _ us hl=>match us,hl with | [_,_],_=>rfl
 have F1:=fun_mk (st:=s_way_of) l1 c1 k1
 have b1:=F1.binds (ps:=["plan","kind"]) fun _ _ _ _ _ _ us hl=>match us,hl with | [_,_],_=>rfl
 have F2:=fun_mk (st:=s_lane_at) l2 c2 k2
 have b2:=F2.binds (ps:=["plan","kind","place"]) fun _ _ _ _ _ _ us hl=>match us,hl with | [_,_,_],_=>rfl
 have F3:=fun_mk (st:=s_card_of) l3 c3 k3
 have b3:=F3.binds (ps:=["stand","card"]) fun _ _ _ _ _ _ us hl=>match us,hl with | [_,_],_=>rfl
 have F4:=fun_mk (st:=s_lane_of) l4 c4 k4
 have b4:=F4.binds (ps:=["plan","stand","card"]) fun _ _ _ _ _ _ us hl=>match us,hl with | [_,_,_],_=>rfl
 have F5:=fun_mk (st:=s_cards_in) l5 c5 k5
 have b5:=F5.binds (ps:=["plan","stand","lane"]) fun _ _ _ _ _ _ us hl=>match us,hl with | [_,_,_],_=>rfl
 have F6:=fun_mk (st:=s_many_of) l6 c6 k6
 have b6:=F6.binds (ps:=["plan","stand","lane","kind"]) fun _ _ _ _ _ _ us hl=>match us,hl with | [_,_,_,_],_=>rfl
 have F7:=fun_mk (st:=s__law_take) l7 c7 k7
 have b7:=F7.binds (ps:=["_law_held","_law_many"]) fun _ _ _ _ _ _ us hl=>match us,hl with | [_,_],_=>rfl
 have F8:=fun_mk (st:=s__law_digits) l8 c8 k8
 have b8:=F8.binds (ps:=["_law_script","_law_k"]) fun _ _ _ _ _ _ us hl=>match us,hl with | [_,_],_=>rfl
 have F9:=fun_mk (st:=s__law_words) l9 c9 k9
 have b9:=F9.binds (ps:=["_law_held","_law_many"]) fun _ _ _ _ _ _ us hl=>match us,hl with | [_,_],_=>rfl
 have F10:=fun_mk (st:=s__law_bound) l10 c10 k10
 have b10:=F10.binds (ps:=["_law_held"]) fun _ _ _ _ _ _ us hl=>match us,hl with | [_],_=>rfl
 have F11:=fun_mk (st:=s__law_plan) l11 c11 k11
 have b11:=F11.binds (ps:=["_law_held"]) fun _ _ _ _ _ _ us hl=>match us,hl with | [_],_=>rfl
 have F12:=fun_mk (st:=s__law_kind) l12 c12 k12
 have b12:=F12.binds (ps:=["_law_plan_here","_law_name"]) fun _ _ _ _ _ _ us hl=>match us,hl with | [_,_],_=>rfl
 have F13:=fun_mk (st:=s__law_lane) l13 c13 k13
 have b13:=F13.binds (ps:=["_law_plan_here","_law_one"]) fun _ _ _ _ _ _ us hl=>match us,hl with | [_,_],_=>rfl
 have F14:=fun_mk (st:=s__law_room) l14 c14 k14
 have b14:=F14.binds (ps:=["_law_plan_here","_law_bounds","_law_cards","_law_kind_here","_law_lane_here"]) fun _ _ _ _ _ _ us hl=>match us,hl with | [_,_,_,_,_],_=>rfl
 have F15:=fun_mk (st:=s__law_bars) l15 c15 k15
 have b15:=F15.binds (ps:=["_law_plan_here","_law_cards","_law_wait"]) fun _ _ _ _ _ _ us hl=>match us,hl with | [_,_,_],_=>rfl
 have F16:=fun_mk (st:=s__law_stand) l16 c16 k16
 have b16:=F16.binds (ps:=["_law_held","_law_plan_here","_law_most"]) fun _ _ _ _ _ _ us hl=>match us,hl with | [_,_,_],_=>rfl
 have F17:=fun_mk (st:=s__law_same) l17 c17 k17
 have b17:=F17.binds (ps:=["_law_found","_law_due"]) fun _ _ _ _ _ _ us hl=>match us,hl with | [_,_],_=>rfl
 have F18:=fun_mk (st:=s__law_refused) l18 c18 k18
 have b18:=F18.binds (ps:=["_law_plan_here","_law_stand_here","_law_name","_law_way"]) fun _ _ _ _ _ _ us hl=>match us,hl with | [_,_,_,_],_=>rfl
 have F19:=fun_mk (st:=s__law_right) l19 c19 k19
 have b19:=F19.binds (ps:=["_law_plan_here","_law_stand_here","_law_names"]) fun _ _ _ _ _ _ us hl=>match us,hl with | [_,_,_],_=>rfl
 have F20:=fun_mk (st:=s_law) l20 c20 k20
 have et : tabsOf K gnames = []:=rfl
 rw [et]
 refine ⟨PySem.W.fnOf "law" "law" (defArgs s_law) (defBody s_law) (defScope s_law) .none kV20 dc20 pm20 an20 cd20 ct20,fun s v=>.of_eq rfl,fun base kb nb hbm=>?_⟩
 have M_NoCard : MakeOk l.prog w K mg base "NoCard" CC 2 ["self","card"] (spIniN CC ["card"]):=⟨fiC,_,⟨mkC,inC,fnC,kpC⟩,ok_ini_NoCard ⟨⟨oiC,odC,kiC,diC,piC,aiC,tiC,siC,rfl,lfC⟩,coC,⟨clC,cdC,cvC,csC,fxC,txC,lkC,hvC,hfC⟩,⟨elC,edC,esC,leC⟩,PySem.W.mg_none_of X G z13,topS,alC⟩ atC0,PySem.W.mg_of X G qC,.all fun us hl=>match us,hl with | [_,_],_=>rfl⟩
 have M_NoKind : MakeOk l.prog w K mg base "NoKind" CK 2 ["self","kind"] (spIniN CK ["kind"]):=⟨fiK,_,⟨mkK,inK,fnK,kpK⟩,ok_ini_NoKind ⟨⟨oiK,odK,kiK,diK,piK,aiK,tiK,siK,rfl,lfK⟩,coK,⟨clK,cdK,cvK,csK,fxK,txK,lkK,hvK,hfK⟩,⟨elK,edK,esK,leK⟩,PySem.W.mg_none_of X G z13,topS,alK⟩ atK0,PySem.W.mg_of X G qK,.all fun us hl=>match us,hl with | [_,_],_=>rfl⟩
 have C_kind_of : CallOkX l.prog w K mg base "kind_of" 4 ["plan","kind"] (spKind CK):=⟨f0,_,ok_kind_of F0 M_NoKind rsK ,PySem.W.mg_of X G a0,k0,b0⟩
 have C_way_of : CallOkX l.prog w K mg base "way_of" 5 ["plan","kind"] (spWay CK):=⟨f1,_,ok_way_of F1  C_kind_of,PySem.W.mg_of X G a1,k1,b1⟩
 have C_lane_at : CallOk l.prog w K mg base "lane_at" 6 ["plan","kind","place"] spLaneAt:=⟨f2,_,ok_lane_at F2 TP C_way_of,PySem.W.mg_of X G a2,k2,b2⟩
 have C_card_of : CallOkX l.prog w K mg base "card_of" 4 ["stand","card"] (spCard CC):=⟨f3,_,ok_card_of F3 M_NoCard rsC ,PySem.W.mg_of X G a3,k3,b3⟩
 have C_lane_of : CallOkX l.prog w K mg base "lane_of" 7 ["plan","stand","card"] (spLaneOf CC):=⟨f4,_,ok_lane_of F4  C_card_of C_lane_at,PySem.W.mg_of X G a4,k4,b4⟩
 have C_cards_in : CallOk l.prog w K mg base "cards_in" 7 ["plan","stand","lane"] spIn:=⟨f5,_,ok_cards_in F5  C_lane_at,PySem.W.mg_of X G a5,k5,b5⟩
 have C_many_of : CallOk l.prog w K mg base "many_of" 7 ["plan","stand","lane","kind"] spMany:=⟨f6,_,ok_many_of F6 TP C_lane_at,PySem.W.mg_of X G a6,k6,b6⟩
 have C__law_take : CallOk l.prog w K mg base "_law_take" 1 ["_law_held","_law_many"] spTake:=⟨f7,_,ok_take F7  ,PySem.W.mg_of X G a7,k7,b7⟩
 have C__law_digits : CallOk l.prog w K mg base "_law_digits" 1 ["_law_script","_law_k"] (spDigits K):=⟨f8,_,ok_digits F8 T ,PySem.W.mg_of X G a8,k8,b8⟩
 have C__law_words : CallOk l.prog w K mg base "_law_words" 2 ["_law_held","_law_many"] spWordsN:=⟨f9,_,ok_words F9 T C__law_take,PySem.W.mg_of X G a9,k9,b9⟩
 have C__law_bound : CallOk l.prog w K mg base "_law_bound" 2 ["_law_held"] spBound:=⟨f10,_,ok_lbound F10  C__law_take,PySem.W.mg_of X G a10,k10,b10⟩
 have C__law_plan : CallOk l.prog w K mg base "_law_plan" 3 ["_law_held"] spPlanG:=⟨f11,_,ok_lplan F11 T C__law_take C__law_words C__law_bound,PySem.W.mg_of X G a11,k11,b11⟩
 have C__law_kind : CallOk l.prog w K mg base "_law_kind" 1 ["_law_plan_here","_law_name"] spLKind:=⟨f12,_,ok_lkind F12  ,PySem.W.mg_of X G a12,k12,b12⟩
 have C__law_lane : CallOk l.prog w K mg base "_law_lane" 2 ["_law_plan_here","_law_one"] spLLane:=⟨f13,_,ok_llane F13 T C__law_kind,PySem.W.mg_of X G a13,k13,b13⟩
 have C__law_room : CallOk l.prog w K mg base "_law_room" 3 ["_law_plan_here","_law_bounds","_law_cards","_law_kind_here","_law_lane_here"] spLRoom:=⟨f14,_,ok_lroom F14 T C__law_lane,PySem.W.mg_of X G a14,k14,b14⟩
 have C__law_bars : CallOk l.prog w K mg base "_law_bars" 3 ["_law_plan_here","_law_cards","_law_wait"] spLBars:=⟨f15,_,ok_lbars F15 T C__law_lane,PySem.W.mg_of X G a15,k15,b15⟩
 have C__law_stand : CallOk l.prog w K mg base "_law_stand" 4 ["_law_held","_law_plan_here","_law_most"] spLStand:=⟨f16,_,ok_lstand F16 T C__law_take C__law_bound C__law_words C__law_lane C__law_room C__law_bars,PySem.W.mg_of X G a16,k16,b16⟩
 have C__law_same : CallOk l.prog w K mg base "_law_same" 2 ["_law_found","_law_due"] (spS 2):=call_same F17 T (PySem.W.mg_of X G a17) k17 b17 2
 have C__law_refused : CallOk l.prog w K mg base "_law_refused" 8 ["_law_plan_here","_law_stand_here","_law_name","_law_way"] spRef:=⟨f18,_,ok_refused F18 TC Xc C_card_of C_lane_of,PySem.W.mg_of X G a18,k18,b18⟩
 have C__law_right : CallOk l.prog w K mg base "_law_right" 9 ["_law_plan_here","_law_stand_here","_law_names"] spRight:=⟨f19,_,ok_right F19 T C__law_lane C__law_same C__law_refused C_card_of C_lane_of C_cards_in C_many_of,PySem.W.mg_of X G a19,k19,b19⟩
 exact ok_law F20 T C__law_digits C__law_take C__law_plan C__law_words C__law_stand C__law_right
theorem walk {l : PySem.W.OpenLaw} {q : Program} {loose : List Str} {XP : (Str->Option Value)->Heap->Prop} {YP : World->Heap->Prop} {d : DefRec} {K : Params->PySem.W.Frag} (hn : l.most = some 63) (hdf : d.params.defaults = [])
  (hY : ∀ (w : World) (h : Heap),YP w h->(K w.params).In h)
  (hgn : ∀ y ∈ gnames,((recsOf q).find? (fun e=>e.name == y)).isSome = true)
  (hT : ∀ (w : World) (h : Heap),(K w.params).In h->∀ y ∈ gnames,∀ c P,PySem.W.tabIn (K w.params) y = some (c,P)->(K w.params).lookup P = none)
  (F : ∀ (w : World) (mg : Str->Option Value) (fa : Addr) (h : Heap),(K w.params).In h->h.Ns mainGlobals mg->mg d.name = some (.ref fa) ->
   ∃ fd : FuncData,(∀ (s : Shared) (u : Value),BindsTo s fd ⟨[u],[]⟩ [("_law_script",u)])/\∀ base : Heap,(K w.params).In base->base.Ns mainGlobals mg->BltMod mg base->FnOk l.prog w (K w.params) mg base CX0 10 fa fd ["_law_script"] (spLaw (tabsOf (K w.params) gnames) (K w.params))) :
  PySem.W.WalkO q loose XP YP l.row.toRowW d [] (fun f vs=>PySem.call f vs) :=
 L2.walk_ofT (n:=63) (k:=10) (x := "_law_script") (CX:=fun _=>CX0) (sp:=fun w=>spLaw (tabsOf (K w.params) gnames) (K w.params)) gnames hn (by decide) hdf ⟨rfl,by decide,by decide⟩ hY hgn hT F
  (fun w H a ns hl hO hS=>⟨a,ns,rfl,hS,hl,fun P hP=>⟨#[],hO.2 P hP,by trivial⟩,fun _=>rfl⟩) fun _ _ _ _ _ z=>z
end K08
def PySem.W.Fast.tw8069094345276733079 : Unit := ()
def PySem.W.Fast.tw9652220997821647280 : Unit := ()
def PySem.W.Fast.tw9440601834198469650 : Unit := ()
def PySem.W.Fast.tw2231536125049624964 : Unit := ()
def PySem.W.Fast.tw14428353134580496169 : Unit := ()
def PySem.W.Fast.tw4576524454204243725 : Unit := ()
def PySem.W.Fast.tw7519201799279398098 : Unit := ()
def PySem.W.Fast.tw14254865803128544103 : Unit := ()
def PySem.W.Fast.tw12644172638489439961 : Unit := ()
def PySem.W.Fast.tw4383170695763238142 : Unit := ()
def PySem.W.Fast.tw16694879957893405405 : Unit := ()
def PySem.W.Fast.tw13411701439577965785 : Unit := ()
def PySem.W.Fast.tw15067886761562928604 : Unit := ()
def PySem.W.Fast.tw2742553806296789959 : Unit := ()
def PySem.W.Fast.tw17444730189584706793 : Unit := ()
def PySem.W.Fast.tw1471650396906147869 : Unit := ()
def PySem.W.Fast.tw6221497897342574598 : Unit := ()
def PySem.W.Fast.tw4614895323301953153 : Unit := ()
def PySem.W.Fast.tw17322403555190767437 : Unit := ()
def PySem.W.Fast.tw15028430492600939048 : Unit := ()
def PySem.W.Fast.tw3924025294095979737 : Unit := ()
def PySem.W.Fast.tw14947675667063009587 : Unit := ()
def PySem.W.Fast.tw14435642052029126224 : Unit := ()
def PySem.W.Fast.tw931946864125548280 : Unit := ()
def PySem.W.Fast.tw491318904955869419 : Unit := ()
def PySem.W.Fast.tw16172384389331200849 : Unit := ()
def PySem.W.Fast.tw9027438379119462007 : Unit := ()
def PySem.W.Fast.tw7333154792632093534 : Unit := ()
def PySem.W.Fast.tw13005581331939259387 : Unit := ()
def PySem.W.Fast.tw15700370042661310799 : Unit := ()
def PySem.W.Fast.tw13981455022397189065 : Unit := ()
def PySem.W.Fast.tw7965689415317560055 : Unit := ()
def PySem.W.Fast.tw10954310029543087138 : Unit := ()
def PySem.W.Fast.tw2070348986019640591 : Unit := ()
def PySem.W.Fast.tw11926270700650260764 : Unit := ()
def PySem.W.Fast.tw5740299697221971201 : Unit := ()
def PySem.W.Fast.tw1936192571802624031 : Unit := ()
def PySem.W.Fast.tw17414835787389144464 : Unit := ()
def PySem.W.Fast.tw8844059289573030501 : Unit := ()
open PySem PySem.W PyProof.Rows
set_option maxRecDepth 100000 in
set_option maxHeartbeats 0 in
theorem PySem.Challenge.cw_cardlanes_k08_lanes_and_counts_holds : PySem.Challenge.rw_cardlanes_k08_lanes_and_counts.Holds := by
 w_on;o_law;k_head;(case hw=>w_witness2)
 k_fill
 refine K08.walk (l:=PySem.Challenge.rw_cardlanes_k08_lanes_and_counts) rfl rfl (fun w h Y=>PySem.W.kIn_of Y) ?G ?T ?F
 case F =>
  intro w mg fa h KX G hmg
  refine' K08.all_mk KX G hmg ?a0 ?l0 ?c0 ?k0 ?a1 ?l1 ?c1 ?k1 ?a2 ?l2 ?c2 ?k2 ?a3 ?l3 ?c3 ?k3 ?a4 ?l4 ?c4 ?k4 ?a5 ?l5 ?c5 ?k5 ?a6 ?l6 ?c6 ?k6 ?a7 ?l7 ?c7 ?k7 ?a8 ?l8 ?c8 ?k8 ?a9 ?l9 ?c9 ?k9 ?a10 ?l10 ?c10 ?k10 ?a11 ?l11 ?c11 ?k11 ?a12 ?l12 ?c12 ?k12 ?a13 ?l13 ?c13 ?k13 ?a14 ?l14 ?c14 ?k14 ?a15 ?l15 ?c15 ?k15 ?a16 ?l16 ?c16 ?k16 ?a17 ?l17 ?c17 ?k17 ?a18 ?l18 ?c18 ?k18 ?a19 ?l19 ?c19 ?k19 ?a20 ?l20 ?c20 ?k20 ?qE ?qC ?qK ?qL ?qO ?inC ?lfC ?coC ?lkC ?hvC ?hfC ?leC ?fnC ?kpC ?mkC ?alC ?atC0 ?rsC ?inK ?lfK ?coK ?lkK ?hvK ?hfK ?leK ?fnK ?kpK ?mkK ?alK ?atK0 ?rsK ?topS ?xE ?xm ?xk ?xi ?xv ?xo ?z0 ?z1 ?z2 ?z3 ?z4 ?z5 ?z6 ?z7 ?z8 ?z9 ?z10 ?z11 ?z12 ?z13 ?gl0
  (case a0=>k_is)
  (case l0=>k_is)
  (case c0=>k_is)
  (case k0=>k_is)
  (case a1=>k_is)
  (case l1=>k_is)
  (case c1=>k_is)
  (case k1=>k_is)
  (case a2=>k_is)
  (case l2=>k_is)
  (case c2=>k_is)
  (case k2=>k_is)
  (case a3=>k_is)
  (case l3=>k_is)
  (case c3=>k_is)
  (case k3=>k_is)
  (case a4=>k_is)
  (case l4=>k_is)
  (case c4=>k_is)
  (case k4=>k_is)
  (case a5=>k_is)
  (case l5=>k_is)
  (case c5=>k_is)
  (case k5=>k_is)
  (case a6=>k_is)
  (case l6=>k_is)
  (case c6=>k_is)
  (case k6=>k_is)
  (case a7=>k_is)
  (case l7=>k_is)
  (case c7=>k_is)
  (case k7=>k_is)
  (case a8=>k_is)
  (case l8=>k_is)
  (case c8=>k_is)
  (case k8=>k_is)
  (case a9=>k_is)
  (case l9=>k_is)
  (case c9=>k_is)
  (case k9=>k_is)
  (case a10=>k_is)
  (case l10=>k_is)
  (case c10=>k_is)
  (case k10=>k_is)
  (case a11=>k_is)
  (case l11=>k_is)
  (case c11=>k_is)
  (case k11=>k_is)
  (case a12=>k_is)
  (case l12=>k_is)
  (case c12=>k_is)
  (case k12=>k_is)
  (case a13=>k_is)
  (case l13=>k_is)
  (case c13=>k_is)
  (case k13=>k_is)
  (case a14=>k_is)
  (case l14=>k_is)
  (case c14=>k_is)
  (case k14=>k_is)
  (case a15=>k_is)
  (case l15=>k_is)
  (case c15=>k_is)
  (case k15=>k_is)
  (case a16=>k_is)
  (case l16=>k_is)
  (case c16=>k_is)
  (case k16=>k_is)
  (case a17=>k_is)
  (case l17=>k_is)
  (case c17=>k_is)
  (case k17=>k_is)
  (case a18=>k_is)
  (case l18=>k_is)
  (case c18=>k_is)
  (case k18=>k_is)
  (case a19=>k_is)
  (case l19=>k_is)
  (case c19=>k_is)
  (case k19=>k_is)
  (case a20=>k_is)
  (case l20=>k_is)
  (case c20=>k_is)
  (case k20=>k_is)
  (case qE=>k_is)
  (case qC=>k_is)
  (case qK=>k_is)
  (case qL=>k_is)
  (case qO=>k_is)
  (case inC=>k_is)
  (case lfC=>k_is)
  (case coC=>k_is)
  (case lkC=>k_is)
  (case hvC=>rfl)
  (case hfC=>kernel_rfl)
  (case leC=>k_is)
  (case fnC=>k_is)
  (case kpC=>k_is)
  (case mkC=>kernel_rfl)
  (case alC=>kernel_rfl)
  (case atC0=>kernel_rfl)
  (case rsC=>kernel_rfl)
  (case inK=>k_is)
  (case lfK=>k_is)
  (case coK=>k_is)
  (case lkK=>k_is)
  (case hvK=>rfl)
  (case hfK=>kernel_rfl)
  (case leK=>k_is)
  (case fnK=>k_is)
  (case kpK=>k_is)
  (case mkK=>kernel_rfl)
  (case alK=>kernel_rfl)
  (case atK0=>kernel_rfl)
  (case rsK=>kernel_rfl)
  (case topS=>kernel_rfl)
  (case xE=>kernel_rfl)
  (case xm=>kernel_rfl)
  (case xk=>kernel_rfl)
  (case xi=>kernel_rfl)
  (case xv=>kernel_rfl)
  (case xo=>kernel_rfl)
  (case z0=>k_is)
  (case z1=>k_is)
  (case z2=>k_is)
  (case z3=>k_is)
  (case z4=>k_is)
  (case z5=>k_is)
  (case z6=>k_is)
  (case z7=>k_is)
  (case z8=>k_is)
  (case z9=>k_is)
  (case z10=>k_is)
  (case z11=>k_is)
  (case z12=>k_is)
  (case z13=>k_is)
  (case gl0=>k_is)
 case T=>exact fun w h KX y hy=>nomatch hy
 case G=>decide +kernel
end
